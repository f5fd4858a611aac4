import PyProof.Rows.All
import Wide.All
import OpenK.AllK
import Wide.FinOn
import Lean
import PyProof.EqAt
import PyProof.EqKinds
import PyProof.TupleCall
import PyProof.NeData
import PyProof.StrLawsChain
import KE.KSortTup
import KE.KRevSl
import KE.KMinKey
import PyProof.P3In
import KE.KRevIter
import KE.KDictSum
import PyProof.StrCalls6
import PyProof.ToksMono
import PyProof.ReprRoads
import PyProof.StrOps2
import KE.KDictLaws
import KE.KDictList
import PyProof.DictValues
import PyProof.TupleKey
import PyProof.IsRules
import PyProof.Rows.SetFrom
import PyProof.DictWalks
import PyProof.FactsAll.set_1
import PyProof.ReprText
import KE.KLam
import PyProof.ListStr
import PyProof.Rows.Range3
import PySem.Challenge.RW_loggather_k38_whole_lines_as_patterns
open List renaming length_map→NU,mem_of_getElem?→NV,getElem?_eq_getElem→NW,mem_cons_of_mem→NY,take_of_length_le→NZ,getElem?_map→N1,mem_singleton→N3,mem_cons_self→N4,mem_map→N5,length_take→N7,map_append→N8,getD_eq_getElem?_getD→N9,size_toArray→Ob,map_cons→Oc,mem_append_right→Od
open Nat renaming le_refl→NX,le_trans→N2
open Bool renaming false_ne_true→N6,and_eq_true→Oa
set_option Elab.async false
set_option linter.all false
set_option autoImplicit false
set_option maxRecDepth 100000
namespace L2
open PySem PySem.W
section
variable {p:Program}{q:Program}{loose:List Str}{Xt:Shared->Bool}{α:Type}{Yf:Shared->α}{Ya:World->α}{N:Nat}{H₀:Params->Heap}{d₀:Drawn}{k₀ m₀:Nat}{ann:Option Value}{env:Env}{c:Code}{qp:Pos}
def uM (p q:Program) (loose:List Str) (Xt:Shared->Bool) {α:Type} (Yf:Shared->α) (Ya:World->α) (H₀:Params->Heap) (m₀:Nat) (ann:Option Value) (env:Env) (c:Code) (qp:Pos) (n:Nat) (l:List Stmt) (pos:Pos) (w:World) (s:Shared):Prop:=
 ∃ r,topRun treeTable p w m₀ ann n s (restOf l env c pos [topFrame qp])=some r/\(staticsOk (importedModules p.main.body) (H₀ w.params) r.heap && namesBound p r.heap && gensDone r && laidKept (H₀ w.params) r.heap)=true/\openSeen q loose (importedModules p.main.body) Xt true r=openGood q loose/\Yf r=Ya w
theorem Dl {n nF:Nat}{l:List Stmt}{pos:Pos}{w:World}{s:Shared}
  (h:(segRun treeTable p w m₀ ann 1 n s (piecesOf l env c pos [topFrame qp])).bind (λz=>(topRun treeTable p w m₀ ann nF z.2.1 ⟨doneF .next,c,z.2.2.2,[topFrame qp]⟩).map λr=>(z.1,z.2.2.1,(staticsOk (importedModules p.main.body) (H₀ w.params) r.heap && namesBound p r.heap && gensDone r && laidKept (H₀ w.params) r.heap),openSeen q loose (importedModules p.main.body) Xt true r,Yf r))=some (.next,c,true,openGood q loose,Ya w)) :
  uM p q loose Xt Yf Ya H₀ m₀ ann env c qp (n+nF) l pos w s:=by
 obtain ⟨⟨f,s',c',p'⟩,h1,h2⟩:=Option.bind_eq_some_iff.mp h;obtain ⟨r,h3,h4⟩:=Option.map_eq_some_iff.mp h2;simp only [Prod.mk.injEq] at h4;obtain ⟨e1,e2,e3,e4,e5⟩:=h4;have e1':f=Flow.next:=e1;have e2':c' = c:=e2;subst e1' e2';have:=piece_app (rest:=[]) h1 (piece_nil h3);rw [List.append_nil] at this;exact ⟨r,this,e3,e4,e5⟩
theorem xP {n n':Nat}{l l' l2:List Stmt}{pos pos':Pos}{w:World}{s s':Shared} (h:segRun treeTable p w m₀ ann 1 n s (piecesOf l env c pos [topFrame qp])=some (.next,s',c,pos')) (hl:l++l' = l2) (t:uM p q loose Xt Yf Ya H₀ m₀ ann env c qp n' l' pos' w s'):uM p q loose Xt Yf Ya H₀ m₀ ann env c qp (n+n') l2 pos w s:=by
 obtain ⟨r,h1,h2⟩:=t;rw [<-hl];exact ⟨r,piece_app h h1,h2⟩
theorem Es (b:List Stmt) (a d:Nat):(b.drop a).take d++b.drop (a+d)=b.drop a:=by
 rw [<-List.drop_drop];exact List.take_append_drop _ _
theorem DT {nP nB n1 n2:Nat}{b l1 l2:List Stmt}{KJ pos:Pos}{HM:Params->Heap}{dM:Drawn}{kM:Nat} (hc:c = .body b env) (hb:l1++l2=b)
  (Lp:∀ w:World,(fencedOpening treeTable p w N).map (λs=>(s.heap,s.gens,s.drawn,s.toks))=some (H₀ w.params,Array.mk [],d₀,k₀))
  (size:∀ w:World,((H₀ w.params).isNs mainGlobals,(H₀ w.params).objs.size,(H₀ w.params).nsMap mainGlobals "__annotations__")=(true,m₀,ann))
  (h1:∀ (w:World) (os:OsState),(topGo treeTable p w m₀ ann nP ⟨H₀ w.params,Array.mk [],d₀,k₀,os⟩ (topStub p)).bind (λx=>(segRun treeTable p w m₀ ann 1 nB x.1 (blockOf b env c KJ [topFrame qp])).bind λy=>(segRun treeTable p w m₀ ann 1 n1 y.2.1 (piecesOf l1 env c y.2.2.2 [topFrame qp])).map λz=>(x.2,y.1,y.2.2.1,z))=some (⟨denote treeTable c,c,KJ,[topFrame qp]⟩,.next,c,(.next,⟨HM w.params,Array.mk [],dM,kM,os⟩,c,pos)))
  (h2:∀ (w:World) (os:OsState),uM p q loose Xt Yf Ya H₀ m₀ ann env c qp n2 l2 pos w ⟨HM w.params,Array.mk [],dM,kM,os⟩) (le:Nat.ble (nP+(nB+(n1+n2))) N=true):LeftO p q loose Xt Yf Ya N true:=λw=>by
 obtain ⟨⟨h,gs,d,k,os⟩,e,e'⟩:=Option.map_eq_some_iff.mp (Lp w);obtain ⟨rfl,rfl,rfl,rfl⟩:h=H₀ w.params/\gs=Array.mk []/\d=d₀/\k=k₀:=by simpa using e'
 obtain ⟨z1,z2,z3⟩:_/\_/\_:=by simpa only [Prod.mk.injEq] using size w
 obtain ⟨⟨sa,ta⟩,a1,a2⟩:=Option.bind_eq_some_iff.mp (h1 w os);obtain ⟨⟨fb,sb,cb,pb⟩,b1,b2⟩:=Option.bind_eq_some_iff.mp a2;obtain ⟨⟨fz,sz,cz,pz⟩,c1,c2⟩:=Option.map_eq_some_iff.mp b2;simp only [Prod.mk.injEq] at c2;obtain ⟨t1,t2,t3,t4,t5,t6,t7⟩:=c2;subst t1 t2 t3 t4 t5 t6 t7;obtain ⟨r,g1,g2,g3,g4⟩:=h2 w os;have p1:=piece_app c1 g1;rw [hb] at p1;subst hc;have p2:=piece_block b1 p1;have p3:=go_top a1 p2;have p4:=topRun_mono (N - (nP+(nB+(n1+n2)))) _ _ _ _ p3;rw [show nP+(nB+(n1+n2))+(N - (nP+(nB+(n1+n2))))=N by have:=Nat.le_of_ble_eq_true le;lia] at p4;have t:topFrom treeTable p w N ⟨H₀ w.params,Array.mk [],d,k,os⟩=some r:=by
  unfold topFrom;dsimp only;rw [z1,z2,z3,p4];show (match staticsOk (importedModules p.main.body) (H₀ w.params) r.heap && namesBound p r.heap && gensDone r && laidKept (H₀ w.params) r.heap with | true=>some r | false=>none)=some r
  rw [g2]
 unfold openEnds;rw [e];show ((topFrom treeTable p w N ⟨H₀ w.params,Array.mk [],d,k,os⟩).map λs=>(openSeen q loose (importedModules p.main.body) Xt true s,Yf s))=_;rw [t];show some (openSeen q loose (importedModules p.main.body) Xt true r,Yf r)=_;rw [g3,g4]
end
end L2
namespace L2
open PySem
def eZ (s:Stmt):Arguments:=match s with
 | .FunctionDef _ a _ _ _ _ _ _ _ _=>a
 | _=>{ posonlyargs:=[],args:=[],vararg:=none,kwonlyargs:=[],kw_defaults:=[],kwarg:=none,defaults:=[] }
def cT (s:Stmt):List Stmt:=match s with
 | .FunctionDef _ _ b _ _ _ _ _ _ _=>b
 | _=>[]
def ag (s:Stmt):Scope:=match s with
 | .FunctionDef _ _ _ _ _ _ sc _ _ _=>sc
 | _=>{ kind:=.function,names:=[],isGenerator:=false,isCoroutine:=false }
end L2
namespace K38
open PySem L2
def top (i:Nat):Stmt:=PySem.Challenge.pw_loggather_k38_whole_lines_as_patterns.main.body.getD i (.Pass ⟨0,0,0,0⟩)
def hqC (x:Str) (a:Nat) (L n:Int) (r:Nat) (d:Nat):Obj:=⟨.type "code",none,.fields #[.str x a,.str x (a+1),.str "/claim/cut.py" (a+2),.int L 0,.int n 0,.int 0 0,.int 0 0,.int 3 0,.ref r,.bool true,.int 181 0,.ref (r+1),.none,.ref (r+2),.ref (r+3),.ref (r+4),.int (Int.ofNat d) 0,.int L 0,.str "/claim/cut.py" (d+1)],#[]⟩
def hqD (x:Str) (a:Nat) (L n:Int) (r:Nat):Obj:=⟨.type "code",none,.fields #[.str x a,.str x (a+1),.str "/claim/cut.py" (a+2),.int L 0,.int n 0,.int 0 0,.int 0 0,.int 3 0,.ref r,.bool true,.int 181 0,.ref (r+1),.none,.none,.none,.ref (r+2),.int (Int.ofNat (a+3)) 0,.int L 0,.str "/claim/cut.py" (a+4)],#[]⟩
def hqU (l:List Value):Obj:=⟨.type "tuple",none,.seq l.toArray 0,#[]⟩
def hqN:Obj:=⟨.none,none,.fields #[],#[]⟩
def hFz (i:Nat) (x:Str):Obj:=⟨.none,none,.func { name:=x,qualname:=x,params:=eZ (top i),body:=.stmts (cT (top i)),scope:=ag (top i),globals:=0,closure:=[],defaults:=.none,kwdefaults:=.none },#[]⟩
def hFd (i:Nat) (x:Str) (m:Value) (c D:Nat):Obj:=⟨.type "function",none,.func { name:=x,qualname:=x,params:=eZ (top i),body:=.stmts (cT (top i)),scope:=ag (top i),globals:=3,closure:=[],defaults:=.ref D,kwdefaults:=.none,pyModule:=m,code:=.ref c },#[]⟩
def hEn (P:Params) (x:Str) (t:Nat) (v:Value):DictEntry:=⟨PyData.keyHash P x,.str x t,v⟩
def hqR (P:Params) (x:Str) (n k:Nat):=hEn P x n (.ref k)
def hFn (i:Nat) (x:Str) (m:Value) (c:Nat):Obj:=⟨.type "function",none,.func { name:=x,qualname:=x,params:=eZ (top i),body:=.stmts (cT (top i)),scope:=ag (top i),globals:=3,closure:=[],defaults:=.none,kwdefaults:=.none,pyModule:=m,code:=.ref c },#[]⟩
def hV:Program:={ PySem.Challenge.pw_loggather_k38_whole_lines_as_patterns with main:={ PySem.Challenge.pw_loggather_k38_whole_lines_as_patterns.main with body:=[1,2,3,4,6,7,8,9,10,11,12,13,14,15,17,18,19,20,21,22,23,24,25,26,27,28,29,30,31,32,33,34,35,37,38,39,40,41,42,43,44,45,47,48,49,50,51,52,53,54,57,58,59,61,62,63,64,66,67,68,69,70,71,72,73,74,75].map top } }
def hK (P:Params):PySem.W.Frag:=[(4,⟨.type "module",some 0,.plain,#[]⟩),
 (3,⟨.type "dict",none,.dict #[hEn P "__name__" 165 (.str "law_loggather_k38_whole_lines_as_patterns" 619),hEn P "__doc__" 166 (.none),hEn P "__package__" 167 (.none),hEn P "__loader__" 168 (.builtin "__main__.__loader__#opaque"),hEn P "__spec__" 169 (.none),hqR P "__annotations__" 170 6,hqR P "__builtins__" 171 4,hEn P "__file__" 173 (.str "/claim/cut.py" 172),hEn P "__cached__" 174 (.none),hqR P "GatherError" 206 24,hqR P "NoFit" 222 37,hqR P "NoJoin" 238 49,hqR P "NoText" 254 61,hEn P "FIGURES" 258 (.str "0123456789" 257),hEn P "SMALL_LETTERS" 260 (.str "abcdefghijklmnopqrstuvwxyz" 259),hEn P "WORD_SIGNS" 262 (.str "!\"#$&'()*+,-./0123456789:;<=>?@ABCDEFGHIJKLMNOPQRSTUVWXYZ[\\]^_`abcdefghijklmnopqrstuvwxyz{|}~" 261),hqR P "has_only" 270 70,hqR P "is_word" 277 77,hqR P "kind_of" 284 84,hqR P "words_of" 291 91,hqR P "word_key" 298 98,hqR P "line_key" 304 103,hqR P "in_order" 311 110,hEn P "MOST_PARTS" 315 (.int 12 314),hqR P "HOLE_KINDS" 319 111,hqR P "is_part" 326 118,hqR P "is_pattern" 332 123,hqR P "is_hole" 339 130,hqR P "part_takes" 347 137,hqR P "all_taken" 357 144,hqR P "fits" 365 151,hqR P "filled" 371 156,hqR P "is_part_within" 379 163,hqR P "is_within" 385 168,hqR P "kind_of_hole_around" 393 175,hqR P "joined_part" 399 180,hqR P "joined" 405 185,hqR P "met_part" 413 192,hqR P "met" 419 197,hqR P "part_key" 428 204,hqR P "pattern_key" 434 209,hqR P "ordered" 440 214,hqR P "least_word_but" 448 219,hqR P "is_needless" 454 224,hqR P "words_to_try" 460 229,hqR P "behind" 466 234,hqR P "first_word_past" 472 239,hqR P "least_line_past" 478 244,hqR P "lines_past" 484 249,hqR P "parting_line" 492 256,hqR P "without_needless" 502 263,hqR P "PLAIN_SIEVE" 507 264,hqR P "grouped" 518 271,hqR P "words_at" 524 276,hqR P "many_unlike_at" 532 283,hqR P "is_fit_to_part_at" 538 288,hqR P "place_to_part_at" 544 293,hqR P "parted" 555 300,hqR P "pattern_of_group" 561 305,hqR P "gathered" 567 311,hqR P "looseness_of_part" 576 318,hqR P "looseness" 582 323,hqR P "falls_under" 588 328,hqR P "show_part" 598 335,hqR P "show_pattern" 604 340,hqR P "read_part" 612 347,hqR P "read_pattern" 618 352,hqR P "_law_deck" 628 359,hqR P "_law_pick" 638 366,hqR P "_law_kind" 644 371,hqR P "_law_word" 650 376,hqR P "_law_line" 656 381,hqR P "_law_lines" 662 386,hqR P "_law_pattern" 674 393,hqR P "_law_plain" 680 398,hqR P "_law_pair_right" 686 403,hqR P "law" 692 408] 77,#[]⟩),
 (69,hqC "has_only" 263 14 2 64 268),
 (70,hFn 9 "has_only" (.str "loggather.words" 255) 69),
 (76,hqC "is_word" 271 16 1 71 275),
 (77,hFn 10 "is_word" (.str "loggather.words" 255) 76),
 (83,hqC "kind_of" 278 18 1 78 282),
 (84,hFn 11 "kind_of" (.str "loggather.words" 255) 83),
 (90,hqC "words_of" 285 24 1 85 289),
 (91,hFn 12 "words_of" (.str "loggather.words" 255) 90),
 (97,hqC "word_key" 292 26 1 92 296),
 (98,hFn 13 "word_key" (.str "loggather.words" 255) 97),
 (102,hqD "line_key" 299 28 1 99),
 (103,hFn 14 "line_key" (.str "loggather.words" 255) 102),
 (109,hqC "in_order" 305 31 1 104 309),
 (110,hFn 15 "in_order" (.str "loggather.words" 255) 109),
 (111,hqU [.str "number" 316,.str "name" 317,.str "any" 318]),
 (117,hqC "is_part" 320 36 1 112 324),
 (118,hFn 19 "is_part" (.str "loggather.patterns" 312) 117),
 (122,hqD "is_pattern" 327 42 1 119),
 (123,hFn 20 "is_pattern" (.str "loggather.patterns" 312) 122),
 (129,hqC "is_hole" 333 46 1 124 337),
 (130,hFn 21 "is_hole" (.str "loggather.patterns" 312) 129),
 (136,hqC "part_takes" 340 48 2 131 345),
 (137,hFn 22 "part_takes" (.str "loggather.patterns" 312) 136),
 (143,hqC "all_taken" 348 54 2 138 355),
 (144,hFn 23 "all_taken" (.str "loggather.patterns" 312) 143),
 (150,hqC "fits" 358 61 2 145 363),
 (151,hFn 24 "fits" (.str "loggather.patterns" 312) 150),
 (155,hqD "filled" 366 63 2 152),
 (156,hFn 25 "filled" (.str "loggather.patterns" 312) 155),
 (162,hqC "is_part_within" 372 71 2 157 377),
 (163,hFn 26 "is_part_within" (.str "loggather.patterns" 312) 162),
 (167,hqD "is_within" 380 75 2 164),
 (168,hFn 27 "is_within" (.str "loggather.patterns" 312) 167),
 (174,hqC "kind_of_hole_around" 386 79 1 169 391),
 (175,hFn 28 "kind_of_hole_around" (.str "loggather.patterns" 312) 174),
 (179,hqD "joined_part" 394 84 1 176),
 (180,hFn 29 "joined_part" (.str "loggather.patterns" 312) 179),
 (184,hqD "joined" 400 91 1 181),
 (185,hFn 30 "joined" (.str "loggather.patterns" 312) 184),
 (191,hqC "met_part" 406 98 2 186 411),
 (192,hFn 31 "met_part" (.str "loggather.patterns" 312) 191),
 (196,hqD "met" 414 104 2 193),
 (197,hFn 32 "met" (.str "loggather.patterns" 312) 196),
 (203,hqC "part_key" 420 111 1 198 426),
 (204,hFn 33 "part_key" (.str "loggather.patterns" 312) 203),
 (208,hqD "pattern_key" 429 116 1 205),
 (209,hFn 34 "pattern_key" (.str "loggather.patterns" 312) 208),
 (213,hqD "ordered" 435 118 1 210),
 (214,hFn 35 "ordered" (.str "loggather.patterns" 312) 213),
 (218,hqD "least_word_but" 443 121 2 215),
 (219,hFn 37 "least_word_but" (.str "loggather.alike" 441) 218),
 (223,hqD "is_needless" 449 128 2 220),
 (224,hFn 38 "is_needless" (.str "loggather.alike" 441) 223),
 (228,hqD "words_to_try" 455 130 2 225),
 (229,hFn 39 "words_to_try" (.str "loggather.alike" 441) 228),
 (233,hqD "behind" 461 136 2 230),
 (234,hFn 40 "behind" (.str "loggather.alike" 441) 233),
 (238,hqD "first_word_past" 467 138 2 235),
 (239,hFn 41 "first_word_past" (.str "loggather.alike" 441) 238),
 (243,hqD "least_line_past" 473 141 2 240),
 (244,hFn 42 "least_line_past" (.str "loggather.alike" 441) 243),
 (248,hqD "lines_past" 479 153 2 245),
 (249,hFn 43 "lines_past" (.str "loggather.alike" 441) 248),
 (255,hqC "parting_line" 485 156 2 250 490),
 (256,hFn 44 "parting_line" (.str "loggather.alike" 441) 255),
 (262,hqC "without_needless" 493 158 1 257 500),
 (263,hFn 45 "without_needless" (.str "loggather.alike" 441) 262),
 (264,hqU [.int 3 505,.int 2 506]),
 (270,hqC "grouped" 508 167 2 265 516),
 (271,hFn 48 "grouped" (.str "loggather.gathering" 503) 270),
 (275,hqD "words_at" 519 172 2 272),
 (276,hFn 49 "words_at" (.str "loggather.gathering" 503) 275),
 (282,hqC "many_unlike_at" 525 174 2 277 530),
 (283,hFn 50 "many_unlike_at" (.str "loggather.gathering" 503) 282),
 (287,hqD "is_fit_to_part_at" 533 176 3 284),
 (288,hFn 51 "is_fit_to_part_at" (.str "loggather.gathering" 503) 287),
 (292,hqD "place_to_part_at" 539 181 2 289),
 (293,hFn 52 "place_to_part_at" (.str "loggather.gathering" 503) 292),
 (299,hqC "parted" 545 184 2 294 553),
 (300,hFn 53 "parted" (.str "loggather.gathering" 503) 299),
 (304,hqD "pattern_of_group" 556 192 1 301),
 (305,hFn 54 "pattern_of_group" (.str "loggather.gathering" 503) 304),
 (306,hqU [.ref 264]),
 (310,hqD "gathered" 562 194 2 307),
 (311,hFd 55 "gathered" (.str "loggather.gathering" 503) 310 306),
 (317,hqC "looseness_of_part" 570 201 1 312 574),
 (318,hFn 57 "looseness_of_part" (.str "loggather.falling" 568) 317),
 (322,hqD "looseness" 577 205 1 319),
 (323,hFn 58 "looseness" (.str "loggather.falling" 568) 322),
 (327,hqD "falls_under" 583 207 2 324),
 (328,hFn 59 "falls_under" (.str "loggather.falling" 568) 327),
 (334,hqC "show_part" 591 211 1 329 596),
 (335,hFn 61 "show_part" (.str "loggather.texts" 589) 334),
 (339,hqD "show_pattern" 599 216 1 336),
 (340,hFn 62 "show_pattern" (.str "loggather.texts" 589) 339),
 (346,hqC "read_part" 605 218 1 341 610),
 (347,hFn 63 "read_part" (.str "loggather.texts" 589) 346),
 (351,hqD "read_pattern" 613 223 1 348),
 (352,hFn 64 "read_pattern" (.str "loggather.texts" 589) 351),
 (358,hqC "_law_deck" 621 229 2 353 626),
 (359,hFn 66 "_law_deck" (.str "law_loggather_k38_whole_lines_as_patterns" 619) 358),
 (365,hqC "_law_pick" 629 233 2 360 636),
 (366,hFn 67 "_law_pick" (.str "law_loggather_k38_whole_lines_as_patterns" 619) 365),
 (375,hqD "_law_word" 645 249 1 372),
 (376,hFn 69 "_law_word" (.str "law_loggather_k38_whole_lines_as_patterns" 619) 375),
 (380,hqD "_law_line" 651 259 2 377),
 (381,hFn 70 "_law_line" (.str "law_loggather_k38_whole_lines_as_patterns" 619) 380),
 (385,hqD "_law_lines" 657 261 2 382),
 (386,hFn 71 "_law_lines" (.str "law_loggather_k38_whole_lines_as_patterns" 619) 385),
 (397,hqD "_law_plain" 675 284 1 394),
 (398,hFn 73 "_law_plain" (.str "law_loggather_k38_whole_lines_as_patterns" 619) 397),
 (402,hqD "_law_pair_right" 681 286 2 399),
 (403,hFn 74 "_law_pair_right" (.str "law_loggather_k38_whole_lines_as_patterns" 619) 402),
 (407,hqD "law" 687 297 1 404),
 (408,hFn 75 "law" (.str "law_loggather_k38_whole_lines_as_patterns" 619) 407)]
def hLo:List Str:=[("gathered" : Str)]
def hH:PySem.W.Hook:=PySem.W.kmHook hK [4,3,69,70,76,77,83,84,90,91,97,98,102,103,109,110,111,117,118,122,123,129,130,136,137,143,144,150,151,155,156,162,163,167,168,174,175,179,180,184,185,191,192,196,197,203,204,208,209,213,214,218,219,223,224,228,229,233,234,238,239,243,244,248,249,255,256,262,263,264,270,271,275,276,282,283,287,288,292,293,299,300,304,305,306,310,311,317,318,322,323,327,328,334,335,339,340,346,347,351,352,358,359,365,366,375,376,380,381,385,386,397,398,402,403,407,408] (λ_=>by kernel_rfl) [290]
def hX (s:Shared):Bool:=PySem.W.xlAt hV [] s && PySem.W.recOk (PySem.W.RowW.records (PySem.W.OpenRow.toRowW (PySem.W.OpenLaw.row PySem.Challenge.rw_loggather_k38_whole_lines_as_patterns))) s
noncomputable def mS0 (P:Params):List Obj:=[PySem.W.boot_o_0 P,PySem.W.boot_o_1 P,PySem.W.boot_o_2 P]
noncomputable def mS4 (P:Params):List Obj:=[PySem.W.boot_o_4 P,PySem.W.boot_o_5 P,PySem.W.boot_o_6 P,PySem.W.boot_o_7 P,PySem.W.boot_o_8 P,PySem.W.boot_o_9 P,PySem.W.boot_o_10 P,hqU []]
noncomputable def Ic (P:Params):List Obj:=[⟨.type "code",none,.fields #[.str "<module>" 182,.str "<module>" 183,.str "/claim/cut.py" 184,.int 1 0,.int 0 0,.int 0 0,.int 0 0,.int 0 0,.ref 11,.bool false,.int 181 0,.ref 12,.none,.none,.none,.none,.int 185 0,.int 1 0,.str "/claim/cut.py" 186],#[]⟩,⟨.type "frame",none,.plain,#[some (.ref 13),some (.ref 3),some (.ref 3),none,some (.str "__main__" 164),none,some (.ref 0)]⟩,hqU [.type "ValueError"],⟨.type "builtin_function_or_method",none,.fields #[.builtin "type.__prepare__",.type "type"],#[]⟩,⟨.type "dict",none,.dict #[hEn P "__module__" 196 (.str "loggather.errors" 187),hEn P "__qualname__" 198 (.str "GatherError" 197),hEn P "__firstlineno__" 200 (.int 2 199),hqR P "__static_attributes__" 201 22] 4,#[]⟩,hqU [],hqN,⟨.type "code",none,.fields #[.str "GatherError" 191,.str "GatherError" 192,.str "/claim/cut.py" 193,.int 2 0,.int 0 0,.int 0 0,.int 0 0,.int 0 0,.ref 18,.bool false,.int 181 0,.ref 19,.none,.none,.none,.none,.int 194 0,.int 2 0,.str "/claim/cut.py" 195],#[]⟩,⟨.type "frame",none,.plain,#[some (.ref 20),some (.ref 3),some (.ref 17),none,some (.str "loggather.errors" 187),none,some (.ref 0)]⟩,hqU [],⟨.type "dict",none,.dict #[hEn P "__module__" 196 (.str "loggather.errors" 187),hEn P "__firstlineno__" 200 (.int 2 199),hqR P "__static_attributes__" 201 22,hqR P "__weakref__" 203 25,hEn P "__doc__" 204 (.none)] 3,#[]⟩]
noncomputable def Jz (P:Params):List Obj:=[⟨.type "getset_descriptor",none,.fields #[.str "__weakref__" 202,.ref 24,.builtin "ExceptionGroup.__weakref__",.none],#[]⟩,⟨.type "super",none,.fields #[.ref 24,.ref 24,.ref 24],#[]⟩,⟨.type "builtin_function_or_method",none,.fields #[.builtin "object.__init_subclass__",.ref 24],#[]⟩,hqU [.ref 24],⟨.type "builtin_function_or_method",none,.fields #[.builtin "type.__prepare__",.type "type"],#[]⟩,⟨.type "dict",none,.dict #[hEn P "__module__" 214 (.str "loggather.errors" 187),hEn P "__qualname__" 216 (.str "NoFit" 215),hEn P "__firstlineno__" 218 (.int 4 217),hqR P "__static_attributes__" 219 35] 4,#[]⟩,hqU [],hqN,⟨.type "code",none,.fields #[.str "NoFit" 209,.str "NoFit" 210,.str "/claim/cut.py" 211,.int 4 0,.int 0 0,.int 0 0,.int 0 0,.int 0 0,.ref 31,.bool false,.int 181 0,.ref 32,.none,.none,.none,.none,.int 212 0,.int 4 0,.str "/claim/cut.py" 213],#[]⟩,⟨.type "frame",none,.plain,#[some (.ref 33),some (.ref 3),some (.ref 30),none,some (.str "loggather.errors" 187),none,some (.ref 0)]⟩,hqU [],⟨.type "dict",none,.dict #[hEn P "__module__" 214 (.str "loggather.errors" 187),hEn P "__firstlineno__" 218 (.int 4 217),hqR P "__static_attributes__" 219 35,hEn P "__doc__" 220 (.none)] 2,#[]⟩,⟨.type "type",none,.cls { name:= "NoFit",bases:=[.ref 24],mro:=[.ref 37,.ref 24,.type "ValueError",.type "Exception",.type "BaseException",.type "object"],ns:=36,qualname:= "NoFit",hasDict:=true,slotNames:=[],subclasses:=[],abstract:=false,collection:=none,hasDel:=false },#[some (.ref 28),none,some (.str "NoFit" 207),some (.str "NoFit" 215),some (.builtin "ValueError.__new__"),some (.bool true)]⟩,⟨.type "super",none,.fields #[.ref 37,.ref 37,.ref 37],#[]⟩,⟨.type "builtin_function_or_method",none,.fields #[.builtin "object.__init_subclass__",.ref 37],#[]⟩,hqU [.ref 24],⟨.type "builtin_function_or_method",none,.fields #[.builtin "type.__prepare__",.type "type"],#[]⟩,⟨.type "dict",none,.dict #[hEn P "__module__" 230 (.str "loggather.errors" 187),hEn P "__qualname__" 232 (.str "NoJoin" 231),hEn P "__firstlineno__" 234 (.int 6 233),hqR P "__static_attributes__" 235 47] 4,#[]⟩,hqU [],hqN,⟨.type "code",none,.fields #[.str "NoJoin" 225,.str "NoJoin" 226,.str "/claim/cut.py" 227,.int 6 0,.int 0 0,.int 0 0,.int 0 0,.int 0 0,.ref 43,.bool false,.int 181 0,.ref 44,.none,.none,.none,.none,.int 228 0,.int 6 0,.str "/claim/cut.py" 229],#[]⟩,⟨.type "frame",none,.plain,#[some (.ref 45),some (.ref 3),some (.ref 42),none,some (.str "loggather.errors" 187),none,some (.ref 0)]⟩,hqU [],⟨.type "dict",none,.dict #[hEn P "__module__" 230 (.str "loggather.errors" 187),hEn P "__firstlineno__" 234 (.int 6 233),hqR P "__static_attributes__" 235 47,hEn P "__doc__" 236 (.none)] 2,#[]⟩,⟨.type "type",none,.cls { name:= "NoJoin",bases:=[.ref 24],mro:=[.ref 49,.ref 24,.type "ValueError",.type "Exception",.type "BaseException",.type "object"],ns:=48,qualname:= "NoJoin",hasDict:=true,slotNames:=[],subclasses:=[],abstract:=false,collection:=none,hasDel:=false },#[some (.ref 40),none,some (.str "NoJoin" 223),some (.str "NoJoin" 231),some (.builtin "ValueError.__new__"),some (.bool true)]⟩,⟨.type "super",none,.fields #[.ref 49,.ref 49,.ref 49],#[]⟩,⟨.type "builtin_function_or_method",none,.fields #[.builtin "object.__init_subclass__",.ref 49],#[]⟩]
noncomputable def J8 (P:Params):List Obj:=[hqU [.ref 24],⟨.type "builtin_function_or_method",none,.fields #[.builtin "type.__prepare__",.type "type"],#[]⟩,⟨.type "dict",none,.dict #[hEn P "__module__" 246 (.str "loggather.errors" 187),hEn P "__qualname__" 248 (.str "NoText" 247),hEn P "__firstlineno__" 250 (.int 8 249),hqR P "__static_attributes__" 251 59] 4,#[]⟩,hqU [],hqN,⟨.type "code",none,.fields #[.str "NoText" 241,.str "NoText" 242,.str "/claim/cut.py" 243,.int 8 0,.int 0 0,.int 0 0,.int 0 0,.int 0 0,.ref 55,.bool false,.int 181 0,.ref 56,.none,.none,.none,.none,.int 244 0,.int 8 0,.str "/claim/cut.py" 245],#[]⟩,⟨.type "frame",none,.plain,#[some (.ref 57),some (.ref 3),some (.ref 54),none,some (.str "loggather.errors" 187),none,some (.ref 0)]⟩,hqU [],⟨.type "dict",none,.dict #[hEn P "__module__" 246 (.str "loggather.errors" 187),hEn P "__firstlineno__" 250 (.int 8 249),hqR P "__static_attributes__" 251 59,hEn P "__doc__" 252 (.none)] 2,#[]⟩,⟨.type "type",none,.cls { name:= "NoText",bases:=[.ref 24],mro:=[.ref 61,.ref 24,.type "ValueError",.type "Exception",.type "BaseException",.type "object"],ns:=60,qualname:= "NoText",hasDict:=true,slotNames:=[],subclasses:=[],abstract:=false,collection:=none,hasDel:=false },#[some (.ref 52),none,some (.str "NoText" 239),some (.str "NoText" 247),some (.builtin "ValueError.__new__"),some (.bool true)]⟩,⟨.type "super",none,.fields #[.ref 61,.ref 61,.ref 61],#[]⟩,⟨.type "builtin_function_or_method",none,.fields #[.builtin "object.__init_subclass__",.ref 61],#[]⟩,hqU [],hqN,hqU [.str "text" 266,.str "signs" 267],hqU [],hFz 9 "has_only",hqC "has_only" 263 14 2 64 268,hFn 9 "has_only" (.str "loggather.words" 255) 69,hqU [],hqN,hqU [.str "thing" 274],hqU [],hFz 10 "is_word",hqC "is_word" 271 16 1 71 275,hFn 10 "is_word" (.str "loggather.words" 255) 76,hqU [],hqN,hqU [.str "word" 281],hqU [],hFz 11 "kind_of",hqC "kind_of" 278 18 1 78 282,hFn 11 "kind_of" (.str "loggather.words" 255) 83,hqU [],hqN,hqU [.str "line" 288],hqU [],hFz 12 "words_of",hqC "words_of" 285 24 1 85 289,hFn 12 "words_of" (.str "loggather.words" 255) 90,hqU [],hqN,hqU [.str "word" 295],hqU [],hFz 13 "word_key",hqC "word_key" 292 26 1 92 296,hFn 13 "word_key" (.str "loggather.words" 255) 97,hqU [],hqN,hFz 14 "line_key",hqD "line_key" 299 28 1 99,hFn 14 "line_key" (.str "loggather.words" 255) 102,hqU [],hqN,hqU [.str "lines" 308],hqU [],hFz 15 "in_order",hqC "in_order" 305 31 1 104 309,hFn 15 "in_order" (.str "loggather.words" 255) 109,hqU [.str "number" 316,.str "name" 317,.str "any" 318]]
noncomputable def Kr (P:Params):List Obj:=[hqU [],hqN,hqU [.str "thing" 323],hqU [],hFz 19 "is_part",hqC "is_part" 320 36 1 112 324,hFn 19 "is_part" (.str "loggather.patterns" 312) 117,hqU [],hqN,hFz 20 "is_pattern",hqD "is_pattern" 327 42 1 119,hFn 20 "is_pattern" (.str "loggather.patterns" 312) 122,hqU [],hqN,hqU [.str "part" 336],hqU [],hFz 21 "is_hole",hqC "is_hole" 333 46 1 124 337,hFn 21 "is_hole" (.str "loggather.patterns" 312) 129,hqU [],hqN,hqU [.str "part" 343,.str "word" 344],hqU [],hFz 22 "part_takes",hqC "part_takes" 340 48 2 131 345,hFn 22 "part_takes" (.str "loggather.patterns" 312) 136,hqU [],hqN,hqU [.str "parts" 351,.str "words" 352,.str "part" 353,.str "word" 354],hqU [],hFz 23 "all_taken",hqC "all_taken" 348 54 2 138 355,hFn 23 "all_taken" (.str "loggather.patterns" 312) 143,hqU [],hqN,hqU [.str "pattern" 361,.str "line" 362],hqU [],hFz 24 "fits",hqC "fits" 358 61 2 145 363,hFn 24 "fits" (.str "loggather.patterns" 312) 150,hqU [],hqN,hFz 25 "filled",hqD "filled" 366 63 2 152,hFn 25 "filled" (.str "loggather.patterns" 312) 155,hqU [],hqN,hqU [.str "one" 375,.str "other" 376],hqU [],hFz 26 "is_part_within",hqC "is_part_within" 372 71 2 157 377,hFn 26 "is_part_within" (.str "loggather.patterns" 312) 162,hqU [],hqN,hFz 27 "is_within",hqD "is_within" 380 75 2 164,hFn 27 "is_within" (.str "loggather.patterns" 312) 167,hqU [],hqN,hqU [.str "part" 389,.str "kind" 390],hqU [],hFz 28 "kind_of_hole_around",hqC "kind_of_hole_around" 386 79 1 169 391,hFn 28 "kind_of_hole_around" (.str "loggather.patterns" 312) 174,hqU [],hqN,hFz 29 "joined_part",hqD "joined_part" 394 84 1 176,hFn 29 "joined_part" (.str "loggather.patterns" 312) 179,hqU [],hqN,hFz 30 "joined",hqD "joined" 400 91 1 181,hFn 30 "joined" (.str "loggather.patterns" 312) 184,hqU [],hqN,hqU [.str "one" 409,.str "other" 410],hqU [],hFz 31 "met_part",hqC "met_part" 406 98 2 186 411,hFn 31 "met_part" (.str "loggather.patterns" 312) 191,hqU [],hqN,hFz 32 "met",hqD "met" 414 104 2 193,hFn 32 "met" (.str "loggather.patterns" 312) 196,hqU [],hqN,hqU [.str "part" 423,.str "length" 424,.str "text" 425],hqU [],hFz 33 "part_key",hqC "part_key" 420 111 1 198 426,hFn 33 "part_key" (.str "loggather.patterns" 312) 203,hqU [],hqN,hFz 34 "pattern_key",hqD "pattern_key" 429 116 1 205,hFn 34 "pattern_key" (.str "loggather.patterns" 312) 208,hqU [],hqN,hFz 35 "ordered",hqD "ordered" 435 118 1 210,hFn 35 "ordered" (.str "loggather.patterns" 312) 213,hqU [],hqN,hFz 37 "least_word_but",hqD "least_word_but" 443 121 2 215,hFn 37 "least_word_but" (.str "loggather.alike" 441) 218,hqU [],hqN,hFz 38 "is_needless",hqD "is_needless" 449 128 2 220,hFn 38 "is_needless" (.str "loggather.alike" 441) 223,hqU [],hqN,hFz 39 "words_to_try",hqD "words_to_try" 455 130 2 225,hFn 39 "words_to_try" (.str "loggather.alike" 441) 228,hqU [],hqN,hFz 40 "behind",hqD "behind" 461 136 2 230,hFn 40 "behind" (.str "loggather.alike" 441) 233,hqU [],hqN,hFz 41 "first_word_past",hqD "first_word_past" 467 138 2 235,hFn 41 "first_word_past" (.str "loggather.alike" 441) 238,hqU [],hqN,hFz 42 "least_line_past",hqD "least_line_past" 473 141 2 240,hFn 42 "least_line_past" (.str "loggather.alike" 441) 243,hqU [],hqN,hFz 43 "lines_past",hqD "lines_past" 479 153 2 245,hFn 43 "lines_past" (.str "loggather.alike" 441) 248,hqU [],hqN,hqU [.str "one" 488,.str "other" 489],hqU [],hFz 44 "parting_line",hqC "parting_line" 485 156 2 250 490,hFn 44 "parting_line" (.str "loggather.alike" 441) 255]
noncomputable def mH0 (P:Params):Heap:=⟨(mS0 P++(([⟨.type "dict",none,.dict #[hEn P "__name__" 165 (.str "loggather.errors" 187),hEn P "__doc__" 166 (.none),hEn P "__package__" 167 (.none),hEn P "__loader__" 168 (.builtin "__main__.__loader__#opaque"),hEn P "__spec__" 169 (.none),hqR P "__annotations__" 170 6,hqR P "__builtins__" 171 4,hEn P "__file__" 173 (.str "/claim/cut.py" 172),hEn P "__cached__" 174 (.none),hqR P "GatherError" 206 24,hqR P "NoFit" 222 37,hqR P "NoJoin" 238 49] 12,#[]⟩]:List Obj)++(mS4 P++(([⟨.none,none,.fields #[.int 2 0,.int 0 0,.ref 20,.int 4 0,.int 0 0,.ref 33,.int 6 0,.int 0 0,.ref 45],#[]⟩]:List Obj)++(Ic P++(([⟨.type "type",none,.cls { name:= "GatherError",bases:=[.type "ValueError"],mro:=[.ref 24,.type "ValueError",.type "Exception",.type "BaseException",.type "object"],ns:=23,qualname:= "GatherError",hasDict:=true,slotNames:=[],subclasses:=[.ref 37,.ref 49],abstract:=false,collection:=none,hasDel:=false },#[some (.ref 15),none,some (.str "GatherError" 189),some (.str "GatherError" 197),some (.builtin "ValueError.__new__"),some (.bool true)]⟩]:List Obj)++(Jz P))))))).toArray,(PySem.W.boot_heap P).life⟩
noncomputable def mH1 (P:Params):Heap:=⟨(mS0 P++(([⟨.type "dict",none,.dict #[hEn P "__name__" 165 (.str "loggather.patterns" 312),hEn P "__doc__" 166 (.none),hEn P "__package__" 167 (.none),hEn P "__loader__" 168 (.builtin "__main__.__loader__#opaque"),hEn P "__spec__" 169 (.none),hqR P "__annotations__" 170 6,hqR P "__builtins__" 171 4,hEn P "__file__" 173 (.str "/claim/cut.py" 172),hEn P "__cached__" 174 (.none),hqR P "GatherError" 206 24,hqR P "NoFit" 222 37,hqR P "NoJoin" 238 49,hqR P "NoText" 254 61,hEn P "FIGURES" 258 (.str "0123456789" 257),hEn P "SMALL_LETTERS" 260 (.str "abcdefghijklmnopqrstuvwxyz" 259),hEn P "WORD_SIGNS" 262 (.str "!\"#$&'()*+,-./0123456789:;<=>?@ABCDEFGHIJKLMNOPQRSTUVWXYZ[\\]^_`abcdefghijklmnopqrstuvwxyz{|}~" 261),hqR P "has_only" 270 70,hqR P "is_word" 277 77,hqR P "kind_of" 284 84,hqR P "words_of" 291 91,hqR P "word_key" 298 98,hqR P "line_key" 304 103,hqR P "in_order" 311 110,hEn P "MOST_PARTS" 315 (.int 12 314),hqR P "HOLE_KINDS" 319 111] 25,#[]⟩]:List Obj)++(mS4 P++(([⟨.none,none,.fields #[.int 2 0,.int 0 0,.ref 20,.int 4 0,.int 0 0,.ref 33,.int 6 0,.int 0 0,.ref 45,.int 8 0,.int 0 0,.ref 57,.int 14 0,.int 0 0,.ref 69,.int 16 0,.int 0 0,.ref 76,.int 18 0,.int 0 0,.ref 83,.int 24 0,.int 0 0,.ref 90,.int 26 0,.int 0 0,.ref 97,.int 28 0,.int 0 0,.ref 102,.int 31 0,.int 0 0,.ref 109],#[]⟩]:List Obj)++(Ic P++(([⟨.type "type",none,.cls { name:= "GatherError",bases:=[.type "ValueError"],mro:=[.ref 24,.type "ValueError",.type "Exception",.type "BaseException",.type "object"],ns:=23,qualname:= "GatherError",hasDict:=true,slotNames:=[],subclasses:=[.ref 37,.ref 49,.ref 61],abstract:=false,collection:=none,hasDel:=false },#[some (.ref 15),none,some (.str "GatherError" 189),some (.str "GatherError" 197),some (.builtin "ValueError.__new__"),some (.bool true)]⟩]:List Obj)++(Jz P++(J8 P)))))))).toArray,(PySem.W.boot_heap P).life⟩
noncomputable def mH2 (P:Params):Heap:=⟨(mS0 P++(([⟨.type "dict",none,.dict #[hEn P "__name__" 165 (.str "loggather.alike" 441),hEn P "__doc__" 166 (.none),hEn P "__package__" 167 (.none),hEn P "__loader__" 168 (.builtin "__main__.__loader__#opaque"),hEn P "__spec__" 169 (.none),hqR P "__annotations__" 170 6,hqR P "__builtins__" 171 4,hEn P "__file__" 173 (.str "/claim/cut.py" 172),hEn P "__cached__" 174 (.none),hqR P "GatherError" 206 24,hqR P "NoFit" 222 37,hqR P "NoJoin" 238 49,hqR P "NoText" 254 61,hEn P "FIGURES" 258 (.str "0123456789" 257),hEn P "SMALL_LETTERS" 260 (.str "abcdefghijklmnopqrstuvwxyz" 259),hEn P "WORD_SIGNS" 262 (.str "!\"#$&'()*+,-./0123456789:;<=>?@ABCDEFGHIJKLMNOPQRSTUVWXYZ[\\]^_`abcdefghijklmnopqrstuvwxyz{|}~" 261),hqR P "has_only" 270 70,hqR P "is_word" 277 77,hqR P "kind_of" 284 84,hqR P "words_of" 291 91,hqR P "word_key" 298 98,hqR P "line_key" 304 103,hqR P "in_order" 311 110,hEn P "MOST_PARTS" 315 (.int 12 314),hqR P "HOLE_KINDS" 319 111,hqR P "is_part" 326 118,hqR P "is_pattern" 332 123,hqR P "is_hole" 339 130,hqR P "part_takes" 347 137,hqR P "all_taken" 357 144,hqR P "fits" 365 151,hqR P "filled" 371 156,hqR P "is_part_within" 379 163,hqR P "is_within" 385 168,hqR P "kind_of_hole_around" 393 175,hqR P "joined_part" 399 180,hqR P "joined" 405 185,hqR P "met_part" 413 192,hqR P "met" 419 197,hqR P "part_key" 428 204,hqR P "pattern_key" 434 209,hqR P "ordered" 440 214,hqR P "least_word_but" 448 219,hqR P "is_needless" 454 224,hqR P "words_to_try" 460 229,hqR P "behind" 466 234,hqR P "first_word_past" 472 239,hqR P "least_line_past" 478 244,hqR P "lines_past" 484 249,hqR P "parting_line" 492 256] 50,#[]⟩]:List Obj)++(mS4 P++(([⟨.none,none,.fields #[.int 2 0,.int 0 0,.ref 20,.int 4 0,.int 0 0,.ref 33,.int 6 0,.int 0 0,.ref 45,.int 8 0,.int 0 0,.ref 57,.int 14 0,.int 0 0,.ref 69,.int 16 0,.int 0 0,.ref 76,.int 18 0,.int 0 0,.ref 83,.int 24 0,.int 0 0,.ref 90,.int 26 0,.int 0 0,.ref 97,.int 28 0,.int 0 0,.ref 102,.int 31 0,.int 0 0,.ref 109,.int 36 0,.int 0 0,.ref 117,.int 42 0,.int 0 0,.ref 122,.int 46 0,.int 0 0,.ref 129,.int 48 0,.int 0 0,.ref 136,.int 54 0,.int 0 0,.ref 143,.int 61 0,.int 0 0,.ref 150,.int 63 0,.int 0 0,.ref 155,.int 71 0,.int 0 0,.ref 162,.int 75 0,.int 0 0,.ref 167,.int 79 0,.int 0 0,.ref 174,.int 84 0,.int 0 0,.ref 179,.int 91 0,.int 0 0,.ref 184,.int 98 0,.int 0 0,.ref 191,.int 104 0,.int 0 0,.ref 196,.int 111 0,.int 0 0,.ref 203,.int 116 0,.int 0 0,.ref 208,.int 118 0,.int 0 0,.ref 213,.int 121 0,.int 0 0,.ref 218,.int 128 0,.int 0 0,.ref 223,.int 130 0,.int 0 0,.ref 228,.int 136 0,.int 0 0,.ref 233,.int 138 0,.int 0 0,.ref 238,.int 141 0,.int 0 0,.ref 243,.int 153 0,.int 0 0,.ref 248,.int 156 0,.int 0 0,.ref 255],#[]⟩]:List Obj)++(Ic P++(([⟨.type "type",none,.cls { name:= "GatherError",bases:=[.type "ValueError"],mro:=[.ref 24,.type "ValueError",.type "Exception",.type "BaseException",.type "object"],ns:=23,qualname:= "GatherError",hasDict:=true,slotNames:=[],subclasses:=[.ref 37,.ref 49,.ref 61],abstract:=false,collection:=none,hasDel:=false },#[some (.ref 15),none,some (.str "GatherError" 189),some (.str "GatherError" 197),some (.builtin "ValueError.__new__"),some (.bool true)]⟩]:List Obj)++(Jz P++(J8 P++(Kr P))))))))).toArray,(PySem.W.boot_heap P).life⟩
def mB:List Stmt:=PySem.W.behindTheImports PySem.Challenge.pw_loggather_k38_whole_lines_as_patterns
def wD:Env:={ scope:=PySem.Challenge.pw_loggather_k38_whole_lines_as_patterns.main.scope,locals:=mainNs,globals:=mainNs,cells:=[],code:=.ref 13,frame:=some 14 }
def mC:Code:=.body mB wD
theorem mSz (w:World):((PySem.W.boot_heap w.params).isNs mainGlobals,(PySem.W.boot_heap w.params).objs.size,(PySem.W.boot_heap w.params).nsMap mainGlobals "__annotations__")=(true,11,some (.ref 6)):=by kernel_rfl
theorem mR0 (w:World) (os:OsState):(PySem.W.topGo treeTable PySem.Challenge.pw_loggather_k38_whole_lines_as_patterns w 11 (some (.ref 6)) 12 ⟨PySem.W.boot_heap w.params,Array.mk [],PySem.W.boot_drawn,PySem.W.boot_toks,os⟩ (PySem.W.topStub PySem.Challenge.pw_loggather_k38_whole_lines_as_patterns)).bind (λx=>(PySem.W.segRun treeTable PySem.Challenge.pw_loggather_k38_whole_lines_as_patterns w 11 (some (.ref 6)) 1 1 x.1 (PySem.W.blockOf mB wD mC ⟨0,0,0,0⟩ [PySem.W.topFrame ⟨0,0,0,0⟩])).bind λy=>(PySem.W.segRun treeTable PySem.Challenge.pw_loggather_k38_whole_lines_as_patterns w 11 (some (.ref 6)) 1 622 y.2.1 (PySem.W.piecesOf (mB.take 4) wD mC y.2.2.2 [PySem.W.topFrame ⟨0,0,0,0⟩])).map λz=>(x.2,y.1,y.2.2.1,z))=some (⟨denote treeTable mC,mC,⟨0,0,0,0⟩,[PySem.W.topFrame ⟨0,0,0,0⟩]⟩,.next,mC,(.next,⟨mH0 w.params,Array.mk [],⟨0,0,0,0⟩,239,os⟩,mC,⟨6,0,7,8⟩)):=by kernel_rfl
theorem mR1 (w:World) (os:OsState):PySem.W.segRun treeTable PySem.Challenge.pw_loggather_k38_whole_lines_as_patterns w 11 (some (.ref 6)) 1 482 ⟨mH0 w.params,Array.mk [],⟨0,0,0,0⟩,239,os⟩ (PySem.W.piecesOf ((mB.drop 4).take 15) wD mC ⟨6,0,7,8⟩ [PySem.W.topFrame ⟨0,0,0,0⟩])=some (.next,⟨mH1 w.params,Array.mk [],⟨0,0,0,0⟩,320,os⟩,mC,⟨35,0,35,10⟩):=by kernel_rfl
theorem mR2 (w:World) (os:OsState):PySem.W.segRun treeTable PySem.Challenge.pw_loggather_k38_whole_lines_as_patterns w 11 (some (.ref 6)) 1 701 ⟨mH1 w.params,Array.mk [],⟨0,0,0,0⟩,320,os⟩ (PySem.W.piecesOf ((mB.drop 19).take 26) wD mC ⟨35,0,35,10⟩ [PySem.W.topFrame ⟨0,0,0,0⟩])=some (.next,⟨mH2 w.params,Array.mk [],⟨0,0,0,0⟩,493,os⟩,mC,⟨156,0,157,91⟩):=by kernel_rfl
theorem mZ (w:World) (os:OsState):(PySem.W.segRun treeTable PySem.Challenge.pw_loggather_k38_whole_lines_as_patterns w 11 (some (.ref 6)) 1 781 ⟨mH2 w.params,Array.mk [],⟨0,0,0,0⟩,493,os⟩ (PySem.W.piecesOf (mB.drop 45) wD mC ⟨156,0,157,91⟩ [PySem.W.topFrame ⟨0,0,0,0⟩])).bind (λz=>(PySem.W.topRun treeTable PySem.Challenge.pw_loggather_k38_whole_lines_as_patterns w 11 (some (.ref 6)) 2 z.2.1 ⟨PySem.W.doneF .next,mC,z.2.2.2,[PySem.W.topFrame ⟨0,0,0,0⟩]⟩).map λr=>(z.1,z.2.2.1,(PySem.W.staticsOk (importedModules PySem.Challenge.pw_loggather_k38_whole_lines_as_patterns.main.body) (PySem.W.boot_heap w.params) r.heap && PySem.W.namesBound PySem.Challenge.pw_loggather_k38_whole_lines_as_patterns r.heap && PySem.W.gensDone r && PySem.W.laidKept (PySem.W.boot_heap w.params) r.heap),PySem.W.openSeen hV hLo (importedModules PySem.Challenge.pw_loggather_k38_whole_lines_as_patterns.main.body) hX true r,hH.obs r))=some (.next,mC,true,PySem.W.openGood hV hLo,hH.val w):=by kernel_rfl
theorem mT2 (w:World) (os:OsState):L2.uM PySem.Challenge.pw_loggather_k38_whole_lines_as_patterns hV hLo hX hH.obs hH.val PySem.W.boot_heap 11 (some (.ref 6)) wD mC ⟨0,0,0,0⟩ (701+(781+2)) (mB.drop 19) ⟨35,0,35,10⟩ w ⟨mH1 w.params,Array.mk [],⟨0,0,0,0⟩,320,os⟩:=L2.xP (mR2 w os) (L2.Es mB 19 26) (L2.Dl (mZ w os))
theorem mT1 (w:World) (os:OsState):L2.uM PySem.Challenge.pw_loggather_k38_whole_lines_as_patterns hV hLo hX hH.obs hH.val PySem.W.boot_heap 11 (some (.ref 6)) wD mC ⟨0,0,0,0⟩ (482+(701+(781+2))) (mB.drop 4) ⟨6,0,7,8⟩ w ⟨mH0 w.params,Array.mk [],⟨0,0,0,0⟩,239,os⟩:=L2.xP (mR1 w os) (L2.Es mB 4 15) (mT2 w os)
theorem hL:PySem.W.LeftO PySem.Challenge.pw_loggather_k38_whole_lines_as_patterns hV hLo hX hH.obs hH.val 5290:=L2.DT (c:=mC) (env:=wD) (b:=mB) (n2:=482+(701+(781+2))) rfl (List.take_append_drop 4 mB) (PySem.W.boot_open (by kernel_rfl) (by decide) (λs=>by kernel_rfl)) mSz mR0 (λw os=>mT1 w os) (by decide)
end K38
namespace L2
open PySem PySem.Spec PyProof.Rows
abbrev Key:=Sum Int Str
def rO:Key->Value->Bool
 | .inl k,v=>Value.isInt k v
 | .inr x,v=>Value.isStrOf x v
def MX (w:World):Key->Int
 | .inl k=>hashInt k
 | .inr x=>hashStr w x
theorem bU:∀ {k:Key}{v:Value},rO k v=true->(∃ i t,k=Sum.inl i/\v=Value.int i t)\/(∃ x t,k=Sum.inr x/\v=Value.str x t)
 | .inl i,v,h=>by
  obtain ⟨t,e⟩:=Value.isInt_shape (k:=i) (v:=v) h;exact .inl ⟨i,t,rfl,e⟩
 | .inr x,v,h=>by
  obtain ⟨t,e⟩:=Value.isStrOf_shape (x:=x) (v:=v) h;exact .inr ⟨x,t,rfl,e⟩
theorem Ca (i:Int) (t:Tok):rO (.inl i) (.int i t)=true:=by simp [rO,Value.isInt]
theorem BS (x:Str) (t:Tok):rO (.inr x) (.str x t)=true:=by simp [rO,Value.isStrOf]
theorem IJ (a b:Int):decide ((Sum.inl a:Key)=Sum.inl b)=(a == b):=by
 by_cases e:a=b
 ·subst e;simp
 ·have h:¬ (Sum.inl a:Key)=Sum.inl b:=λq=>e (Sum.inl.inj q);rw [decide_eq_false h];exact (beq_eq_false_iff_ne.mpr e).symm
theorem Jo (a b:Str):decide ((Sum.inr a:Key)=Sum.inr b)=decide (a=b):=by
 by_cases e:a=b
 ·subst e;simp
 ·have h:¬ (Sum.inr a:Key)=Sum.inr b:=λq=>e (Sum.inr.inj q);rw [decide_eq_false h,decide_eq_false e]
theorem JJ (a:Int) (b:Str):decide ((Sum.inl a:Key)=Sum.inr b)=false:=decide_eq_false (λq=>nomatch q)
theorem JH (a:Str) (b:Int):decide ((Sum.inr a:Key)=Sum.inl b)=false:=decide_eq_false (λq=>nomatch q)
def bf (prog:Program) (w:World):PySem.KeyKind prog w Key where
 is:=rO
 hash:=MX w
 inj:=λv a b ha hb=>by
  rcases bU ha with ⟨i,t,rfl,rfl⟩ | ⟨x,t,rfl,rfl⟩
  ·rcases bU hb with ⟨j,u,rfl,e⟩ | ⟨y,u,rfl,e⟩
   ·injection e with e1 _;rw [e1]
   ·exact nomatch e
  ·rcases bU hb with ⟨j,u,rfl,e⟩ | ⟨y,u,rfl,e⟩
   ·exact nomatch e
   ·injection e with e1 _;rw [e1]
 byValue:=λk v h=>by
  rcases bU h with ⟨i,t,rfl,rfl⟩ | ⟨x,t,rfl,rfl⟩ <;> rfl
 pyHash:=λhv h=>by
  rcases bU hv with ⟨i,t,rfl,rfl⟩ | ⟨x,t,rfl,rfl⟩
  ·exact wpAny_pyHash_int h
  ·exact wpAny_pyHash_str h
 eqBool:=λhu hv h=>by
  rcases bU hu with ⟨i,t,rfl,rfl⟩ | ⟨x,t,rfl,rfl⟩
  ·rcases bU hv with ⟨j,u,rfl,rfl⟩ | ⟨y,u,rfl,rfl⟩
   ·rw [IJ] at h;exact wpAny_eqBool_int h
   ·rw [JJ] at h;exact SeqAt.EqAt.int_str i t y u _ _ _ _ h
  ·rcases bU hv with ⟨j,u,rfl,rfl⟩ | ⟨y,u,rfl,rfl⟩
   ·rw [JH] at h;exact SeqAt.EqAt.str_int x t j u _ _ _ _ h
   ·rw [Jo] at h;exact wpAny_eqBool_str h
 «strs»:=λk x t v h=>by
  rcases bU h with ⟨i,u,rfl,e⟩ | ⟨y,u,rfl,e⟩
  ·exact nomatch e
  ·injection e with e1 _;subst e1;cases v <;> rfl
theorem yT (prog:Program) (w:World) (i:Int) (t:Tok):(bf prog w).is (.inl i) (.int i t)=true:=Ca i t
theorem iJ (prog:Program) (w:World) (x:Str) (t:Tok):(bf prog w).is (.inr x) (.str x t)=true:=BS x t
inductive V where
 | non | bl (b:Bool) | int (i:Int) | str (x:Str) | byt (b:Array UInt8) | flt (b:UInt64) | ref (a:Addr) | ty (n:String)
 deriving DecidableEq
def RelV:V->Value->Prop
 | .non,u=>u=Value.none
 | .bl b,u=>u=Value.bool b
 | .int i,u=>∃ t,u=Value.int i t
 | .str x,u=>∃ t,u=Value.str x t
 | .byt b,u=>∃ t,u=Value.bytes b t
 | .flt b,u=>∃ t,u=Value.float b t
 | .ref a,u=>u=Value.ref a
 | .ty n,u=>u=Value.type n
abbrev aV:List V->List Value->Prop:=Paired RelV
theorem aV.length {xs:List V}{us:List Value} (r:aV xs us):xs.length=us.length:=Paired.length r
theorem aV.get:∀ {xs:List V}{us:List Value}{i:Nat}{x:V},aV xs us->xs[i]? = some x->∃ u,us[i]? = some u/\RelV x u
 | _,_,_,_,.nil,e=>by simp at e
 | _,_,0,_,.cons r _,e=>by simp at e;subst e;exact ⟨_,rfl,r⟩
 | _,_,i+1,x,.cons _ t,e=>by
  obtain ⟨u,h1,h2⟩:=aV.get (i:=i) (x:=x) t (by simpa using e);exact ⟨u,by simpa using h1,h2⟩
theorem aV.set {x:V}{u:Value} (r:RelV x u):∀ {xs:List V}{us:List Value} (i:Nat),aV xs us->aV (xs.set i x) (us.set i u)
 | _,_,_,.nil=>.nil
 | _,_,0,.cons _ t=>.cons r t
 | _,_,i+1,.cons q t=>.cons q (aV.set r i t)
theorem aV.append:∀ {xs ys:List V}{us ws:List Value},aV xs us->aV ys ws->aV (xs++ys) (us++ws)
 | _,_,_,_,.nil,s=>s
 | _,_,_,_,.cons r t,s=>.cons r (aV.append t s)
theorem aV.take:∀ {xs:List V}{us:List Value} (n:Nat),aV xs us->aV (xs.take n) (us.take n)
 | _,_,0,_=>.nil
 | _,_,_+1,.nil=>.nil
 | _,_,n+1,.cons r t=>.cons r (aV.take n t)
theorem aV.drop:∀ {xs:List V}{us:List Value} (n:Nat),aV xs us->aV (xs.drop n) (us.drop n)
 | _,_,0,r=>r
 | _,_,_+1,.nil=>.nil
 | _,_,n+1,.cons _ t=>aV.drop n t
theorem aV.none_of:∀ {xs:List V}{us:List Value}{i:Nat},aV xs us->xs[i]? = none->us[i]? = none:=λ{xs us i} r e=>by
 have h1:=r.length;have h2:xs.length<=i:=List.getElem?_eq_none_iff.mp e;exact List.getElem?_eq_none_iff.mpr (by lia)
def BF:Option V->Option Value->Prop
 | some v,some u=>RelV v u
 | none,none=>True
 | _,_=>False
def KV {κ:Type}:List (κ×V)->List (κ×Value)->Prop:=Paired λ(p:κ×V) (q:κ×Value)=>p.1=q.1/\RelV p.2 q.2
def kV:Key->V
 | .inl i=>.int i
 | .inr x=>.str x
inductive HO where
 | lst (xs:List V)
 | tup (xs:List V)
 | dK (kvs:List (Key×V)) | dT (kvs:List (List Key×V))
 | set (S:Int->Bool) (n:Nat)
 | ins (C dx:Addr) (fs:List (Str×V))
 | own (x:Addr)
 | xd (fs:List (Str×V))
 | met (f x:Addr)
 | rng (lo hi:Int)
 | frz (o:Obj) (u:HO)
 | tbl (ps:Array Value)
 | ext (φ:Heap->Prop)
abbrev Hp:=Addr->Option HO
def upd (H:Hp) (a:Addr) (o:HO):Hp:=λb=>if b=a then some o else H b
theorem ab {H:Hp}{a:Addr}{o:HO}:upd H a o a=some o:=by unfold upd;rw [if_pos rfl]
theorem ay {H:Hp}{a b:Addr}{o:HO} (h:b≠a):upd H a o b=H b:=by unfold upd;rw [if_neg h]
theorem KN {H:Hp}{a b:Addr}{o u:HO} (h:H a=some o) (h':H b=some u) (d:o≠u):a≠b:=by
 intro e;subst e;rw [h] at h';exact d (Option.some.inj h')
theorem ao {H:Hp}{a b:Addr}{o:HO} (h:H a=some o) (h':H b=none):a≠b:=by
 intro e;subst e;rw [h] at h';cases h'
section
variable (P:Program) (w:World)
def cm (H:Hp) (h:Heap) (a:Addr):HO->Prop
 | .lst xs=>xs.length<=sizeLine/\∃ (its:List Value) (n:Nat),aV xs its/\h.get? a=some { cls:=.type "list",data:=.seq its.toArray n }
 | .tup xs=>xs.length<=sizeLine/\∃ its:List Value,aV xs its/\IsTup h a its.toArray
 | .dK kvs=>kvs.length<=sizeLine/\(a == sysModules)=false/\∃ vs,KV kvs vs/\h.DictOf (bf P w) a vs
 | .dT kvs=>kvs.length<=sizeLine/\(a == sysModules)=false/\∃ xs:List (List Key×Addr×Value),
   Paired (λ(p:List Key×V) (q:List Key×Addr×Value)=>p.1=q.1/\H q.2.1=some (.tup (p.1.map kV))/\RelV p.2 q.2.2) kvs xs /\
   ∃ o es ep,h.get? a=some o/\o.ExactDict/\o.data = .dict es ep/\es.toList=xs.map (entryOfKey (tupleKind (bf P w)))/\(xs.map (·.1)).Nodup
 | .set S n=>h.SetOf (intKind P w) a S n
 | .ins C dx fs=>H dx=some (.own a)/\fs.length<=1000/\dx≠a/\h.get? a=some (PySem.W.instObj C dx) /\
   ∃ mA,h.Ns1 dx mA/\(∀ f,BF (fs.lookup f) (mA f))/\PySem.Within mA (fs.map (·.1))
 | .own _=>∃ o,h.get? a=some o
 | .xd fs=>∃ mA,h.Ns1 a mA/\∀ f,BF (fs.lookup f) (mA f)
 | .rng lo hi=>∃ t u v,h.get? a=some { cls:=.type "range",data:=.fields #[.int lo t,.int hi u,.int 1 v] }
 | .frz o u=>h.get? a=some o/\cm H h a u
 | .tbl ps=>h.get? a=some { cls:=.none,data:=.fields ps }
 | .met f x=>h.get? a=some (PySem.W.methodObj (.ref f) (.ref x))
 | .ext φ=>φ h/\(∃ o,h.get? a=some o)/\∀ h1 h2:Heap,φ h1->(∀ o,h1.get? a=some o->h2.get? a=some o)->φ h2
def HOk (H:Hp) (h:Heap):Prop:=∀ a o,H a=some o->cm P w H h a o
end
section
variable {P:Program}{w:World}{H H':Hp}{h h':Heap}{a:Addr}{o:HO}
theorem cm.lt (x:cm P w H h a o):a<h.objs.size:=by
 cases o with
 | lst xs=>obtain ⟨_,_,_,_,e⟩:=x;exact Heap.lt_size e
 | tup xs=>obtain ⟨_,_,_,p⟩:=x;exact p.lt
 | dK kvs=>obtain ⟨_,_,_,_,o,_,_,e,_⟩:=x;exact Heap.lt_size e
 | dT kvs=>obtain ⟨_,_,_,_,o,_,_,e,_⟩:=x;exact Heap.lt_size e
 | set S n=>obtain ⟨o,_,_,_,e,_⟩:=x;exact Heap.lt_size e
 | ins C dx fs=>obtain ⟨_,_,_,e,_⟩:=x;exact Heap.lt_size e
 | own y=>obtain ⟨_,e⟩:=x;exact Heap.lt_size e
 | xd fs=>obtain ⟨_,⟨_,_,_,e,_⟩,_⟩:=x;exact Heap.lt_size e
 | rng lo hi=>obtain ⟨_,_,_,e⟩:=x;exact Heap.lt_size e
 | frz ob u=>obtain ⟨e,_⟩:=x;exact Heap.lt_size e
 | tbl ps=>exact Heap.lt_size (show h.get? a=some _ from x)
 | met f y=>exact Heap.lt_size (show h.get? a=some _ from x)
 | ext φ=>obtain ⟨_,⟨_,e⟩,_⟩:=x;exact Heap.lt_size e
theorem Paired.La {α β:Type}{F G:α->β->Prop}:∀ {l₁:List α}{l₂:List β},Paired F l₁ l₂->(∀ a b,F a b->G a b)->Paired G l₁ l₂
 | _,_,.nil,_=>.nil
 | _,_,.cons r t,f=>.cons (f _ _ r) (Paired.La t f)
theorem cm.vR (x:cm P w H h a o) (k:∀ b u,(b=a\/H b=some (.own a))->h.get? b=some u->h'.get? b=some u)
  (ho:∀ b,H b=some (.own a)->H' b=some (.own a)) (ht:∀ b xs,H b=some (.tup xs)->H' b=some (.tup xs)):cm P w H' h' a o:=by
 induction o with
 | lst xs=>obtain ⟨z,its,n,r,e⟩:=x;exact ⟨z,its,n,r,k _ _ (.inl rfl) e⟩
 | tup xs=>obtain ⟨z,its,r,ob,e,c⟩:=x;exact ⟨z,its,r,ob,k _ _ (.inl rfl) e,c⟩
 | dK kvs=>obtain ⟨z,y,vs,r,ob,es,ep,e,c⟩:=x;exact ⟨z,y,vs,r,ob,es,ep,k _ _ (.inl rfl) e,c⟩
 | dT kvs=>
  obtain ⟨z,y,xs,r,ob,es,ep,e,c⟩:=x;exact ⟨z,y,xs,Paired.La r λp q z=>⟨z.1,ht _ _ z.2.1,z.2.2⟩,ob,es,ep,k _ _ (.inl rfl) e,c⟩
 | set S n=>obtain ⟨ob,es,ep,t,e,c⟩:=x;exact ⟨ob,es,ep,t,k _ _ (.inl rfl) e,c⟩
 | ins C dx fs=>
  obtain ⟨d,z,ne,e,mA,⟨od,es,ep,e2,c⟩,r⟩:=x;exact ⟨ho _ d,z,ne,k _ _ (.inl rfl) e,mA,⟨od,es,ep,k _ _ (.inr d) e2,c⟩,r⟩
 | own y=>obtain ⟨ob,e⟩:=x;exact ⟨ob,k _ _ (.inl rfl) e⟩
 | xd fs=>obtain ⟨mA,⟨od,es,ep,e,c⟩,r⟩:=x;exact ⟨mA,⟨od,es,ep,k _ _ (.inl rfl) e,c⟩,r⟩
 | rng lo hi=>obtain ⟨t,u,v,e⟩:=x;exact ⟨t,u,v,k _ _ (.inl rfl) e⟩
 | frz ob u ih=>obtain ⟨e,q⟩:=x;exact ⟨k _ _ (.inl rfl) e,ih q⟩
 | tbl ps=>
  have e:h.get? a=some { cls:=.none,data:=.fields ps }:=x;show h'.get? a=some { cls:=.none,data:=.fields ps };exact k a _ (.inl rfl) e
 | met f y=>
  have e:h.get? a=some (PySem.W.methodObj (.ref f) (.ref y)):=x;show h'.get? a=some (PySem.W.methodObj (.ref f) (.ref y));exact k a _ (.inl rfl) e
 | ext φ=>obtain ⟨p,⟨o,e⟩,st⟩:=x;exact ⟨st _ _ p λo q=>k _ _ (.inl rfl) q,⟨o,k _ _ (.inl rfl) e⟩,st⟩
theorem HOk.lt (x:HOk P w H h) (e:H a=some o):a<h.objs.size:=(x a o e).lt
theorem HOk.fresh (x:HOk P w H h) (e:h.objs.size<=a):H a=none:=by
 cases q:H a with
 | none=>rfl
 | some u=>exact absurd (Nat.lt_of_lt_of_le (x.lt q) e) (Nat.lt_irrefl _)
theorem HOk.kept (x:HOk P w H h) (k:∀ b u,h.get? b=some u->h'.get? b=some u):HOk P w H h':=λa o e=>
 (x a o e).vR (λb u _ q=>k b u q) (λ_ q=>q) λ_ _ q=>q
theorem HOk.laid (x:HOk P w H h) (k:∀ b u,h.get? b=some u->h'.get? b=some u) (hp:h.objs.size<=a) (new:cm P w (upd H a o) h' a o):HOk P w (upd H a o) h':=λb u e=>by
 have hn:=x.fresh hp;by_cases hb:b=a
 ·subst hb;rw [ab] at e;cases e;exact new
 ·rw [ay hb] at e;exact (x b u e).vR (λc v _ q=>k c v q) (λc q=>by rw [ay (ao q hn)];exact q) λc xs q=>by rw [ay (ao q hn)];exact q
end
def Rd (H:Hp) (a:Addr) (u:HO):Prop:=H a=some u\/∃ o,H a=some (.frz o u)
theorem Rd.of {H:Hp}{a:Addr}{u:HO} (h:H a=some u):Rd H a u:=.inl h
theorem Rd.ok {P:Program}{w:World}{H:Hp}{h:Heap}{a:Addr}{u:HO} (r:Rd H a u) (x:HOk P w H h):cm P w H h a u:=by
 rcases r with r | ⟨o,r⟩
 ·exact x a u r
 ·obtain ⟨_,q⟩:=x a _ r;exact q
def Mut:Option HO->Prop
 | some (.lst _)=>True
 | some (.dK _)=>True
 | some (.dT _)=>True
 | some (.set _ _)=>True
 | some (.ins _ _ _)=>True
 | some (.ext _)=>True
 | _=>False
section
variable {P:Program}{w:World}{H:Hp}{h h':Heap}{x e:Addr}{o':HO}
theorem HOk.write (ok:HOk P w H h) (mu:Mut (H x)) (he:e=x\/H e=some (.own x)) (k:∀ b u,b≠e->h.get? b=some u->h'.get? b=some u) (heo:∃ u,h'.get? e=some u)
  (new:cm P w (upd H x o') h' x o'):HOk P w (upd H x o') h':=λb u q=>by
 have Ks:∀ c y,H c=some (.own y)->c≠x:=λc y r z=>by subst z;rw [r] at mu;exact mu
 have My:∀ c xs,H c=some (.tup xs)->c≠x:=λc xs r z=>by subst z;rw [r] at mu;exact mu
 by_cases hb:b=x
 ·subst hb;rw [ab] at q;cases q;exact new
 ·rw [ay hb] at q;by_cases hbe:b=e
  ·have q':H b=some (.own x):=by
    rcases he with z | z
    ·exact absurd (hbe.trans z) hb
    ·rw [hbe];exact z
   rw [q] at q';cases q';obtain ⟨v,hv⟩:=heo;exact ⟨v,by rw [hbe];exact hv⟩
  ·refine (ok b u q).vR (λc v hc r=>k c v ?_ r) (λc r=>by rw [ay (Ks c b r)];exact r) λc xs r=>by rw [ay (My c xs r)];exact r
   rcases hc with rfl | hc
   ·exact hbe
   ·rintro rfl;rcases he with z | z
    ·exact Ks c b hc z
    ·rw [hc] at z;cases z;exact hb rfl
end
structure Un (fs ex:List Addr) (H H':Hp) (h h':Heap):Prop where
 keep:∀ b o,h.get? b=some o->H b=none->b∉fs->b∉ex->h'.get? b=some o
 slot:∀ b o,h.get? b=some o->H b=none->b∈fs->b∉ex->∃ sl,h'.get? b=some { o with slots:=sl }
 free:∀ b o,h.get? b=some o->H b=none->b∉ex->H' b=none
 there:∀ b o,h.get? b=some o->b∉ex->∃ o',h'.get? b=some o'
 sY:∀ b xs,H b=some (.tup xs)->H' b=some (.tup xs)
 rm:∀ b o u,H b=some (.frz o u)->H' b=some (.frz o u)
 rl:∀ b ps,H b=some (.tbl ps)->∃ more,H' b=some (.tbl (ps++more))
section
variable {fs fs' ex ex':List Addr}{H H1 H2:Hp}{h h1 h2 h':Heap}{a x e:Addr}{o:HO}
theorem Un.any (u:Un fs ex H H1 h h1) {b:Addr}{ob:Obj} (q:h.get? b=some ob) (n:H b=none) (hx:b∉ex):∃ sl,h1.get? b=some { ob with slots:=sl }:=by
 by_cases hb:b∈fs
 ·exact u.slot b ob q n hb hx
 ·exact ⟨ob.slots,u.keep b ob q n hb hx⟩
theorem Un.trans (a:Un fs ex H H1 h h1) (b:Un fs ex H1 H2 h1 h2):Un fs ex H H2 h h2 where
 keep:=λc ob q n hc hx=>b.keep c ob (a.keep c ob q n hc hx) (a.free c ob q n hx) hc hx
 slot:=λc ob q n hc hx=>by
  obtain ⟨sl,e1⟩:=a.slot c ob q n hc hx;obtain ⟨sl',e2⟩:=b.slot c _ e1 (a.free c ob q n hx) hc hx;exact ⟨sl',e2⟩
 free:=λc ob q n hx=>by
  obtain ⟨o',e1⟩:=a.there c ob q hx;exact b.free c o' e1 (a.free c ob q n hx) hx
 there:=λc ob q hx=>by
  obtain ⟨o',e1⟩:=a.there c ob q hx;exact b.there c o' e1 hx
 sY:=λc xs q=>b.sY c xs (a.sY c xs q)
 rm:=λc ob xs q=>b.rm c ob xs (a.rm c ob xs q)
 rl:=λc ps q=>by
  obtain ⟨m1,e1⟩:=a.rl c ps q;obtain ⟨m2,e2⟩:=b.rl c _ e1;exact ⟨m1++m2,by rw [e2,Array.append_assoc]⟩
theorem Un.kept (k:∀ b u,h.get? b=some u->h'.get? b=some u):Un fs ex H H h h':=
 ⟨λb ob q _ _ _=>k b ob q,λb ob q _ _ _=>⟨ob.slots,k b ob q⟩,λ_ _ _ n _=>n,λb ob q _=>⟨ob,k b ob q⟩,λ_ _ q=>q,λ_ _ _ q=>q,λ_ ps q=>⟨#[],by rw [q];simp⟩⟩
theorem Un.refl:Un fs ex H H h h:=Un.kept λ_ _ q=>q
theorem Un.laid (k:∀ b u,h.get? b=some u->h'.get? b=some u) (hp:h.objs.size<=a) (hn:H a=none):Un fs ex H (upd H a o) h h' where
 keep:=λb u q _ _ _=>k b u q
 slot:=λb u q _ _ _=>⟨u.slots,k b u q⟩
 free:=λb u q n _=>by rw [ay (Nat.ne_of_lt (Nat.lt_of_lt_of_le (Heap.lt_size q) hp))];exact n
 there:=λb u q _=>⟨u,k b u q⟩
 sY:=λb xs q=>by rw [ay (ao q hn)];exact q
 rm:=λb u xs q=>by rw [ay (ao q hn)];exact q
 rl:=λb ps q=>⟨#[],by rw [ay (ao q hn),q];simp⟩
theorem Un.write (mu:Mut (H x)) (he:e=x\/H e=some (.own x)) (k:∀ b u,b≠e->h.get? b=some u->h'.get? b=some u) (heo:∃ u,h'.get? e=some u):Un fs ex H (upd H x o) h h':=by
 have hx:∀ b,H b=none->b≠x:=λb n z=>by subst z;rw [n] at mu;exact mu
 have hb:∀ b,H b=none->b≠e:=λb n z=>by
  subst z;rcases he with r | r
  ·exact hx b n r
  ·rw [n] at r;cases r
 have hm:∀ b u,H b=some u -> ¬ Mut (some u)->b≠x:=λb u q nm z=>by subst z;rw [q] at mu;exact nm mu
 refine ⟨λb u q n _ _=>k b u (hb b n) q,λb u q n _ _=>⟨u.slots,k b u (hb b n) q⟩,λb u q n _=>by rw [ay (hx b n)];exact n,λb u q _=>?_,
  λb xs q=>by rw [ay (hm b _ q λz=>z)];exact q,λb u xs q=>by rw [ay (hm b _ q λz=>z)];exact q,λb ps q=>⟨#[],by rw [ay (hm b _ q λz=>z),q];simp⟩⟩
 by_cases hbe:b=e
 ·subst hbe;exact heo
 ·exact ⟨u,k b u hbe q⟩
end
def trk (h:Heap) (H:Hp):List Addr:=(List.range h.objs.size).filter λa=>(H a).isSome
def ye (h:Heap) (H:Hp):Heap:=PySem.W.hideAll h (trk h H)
theorem BU (h:Heap) (H:Hp):(ye h H).objs.size=h.objs.size:=PySem.W.hideAll_size _ _
theorem yX {h:Heap}{H:Hp}{b:Addr}{o:Obj} (e:h.get? b=some o) (n:H b=none):(ye h H).get? b=some o:=
 PySem.W.hideAll_get _ e λhm=>by
  have q:(H b).isSome=true:=(List.mem_filter.mp hm).2;rw [n] at q;simp at q
theorem Hh {h:Heap}{H:Hp}{b:Addr}{o:Obj} (e:(ye h H).get? b=some o):h.get? b=some o/\H b=none:=by
 have e':h.get? b=some o:=PySem.W.of_hideAll (trk h H) e;refine ⟨e',?_⟩;cases q:H b with
 | none=>rfl
 | some x=>
  have hm:b∈trk h H:=List.mem_filter.mpr ⟨List.mem_range.mpr (Heap.lt_size e'),by simp [q]⟩;have z:(ye h H).get? b=none:=PySem.W.hideAll_none (trk h H) hm;rw [z] at e;cases e
def Ga (g h:Heap) (L:Addr):List (Addr×Obj):=(List.range h.objs.size).filterMap λa=>if a=L\/(g.get? a).isSome=true then none else (h.get? a).map λo=>(a,o)
def rest (g h:Heap) (L d:Addr):List (Addr×Obj):=(Ga g h L).filter λp=>decide (p.1≠d)
structure Mod (K:PySem.W.Frag) (mg:Str->Option Value) (base:Heap):Prop where
 kin:K.In base
 glob:base.Ns mainGlobals mg
 blt:∃ mb,base.Ns builtinsNs mb/\∀ x:Str,x ≠ "__name__" -> mb x=bootBuiltins x
 nolimit:base.NoLimit
structure Cx where
 prog:Program
 w:World
 K:PySem.W.Frag
 mg:Str->Option Value
 base:Heap
 A:Around
 N:List Str
 s₀:Shared
 H₀:Hp
 env:Env
 outer:List Env
 stack:List Env
 ex:List Addr
 fn:Str->Bool
 calm:Bool
 pn:List (Addr×Obj)
 xe:Value->Shared->Prop
def frs (l:List Env):List Addr:=l.filterMap (·.frame)
abbrev Cx.fs (X:Cx):List Addr:=frs X.outer
def Vis (sc:Scope) (x:Str):Prop:=sc.names.lookup x=some .local\/sc.names.lookup x=some .cell\/sc.names.lookup x=some .free
def Loc (sc:Scope) (x:Str):Prop:=sc.names.lookup x=some .local\/sc.names.lookup x=some .cell
def Look (env:Env) (h:Heap) (m:Str->Option Value) (x:Str) (u:Value):Prop:=
 (env.kindOf x=some .local/\m x=some u)\/((env.kindOf x=some .cell\/env.kindOf x=some .free)/\∃ c,env.cells.lookup x=some c/\h.IsCell c (some u))
structure Cx.Ok (X:Cx):Prop where
 mod:Mod X.K X.mg X.base
 kind:X.env.scope.kind = .function
 glob:X.env.globals=mainGlobals
 blt:X.env.builtins=builtinsNs
 above:X.s₀.heap.objs.size<=X.env.locals
 inj:∀ x y c,X.env.cells.lookup x=some c->X.env.cells.lookup y=some c->x=y
 has:∀ x,(X.env.kindOf x=some .cell\/X.env.kindOf x=some .free)->∃ c,X.env.cells.lookup x=some c
 cab:∀ x c,X.fn x=true->X.env.cells.lookup x=some c->X.s₀.heap.objs.size<=c
 hd:X.calm=true->X.A.handled=none
 frames:X.A.frames=some X.stack
 stk:X.stack=X.outer\/(X.stack=X.env::X.outer/\X.env.frame=some X.env.locals)
 exf:∀ b∈X.ex,b≠X.env.locals/\∀ x c,X.env.cells.lookup x=some c->c≠b
 bs:∀ b o,X.base.get? b=some o->X.s₀.heap.get? b=some o/\X.H₀ b=none
 bsz:X.base.objs.size<=X.s₀.heap.objs.size
 D6:∀ b o,X.base.get? b=some o->b∉X.ex
 BO:∀ b∈X.ex,b∉X.fs
 pX:X.s₀.heap.FunFrames X.base X.outer
 frf:∀ b∈X.fs,X.H₀ b=none
structure Inv (X:Cx) (pins:List (Addr×Obj)) (σ:List (Option V)) (H:Hp) (s:Shared):Prop where
 ok:X.Ok
 os:s.os=X.s₀.os
 bare:AllBare s.gens
 base:Un X.fs X.ex X.H₀ H X.s₀.heap s.heap
 loc:∃ m,s.heap.Ns X.env.locals m/\∀ (i:Nat) (x:Str) (v:V),X.N[i]? = some x->σ[i]? = some (some v)->Vis X.env.scope x->∃ u,RelV v u/\Look X.env s.heap m x u
 cell:∀ x c,X.env.cells.lookup x=some c->∃ v,s.heap.IsCell c v
 free:H X.env.locals=none
 kP:∀ x c,X.env.cells.lookup x=some c->H c=none
 pin:∀ p∈X.pn++pins,s.heap.get? p.1=some p.2/\H p.1=none/\p.1≠X.env.locals/\p.1∉X.fs/\∀ v,p.2.data ≠ .cell v
 hok:HOk X.prog X.w H s.heap
 len:σ.length=X.N.length
section
variable {X:Cx}{pins:List (Addr×Obj)}{σ:List (Option V)}{H H':Hp}{s:Shared}{h':Heap}
theorem Cx.Ok.L3 (ok:X.Ok) {b:Addr}{o:Obj} (e:X.base.get? b=some o):b∉X.fs:=λhb=>by
 have:=(ok.pX.mem hb).1;rw [e] at this;cases this
theorem Inv.bs (I:Inv X pins σ H s):∀ b o,X.base.get? b=some o->s.heap.get? b=some o/\H b=none:=λb o e=>
 ⟨I.base.keep b o (I.ok.bs b o e).1 (I.ok.bs b o e).2 (I.ok.L3 e) (I.ok.D6 b o e),I.base.free b o (I.ok.bs b o e).1 (I.ok.bs b o e).2 (I.ok.D6 b o e)⟩
theorem Inv.bk (I:Inv X pins σ H s):∀ b o,X.base.get? b=some o->s.heap.get? b=some o:=λb o e=>(I.bs b o e).1
theorem Inv.mod (I:Inv X pins σ H s):Mod X.K X.mg X.base:=I.ok.mod
theorem Inv.kIn (I:Inv X pins σ H s):X.K.In s.heap:=I.ok.mod.kin.keeps I.bk
theorem Inv.nolimit (I:Inv X pins σ H s):s.heap.NoLimit:=I.ok.mod.nolimit.keeps I.bk
theorem Inv.lt (I:Inv X pins σ H s):X.env.locals<s.heap.objs.size:=let ⟨_,hn,_⟩:=I.loc;hn.lt
theorem Inv.sz (I:Inv X pins σ H s):X.s₀.heap.objs.size<=s.heap.objs.size:=N2 I.ok.above (Nat.le_of_lt I.lt)
theorem Inv.Ko (I:Inv X pins σ H s) {a:Addr} (h:s.heap.objs.size<=a):a∉X.fs:=λhb=>by
 obtain ⟨_,o,ho,_⟩:=I.ok.pX.mem hb;exact absurd (Nat.lt_of_lt_of_le (Heap.lt_size ho) (N2 I.sz h)) (Nat.lt_irrefl _)
theorem Inv.cne (I:Inv X pins σ H s):∀ x c,X.env.cells.lookup x=some c->c≠X.env.locals:=λx c e z=>by
 obtain ⟨v,o,ho,hd⟩:=I.cell x c e;obtain ⟨m,⟨o',es,ep,ho',hd',_⟩,_⟩:=I.loc;rw [z,ho'] at ho;cases ho;rw [hd'] at hd;cases hd
theorem Inv.pX (I:Inv X pins σ H s):s.heap.FunFrames X.base X.outer:=by
 have all:∀ (l:List Env),(∀ b∈frs l,b∈X.fs)->X.s₀.heap.FunFrames X.base l->s.heap.FunFrames X.base l:=by
  intro l
  induction l with
  | nil=>intro _ _;trivial
  | cons env r ih=>
   intro hs hl;obtain ⟨hk,⟨L,o,hf,hn,ho,hd⟩,hr⟩:=hl;have hL:L∈X.fs:=hs L (by unfold frs;rw [List.filterMap_cons,hf];exact N4);obtain ⟨sl,e⟩:=I.base.slot L o ho (I.ok.frf L hL) hL λz=>I.ok.BO L z hL;exact ⟨hk,⟨L,_,hf,hn,e,hd⟩,ih (λb hb=>hs b (by unfold frs;rw [List.filterMap_cons,hf];exact NY _ hb)) hr⟩
 exact all X.outer (λ_ hb=>hb) I.ok.pX
theorem Inv.stack (I:Inv X pins σ H s):s.heap.FunFrames X.base X.stack:=by
 rcases I.ok.stk with e | ⟨e,hf⟩
 ·rw [e];exact I.pX
 ·rw [e];obtain ⟨m,hn,_⟩:=I.loc;refine .cons (by rw [I.ok.kind];decide) hf hn ?_ I.pX;exact Heap.get?_none_of_le (N2 I.ok.bsz I.ok.above)
theorem Inv.z7 (I:Inv X pins σ H s):∀ b∈frs X.stack,b∈X.env.locals::X.fs:=λb hb=>by
 rcases I.ok.stk with e | ⟨e,hf⟩
 ·rw [e] at hb;exact NY _ hb
 ·rw [e] at hb;unfold frs at hb;rw [List.filterMap_cons,hf] at hb;exact hb
theorem Inv.Ba (I:Inv X pins σ H s):∀ b∈frs X.stack,H b=none:=λb hb=>by
 rcases List.mem_cons.mp (I.z7 b hb) with e | hb
 ·rw [e];exact I.free
 ·obtain ⟨_,o,ho,_⟩:=I.ok.pX.mem hb;exact I.base.free b o ho (I.ok.frf b hb) λz=>I.ok.BO b z hb
theorem Inv.step {g':Array GenState}{t':Nat}{d':Drawn}{ch:List Addr} (I:Inv X pins σ H s)
  (hch:∀ b∈ch,(b∈X.ex\/X.s₀.heap.objs.size<=b)/\b≠X.env.locals/\(∀ x c,X.env.cells.lookup x=some c->c≠b)/\∀ p∈X.pn++pins,p.1≠b)
  (keep:∀ b o,b≠X.env.locals->b∉X.fs->b∉ch->s.heap.get? b=some o->H b=none->h'.get? b=some o)
  (slot:∀ b o,b≠X.env.locals->b∈X.fs->b∉ch->s.heap.get? b=some o->H b=none->∃ sl,h'.get? b=some { o with slots:=sl }) (free:∀ b o,b∉ch->s.heap.get? b=some o->H b=none->H' b=none)
  (there:∀ b o,b∉ch->s.heap.get? b=some o->∃ o',h'.get? b=some o')
  (sY:∀ b xs,H b=some (.tup xs)->H' b=some (.tup xs)) (rm:∀ b o u,H b=some (.frz o u)->H' b=some (.frz o u)) (rl:∀ b ps,H b=some (.tbl ps)->∃ more,H' b=some (.tbl (ps++more)))
  (ns:∀ m,s.heap.Ns X.env.locals m->h'.Ns X.env.locals m) (hok:HOk X.prog X.w H' h') (hg:AllBare g') :
  Inv X pins σ H' { s with heap:=h',gens:=g',drawn:=d',toks:=t' }:=by
 have neL:∀ b o,X.s₀.heap.get? b=some o->b≠X.env.locals:=λb o e=>Nat.ne_of_lt (Nat.lt_of_lt_of_le (Heap.lt_size e) I.ok.above);have neC:∀ b o,X.s₀.heap.get? b=some o->b∉X.ex->b∉ch:=λb o e hx hb=>by
  rcases (hch b hb).1 with z | z
  ·exact hx z
  ·exact absurd (Nat.lt_of_lt_of_le (Heap.lt_size e) z) (Nat.lt_irrefl _)
 have cellK:∀ x c,X.env.cells.lookup x=some c->∀ v,s.heap.IsCell c v->h'.IsCell c v:=λx c e v ⟨o,ho,hd⟩=>by
  have nch:c∉ch:=λz=>(hch c z).2.2.1 x c e rfl;by_cases hc:c∈X.fs
  ·obtain ⟨sl,q⟩:=slot c o (I.cne x c e) hc nch ho (I.kP x c e);exact ⟨_,q,hd⟩
  ·exact ⟨o,keep c o (I.cne x c e) hc nch ho (I.kP x c e),hd⟩
 refine ⟨I.ok,I.os,hg,⟨λb o e n hb hx=>?_,λb o e n hb hx=>?_,λb o e n hx=>?_,λb o e hx=>?_,λb xs e=>sY b xs (I.base.sY b xs e),λb o xs e=>rm b o xs (I.base.rm b o xs e),λb ps e=>?_⟩,?_,λx c e=>?_,?_,λx c e=>?_,λp hp=>?_,hok,I.len⟩
 ·exact keep b o (neL b o e) hb (neC b o e hx) (I.base.keep b o e n hb hx) (I.base.free b o e n hx)
 ·obtain ⟨sl,e1⟩:=I.base.slot b o e n hb hx;obtain ⟨sl',e2⟩:=slot b _ (neL b o e) hb (neC b o e hx) e1 (I.base.free b o e n hx);exact ⟨sl',e2⟩
 ·obtain ⟨o',e1⟩:=I.base.there b o e hx;exact free b o' (neC b o e hx) e1 (I.base.free b o e n hx)
 ·obtain ⟨o',e1⟩:=I.base.there b o e hx;exact there b o' (neC b o e hx) e1
 ·obtain ⟨m1,e1⟩:=I.base.rl b ps e;obtain ⟨m2,e2⟩:=rl b _ e1;exact ⟨m1++m2,by rw [e2,Array.append_assoc]⟩
 ·obtain ⟨m,hn,hl⟩:=I.loc;refine ⟨m,ns m hn,λi x v e1 e2 e3=>?_⟩;obtain ⟨u,r,l⟩:=hl i x v e1 e2 e3;refine ⟨u,r,?_⟩;rcases l with l | ⟨k,c,e,z⟩
  ·exact .inl l
  ·exact .inr ⟨k,c,e,cellK x c e _ z⟩
 ·obtain ⟨v,z⟩:=I.cell x c e;exact ⟨v,cellK x c e v z⟩
 ·obtain ⟨m,⟨o,_,_,ho,_⟩,_⟩:=I.loc;exact free _ o (λz=>(hch _ z).2.1 rfl) ho I.free
 ·obtain ⟨v,o,ho,hd⟩:=I.cell x c e;exact free c o (λz=>(hch c z).2.2.1 x c e rfl) ho (I.kP x c e)
 ·obtain ⟨e,n,ne,nf,d⟩:=I.pin p hp;have nch:p.1∉ch:=λz=>(hch p.1 z).2.2.2 p hp rfl;exact ⟨keep p.1 p.2 ne nf nch e n,free p.1 p.2 nch e n,ne,nf,d⟩
theorem Inv.un {t':Nat} (I:Inv X pins σ H s) (u:Un X.fs [] H H' s.heap h') (hok:HOk X.prog X.w H' h'):Inv X pins σ H' { s with heap:=h',toks:=t' }:=by
 obtain ⟨m,⟨o,es,ep,ho,r⟩,_⟩:=id I.loc;obtain ⟨sl,hL⟩:=u.any ho I.free (by simp);exact I.step (g':=s.gens) (d':=s.drawn) (ch:=[]) (λ_ z=>nomatch z) (λb o _ hb _ e n=>u.keep b o e n hb (by simp)) (λb o _ hb _ e n=>u.slot b o e n hb (by simp)) (λb o _ e n=>u.free b o e n (by simp)) (λb o _ e=>u.there b o e (by simp)) u.sY u.rm u.rl (λm' hm=>by
  obtain ⟨o',es',ep',ho',r'⟩:=hm;rw [ho] at ho';cases ho';exact ⟨_,es',ep',hL,r'⟩) hok I.bare
theorem Inv.call {g':Array GenState}{t':Nat}{d':Drawn}{ch:List Addr} (I:Inv X pins σ H s) (u:Un (frs X.stack) ch H H' s.heap h') (hok:HOk X.prog X.w H' h') (hg:AllBare g')
  (hch:∀ b∈ch,(b∈X.ex\/X.s₀.heap.objs.size<=b)/\b≠X.env.locals/\(∀ x c,X.env.cells.lookup x=some c->c≠b)/\∀ p∈X.pn++pins,p.1≠b) :
  Inv X pins σ H' { s with heap:=h',gens:=g',drawn:=d',toks:=t' }:=by
 obtain ⟨m,⟨o,es,ep,ho,r⟩,_⟩:=id I.loc;obtain ⟨sl,hL⟩:=u.any ho I.free λz=>(hch _ z).2.1 rfl;exact I.step (ch:=ch) hch (λb o hL hb hc e n=>u.keep b o e n (λz=>(List.mem_cons.mp (I.z7 b z)).elim hL hb) hc) (λb o _ _ hc e n=>u.any e n hc) (λb o hc e n=>u.free b o e n hc) (λb o hc e=>u.there b o e hc) u.sY u.rm u.rl (λm' hm=>by
  obtain ⟨o',es',ep',ho',r'⟩:=hm;rw [ho] at ho';cases ho';exact ⟨_,es',ep',hL,r'⟩) hok hg
theorem Inv.turned {t':Nat}{it:Addr} (I:Inv X pins σ H s) (k:∀ b o,b≠it->s.heap.get? b=some o->h'.get? b=some o) (hn:H it=none) (hL:it≠X.env.locals)
  (h1:it∈X.ex\/X.s₀.heap.objs.size<=it) (h2:∀ x c,X.env.cells.lookup x=some c->c≠it) (h3:∀ p∈X.pn++pins,p.1≠it):Inv X pins σ H { s with heap:=h',toks:=t' }:=by
 have nit:∀ b u,H b=some u->b≠it:=λb u e z=>by rw [z,hn] at e;cases e
 refine I.step (g':=s.gens) (d':=s.drawn) (ch:=[it]) (λb hb=>?_) (λb o _ _ hc e _=>k b o (λz=>hc (by simp [z])) e) (λb o _ _ hc e _=>⟨o.slots,k b o (λz=>hc (by simp [z])) e⟩) (λ_ _ _ _ n=>n)
  (λb o hc e=>⟨o,k b o (λz=>hc (by simp [z])) e⟩) (λ_ _ e=>e) (λ_ _ _ e=>e) (λb ps e=>⟨#[],by rw [e];simp⟩) (λm hm=>?_) (λb u e=>?_) I.bare
 ·have e:b=it:=by simpa using hb
  subst e;exact ⟨h1,hL,h2,h3⟩
 ·obtain ⟨o,es,ep,ho,r⟩:=hm;exact ⟨o,es,ep,k _ o (Ne.symm hL) ho,r⟩
 ·refine (I.hok b u e).vR (λc v hc q=>k c v ?_ q) (λ_ q=>q) λ_ _ q=>q;rcases hc with z | z
  ·rw [z];exact nit b u e
  ·exact nit c _ z
theorem Inv.tok (I:Inv X pins σ H s) (t:Nat):Inv X pins σ H { s with toks:=t }:=I.un (h':=s.heap) (t':=t) Un.refl I.hok
theorem Inv.kept {t':Nat} (I:Inv X pins σ H s) (k:∀ b u,s.heap.get? b=some u->h'.get? b=some u):Inv X pins σ H { s with heap:=h',toks:=t' }:=I.un (Un.kept k) (I.hok.kept k)
theorem Inv.laid {a:Addr}{o:HO}{t':Nat} (I:Inv X pins σ H s) (k:∀ b u,s.heap.get? b=some u->h'.get? b=some u) (hp:s.heap.objs.size<=a) (new:cm X.prog X.w (upd H a o) h' a o) :
  Inv X pins σ (upd H a o) { s with heap:=h',toks:=t' }:=I.un (Un.laid k hp (I.hok.fresh hp)) (I.hok.laid k hp new)
theorem Inv.write {x e:Addr}{o:HO}{t':Nat} (I:Inv X pins σ H s) (mu:Mut (H x)) (he:e=x\/H e=some (.own x)) (k:∀ b u,b≠e->s.heap.get? b=some u->h'.get? b=some u) (heo:∃ u,h'.get? e=some u)
  (new:cm X.prog X.w (upd H x o) h' x o):Inv X pins σ (upd H x o) { s with heap:=h',toks:=t' }:=I.un (Un.write mu he k heo) (I.hok.write mu he k heo new)
theorem Inv.px {HI:List (Addr×Obj)} (I:Inv X pins σ H s) (h:∀ p∈HI,s.heap.get? p.1=some p.2/\H p.1=none/\p.1≠X.env.locals/\p.1∉X.fs/\∀ v,p.2.data ≠ .cell v):Inv X HI σ H s:=
 ⟨I.ok,I.os,I.bare,I.base,I.loc,I.cell,I.free,I.kP,λp hp=>(List.mem_append.mp hp).elim (λz=>I.pin p (List.mem_append_left _ z)) (h p),I.hok,I.len⟩
theorem y9 {N:List Str} (hN:N.Nodup) {i j:Nat}{x:Str} (a:N[i]? = some x) (b:N[j]? = some x):i=j:=by
 obtain ⟨h1,e1⟩:=List.getElem?_eq_some_iff.mp a;obtain ⟨h2,e2⟩:=List.getElem?_eq_some_iff.mp b;exact (List.getElem_inj hN).mp (e1.trans e2.symm)
theorem qo {M:Model}{A:Around}{E:Value->Shared->Prop}{i:Nat}{x:Str}{v:V}{u:Value}{Q:Unit->Shared->Prop} (I:Inv X pins σ H s) (hN:X.N.Nodup) (hi:X.N[i]? = some x) (hx:Loc X.env.scope x) (r:RelV v u)
  (h:∀ s',Inv X pins (σ.set i (some v)) H s'->(∃ a,Heap.SameBut a s.heap s'.heap/\(a=X.env.locals\/X.env.cells.lookup x=some a))->Q () s') (hf:X.fn x=true\/X.env.scope.names.lookup x=some .local:=by first | exact .inl rfl | exact .inr rfl | assumption):wpAny M A (storeName X.env x u) Q E s:=by
 obtain ⟨m,hn,hl⟩:=id I.loc;have MZ:(X.env.scope.kind == .class || (X.env.scope.kind == .module && X.env.locals != X.env.globals))=false:=by rw [I.ok.kind];rfl
 have hiσ:i<σ.length:=by rw [I.len];exact (List.getElem?_eq_some_iff.mp hi).1
 have cne:=I.cne;have tracked:∀ {a:Addr}{h':Heap},(∃ o,s.heap.get? a=some o/\H a=none)->Heap.SameBut a s.heap h'->HOk X.prog X.w H h':=λ{a h'} ha hs b ob e=>by
  obtain ⟨_,_,HB⟩:=ha;refine (I.hok b ob e).vR (λc w' hc q=>(hs.2 c ?_).trans q) (λ_ q=>q) λ_ _ q=>q;rintro rfl;rcases hc with rfl | hc
  ·rw [HB] at e;cases e
  ·rw [HB] at hc;cases hc
 rcases hx with hk | hk
 ·refine wpAny_storeName_local hk hn (λh' hn' hs=>?_) MZ;obtain ⟨oL,_,_,hoL,_⟩:=id hn;refine h _ ⟨I.ok,I.os,I.bare,⟨λb o e n hb hx=>?_,λb o e n hb hx=>?_,I.base.free,λb o e hx=>?_,I.base.sY,I.base.rm,I.base.rl⟩,⟨_,hn',λj y v' e1 e2 e3=>?_⟩,λy c e=>?_,I.free,I.kP,λp hp=>?_,tracked ⟨oL,hoL,I.free⟩ hs,by simpa using I.len⟩ ⟨_,hs,.inl rfl⟩
  ·exact (hs.2 b (Nat.ne_of_lt (Nat.lt_of_lt_of_le (Heap.lt_size e) I.ok.above))).trans (I.base.keep b o e n hb hx)
  ·obtain ⟨sl,e1⟩:=I.base.slot b o e n hb hx;exact ⟨sl,(hs.2 b (Nat.ne_of_lt (Nat.lt_of_lt_of_le (Heap.lt_size e) I.ok.above))).trans e1⟩
  ·obtain ⟨o',e1⟩:=I.base.there b o e hx;exact ⟨o',(hs.2 b (Nat.ne_of_lt (Nat.lt_of_lt_of_le (Heap.lt_size e) I.ok.above))).trans e1⟩
  ·by_cases hj:j=i
   ·subst hj;rw [hi] at e1;cases e1;rw [List.getElem?_set_self hiσ] at e2;cases e2;exact ⟨u,r,.inl ⟨hk,by simp⟩⟩
   ·rw [List.getElem?_set_ne (Ne.symm hj)] at e2;obtain ⟨u',r',q⟩:=hl j y v' e1 e2 e3;refine ⟨u',r',?_⟩;rcases q with ⟨k,e⟩ | ⟨k,c,e,z⟩
    ·refine .inl ⟨k,?_⟩;have:y≠x:=λe=>hj (y9 hN e1 (e ▸ hi));simp [this,e]
    ·exact .inr ⟨k,c,e,z.sameBut hs (cne y c e)⟩
  ·obtain ⟨w',z⟩:=I.cell y c e;exact ⟨w',z.sameBut hs (cne y c e)⟩
  ·obtain ⟨e,n,ne,nf,d⟩:=I.pin p hp;exact ⟨(hs.2 p.1 ne).trans e,n,ne,nf,d⟩
 ·have hfn:X.fn x=true:=by
   rcases hf with z | z
   ·exact z
   ·rw [z] at hk;cases hk
  obtain ⟨c,hc⟩:=I.ok.has x (.inl hk);obtain ⟨w',z⟩:=I.cell x c hc;refine wpAny_storeName_cell I.ok.kind hk hc z (λh' hc' hs=>?_);obtain ⟨oc,hoc,M0⟩:=id z;refine h { s with heap:=h' } ⟨I.ok,I.os,I.bare,⟨λb o e n hb hx=>?_,λb o e n hb hx=>?_,I.base.free,λb o e hx=>?_,I.base.sY,I.base.rm,I.base.rl⟩,⟨m,hn.sameBut hs (Ne.symm (cne x c hc)),λj y v' e1 e2 e3=>?_⟩,λy c' e=>?_,I.free,I.kP,λp hp=>?_,tracked ⟨oc,hoc,I.kP x c hc⟩ hs,by simpa using I.len⟩ ⟨c,hs,.inr hc⟩
  ·exact (hs.2 b (Nat.ne_of_lt (Nat.lt_of_lt_of_le (Heap.lt_size e) (I.ok.cab x c hfn hc)))).trans (I.base.keep b o e n hb hx)
  ·obtain ⟨sl,e1⟩:=I.base.slot b o e n hb hx;exact ⟨sl,(hs.2 b (Nat.ne_of_lt (Nat.lt_of_lt_of_le (Heap.lt_size e) (I.ok.cab x c hfn hc)))).trans e1⟩
  ·obtain ⟨o',e1⟩:=I.base.there b o e hx;exact ⟨o',(hs.2 b (Nat.ne_of_lt (Nat.lt_of_lt_of_le (Heap.lt_size e) (I.ok.cab x c hfn hc)))).trans e1⟩
  ·by_cases hj:j=i
   ·subst hj;rw [hi] at e1;cases e1;rw [List.getElem?_set_self hiσ] at e2;cases e2;exact ⟨u,r,.inr ⟨.inl hk,c,hc,hc'⟩⟩
   ·rw [List.getElem?_set_ne (Ne.symm hj)] at e2;obtain ⟨u',r',q⟩:=hl j y v' e1 e2 e3;refine ⟨u',r',?_⟩;rcases q with q | ⟨k,c',e,z'⟩
    ·exact .inl q
    ·refine .inr ⟨k,c',e,z'.sameBut hs ?_⟩;rintro rfl;exact hj (y9 hN e1 (I.ok.inj _ _ _ e hc ▸ hi))
  ·by_cases hcc:c' = c
   ·subst hcc;exact ⟨_,hc'⟩
   ·obtain ⟨w2,z2⟩:=I.cell y c' e;exact ⟨w2,z2.sameBut hs hcc⟩
  ·obtain ⟨e,n,ne,nf,d⟩:=I.pin p hp;refine ⟨(hs.2 p.1 ?_).trans e,n,ne,nf,d⟩;intro q;rw [q,hoc] at e;have q':oc=p.2:=Option.some.inj e;exact d w' (by rw [<-q'];exact M0)
theorem xw {M:Model}{A:Around}{E:Value->Shared->Prop}{i:Nat}{x:Str}{v:V}{u:Value}{Q:Unit->Shared->Prop} (I:Inv X pins σ H s) (hN:X.N.Nodup) (hi:X.N[i]? = some x) (hx:Loc X.env.scope x) (r:RelV v u)
  (h:∀ s',Inv X pins (σ.set i (some v)) H s'->Q () s') (hf:X.fn x=true\/X.env.scope.names.lookup x=some .local:=by first | exact .inl rfl | exact .inr rfl | assumption):wpAny M A (storeName X.env x u) Q E s:=
 qo I hN hi hx r (λs' I' _=>h s' I') hf
theorem Inv.HD {s':Shared}{ch:List Addr} (I:Inv X pins σ H s) (ho:s'.os=s.os) (u:Un (frs X.stack) ch H H' s.heap s'.heap) (hok:HOk X.prog X.w H' s'.heap) (hg:AllBare s'.gens)
  (hch:∀ b∈ch,(b∈X.ex\/X.s₀.heap.objs.size<=b)/\b≠X.env.locals/\(∀ x c,X.env.cells.lookup x=some c->c≠b)/\∀ p∈X.pn++pins,p.1≠b):Inv X pins σ H' s':=by
 obtain ⟨h',g',d',t',o'⟩:=s';have e:o' = s.os:=ho;subst e;exact I.call (g':=g') (t':=t') (d':=d') u hok hg hch
end
abbrev XK:=Value->Option Addr->Hp->Prop
abbrev St:=List (Option V)
abbrev VK:=V->Hp->Prop
abbrev TE:=St->Hp->VK->Prop
abbrev TT:=St->Hp->(Bool->Hp->Prop)->Prop
abbrev TA:=St->Hp->(List V->Hp->Prop)->Prop
structure Ends where
 nx:St->Hp->Prop
 rt:VK
 bk:St->Hp->Prop:=λ_ _=>False
 ct:St->Hp->Prop:=λ_ _=>False
abbrev TS:=Ends->St->Hp->Prop
def EP (X:Cx) (pins:List (Addr×Obj)) (σ:St) (Q:VK) (u:Value) (s':Shared):Prop:=∃ v H',Inv X pins σ H' s'/\RelV v u/\Q v H'
def TP (X:Cx) (pins:List (Addr×Obj)) (σ:St) (Q:Bool->Hp->Prop) (b:Bool) (s':Shared):Prop:=∃ H',Inv X pins σ H' s'/\Q b H'
def AP (X:Cx) (pins:List (Addr×Obj)) (σ:St) (Q:List V->Hp->Prop) (us:List Value) (s':Shared):Prop:=∃ vs H',Inv X pins σ H' s'/\aV vs us/\Q vs H'
def SP (X:Cx) (pins:List (Addr×Obj)) (D:Ends) (f:Flow) (s':Shared):Prop:=
 match f with
 | .next=>∃ σ' H',Inv X pins σ' H' s'/\D.nx σ' H'
 | .brk=>∃ σ' H',Inv X pins σ' H' s'/\D.bk σ' H'
 | .cont=>∃ σ' H',Inv X pins σ' H' s'/\D.ct σ' H'
 | .ret u=>∃ v σ' H',Inv X pins σ' H' s'/\RelV v u/\D.rt v H'
def PE (X:Cx) (e:Expr) (t:TE):Prop:=
 ∀ (pins:List (Addr×Obj)) (s:Shared) (σ:St) (H:Hp) (Q:VK),Inv X pins σ H s->t σ H Q->wpAny (model X.prog X.w) X.A (eval e X.env) (EP X pins σ Q) X.xe s
def PT (X:Cx) (e:Expr) (t:TT):Prop:=
 ∀ (pins:List (Addr×Obj)) (s:Shared) (σ:St) (H:Hp) (Q:Bool->Hp->Prop),Inv X pins σ H s->t σ H Q->wpAny (model X.prog X.w) X.A (isTrue e X.env (eval e X.env)) (TP X pins σ Q) X.xe s
def PW (X:Cx) (e:Expr) (t:TT):Prop:=
 ∀ (whole:Sem Value) (pins:List (Addr×Obj)) (s:Shared) (σ:St) (H:Hp) (Q:Bool->Hp->Prop),Inv X pins σ H s->t σ H Q->wpAny (model X.prog X.w) X.A (isTrue e X.env whole) (TP X pins σ Q) X.xe s
theorem PW.pt {X:Cx}{e:Expr}{t:TT} (h:PW X e t):PT X e t:=h _
def PA (X:Cx) (es:List Expr) (t:TA):Prop:=
 ∀ (pos:Pos) (pins:List (Addr×Obj)) (s:Shared) (σ:St) (H:Hp) (Q:List V->Hp->Prop),Inv X pins σ H s->t σ H Q->wpAny (model X.prog X.w) X.A (spliced (backTo pos (starEach es X.env))) (AP X pins σ Q) X.xe s
def PS (X:Cx) (st:Stmt) (t:TS):Prop:=
 ∀ (pins:List (Addr×Obj)) (s:Shared) (σ:St) (H:Hp) (D:Ends),Inv X pins σ H s->t D σ H->wpAny (model X.prog X.w) X.A (exec st X.env) (SP X pins D) X.xe s
def PSs (X:Cx) (st:List Stmt) (t:TS):Prop:=
 ∀ (pins:List (Addr×Obj)) (s:Shared) (σ:St) (H:Hp) (D:Ends),Inv X pins σ H s->t D σ H->wpAny (model X.prog X.w) X.A (execs st X.env) (SP X pins D) X.xe s
theorem thn {α:Type}{t:Sem α}{Q Q':α->Shared->Prop}{M:Model}{A:Around}{E:Value->Shared->Prop}{s:Shared} (h:wpAny M A t Q E s) (hQ:∀ a s,Q a s->Q' a s):wpAny M A t Q' E s:=wpAny_mono h hQ λ_ _ x=>x
section
variable {X:Cx}
def qb (i:Nat):TE:=λσ H Q=>∃ v,σ[i]? = some (some v)/\Q v H
def tC (v:V):TE:=λ_ H Q=>Q v H
theorem Ih {i:Nat}{x:Str}{pos:Pos} (hN:X.N[i]? = some x) (hv:Vis X.env.scope x) (hd:(x == ("__debug__" : Str))=false:=by decide) (hcd:(x == ("__classdict__" : Str))=false:=by decide):PE X (.Name x pos) (qb i):=by
 intro pins s σ H Q I h;obtain ⟨v,e,h⟩:=h;obtain ⟨m,hn,hl⟩:=I.loc;obtain ⟨u,r,l⟩:=hl i x v hN e hv;have fin:EP X pins σ Q u s:=⟨v,H,I,r,h⟩;rcases l with ⟨hk,hm⟩ | ⟨hk,c,hc,vk⟩
 ·exact wpAny_Name (wpAny_loadName_local I.ok.kind hk hn hm fin) hd
 ·rcases hk with hk | hk
  ·exact wpAny_Name (wpAny_loadName_cell I.ok.kind hk hc vk fin) hd
  ·exact wpAny_Name (wpAny_loadName_free I.ok.kind hk hc vk fin hcd) hd
theorem ap {i j pos}:PE X (.Constant (.int i) j pos) (tC (.int i)):=λ_ _ _ H _ I h=>wpAny_Constant_int ⟨.int i,H,I.tok _,⟨_,rfl⟩,h⟩
theorem gh {b j pos}:PE X (.Constant (.bool b) j pos) (tC (.bl b)):=λ_ _ _ H _ I h=>Constant_bool ⟨.bl b,H,I,rfl,h⟩
theorem lj {j pos}:PE X (.Constant .none j pos) (tC .non):=λ_ _ _ H _ I h=>Constant_none ⟨.non,H,I,rfl,h⟩
theorem aH {x j pos}:PE X (.Constant (.str x) j pos) (tC (.str x)):=λ_ _ _ H _ I h=>Calls.Constant_str ⟨.str x,H,I.tok _,⟨_,rfl⟩,h⟩
def Gl (X:Cx) (x:Str):Prop:=X.env.kindOf x=some .globalImplicit
theorem md {E:Value->Shared->Prop}{pins:List (Addr×Obj)}{s:Shared}{σ:St}{H:Hp}{x:Str}{u:Value}{pos:Pos}{Q:Value->Shared->Prop} (I:Inv X pins σ H s) (hg:Gl X x) (hm:X.mg x=some u) (h:Q u s)
  (hd:(x == ("__debug__" : Str))=false:=by decide):wpAny (model X.prog X.w) X.A (eval (.Name x pos) X.env) Q E s:=
 Calls.Name_function_global I.ok.kind hg (Calls.loadGlobal_global (by rw [I.ok.glob];exact I.mod.glob.keeps I.bk) hm h) hd
theorem eD {E:Value->Shared->Prop}{pins:List (Addr×Obj)}{s:Shared}{σ:St}{H:Hp}{x:Str}{u:Value}{pos:Pos}{Q:Value->Shared->Prop} (I:Inv X pins σ H s) (hg:Gl X x) (hm:X.mg x=none) (hv:bootBuiltins x=some u) (h:Q u s)
  (hn:x ≠ "__name__" :=by decide) (hd:(x == ("__debug__" : Str))=false:=by decide):wpAny (model X.prog X.w) X.A (eval (.Name x pos) X.env) Q E s:=by
 obtain ⟨mb,h1,h2⟩:=I.mod.blt;exact Calls.Name_function_global I.ok.kind hg (Calls.loadGlobal_builtin (by rw [I.ok.glob];exact I.mod.glob.keeps I.bk) hm (by rw [I.ok.blt];exact h1.keeps I.bk) ((h2 x hn).trans hv) h) hd
theorem iN {x:Str}{v:V}{u:Value}{pos:Pos} (hg:Gl X x) (hm:X.mg x=some u) (r:RelV v u) (hd:(x == ("__debug__" : Str))=false:=by decide):PE X (.Name x pos) (tC v):=
 λ_ _ _ H _ I h=>md I hg hm ⟨v,H,I,r,h⟩ hd
theorem xb {x:Str}{v:V}{u:Value}{pos:Pos} (hg:Gl X x) (hm:X.mg x=none) (hv:bootBuiltins x=some u) (r:RelV v u) (hn:x ≠ "__name__" :=by decide) (hd:(x == ("__debug__" : Str))=false:=by decide):PE X (.Name x pos) (tC v):=
 λ_ _ _ H _ I h=>eD I hg hm hv ⟨v,H,I,r,h⟩ hn hd
variable {a b:Expr}{ta tb:TE}{pos:Pos}
def tB (t:TE):TT:=λσ H Q=>t σ H λx H1=>∃ c,x = .bl c/\Q c H1
theorem bi {e:Expr}{t:TE} (h:PE X e t) (he:∀ whole,isTrue e X.env whole=(do let v <-whole;standAt e.pos;holding [v] (truthy v)):=by intro _;rfl):PT X e (tB t):=by
 intro pins s σ H Q I hw;refine isTrue_plain (thn (h pins s σ H _ I hw) λv s1 ⟨x,H1,I1,r1,q1⟩=>?_) (he _);obtain ⟨d,rfl,q⟩:=q1;cases r1;exact wpAny_truthy_bool ⟨H1,I1,q⟩
variable {tA tB':TT}{rest:List Expr}
def Na (t u:TT):TT:=λσ H Q=>t σ H λc H1=>if c=true then u σ H1 Q else Q false H1
def tOr (t u:TT):TT:=λσ H Q=>t σ H λc H1=>if c=true then Q true H1 else u σ H1 Q
def IR (t:TT):TT:=λσ H Q=>t σ H λc H1=>Q (!c) H1
theorem pw_and1 (ha:PT X a tA):PW X (.BoolOp .And [a] pos) tA:=by
 intro wh pins s σ H Q I h;refine isTrue_and (thn (ha pins s σ H Q I h) λc s1 e=>?_);cases c with
 | true=>exact isTrue_and_nil e
 | false=>exact e
theorem pw_or1 (ha:PT X a tA):PW X (.BoolOp .Or [a] pos) tA:=by
 intro wh pins s σ H Q I h;refine isTrue_or (thn (ha pins s σ H Q I h) λc s1 e=>?_);cases c with
 | false=>exact isTrue_or_nil e
 | true=>exact e
theorem pw_and (ha:PT X a tA) (hb:PW X (.BoolOp .And (b::rest) pos) tB'):PW X (.BoolOp .And (a::b::rest) pos) (Na tA tB'):=by
 intro wh pins s σ H Q I h;refine isTrue_and (thn (ha pins s σ H _ I h) λc s1 ⟨H1,I1,q1⟩=>?_);cases c with
 | true=>exact hb wh pins s1 σ H1 Q I1 q1
 | false=>exact ⟨H1,I1,q1⟩
theorem pw_or (ha:PT X a tA) (hb:PW X (.BoolOp .Or (b::rest) pos) tB'):PW X (.BoolOp .Or (a::b::rest) pos) (tOr tA tB'):=by
 intro wh pins s σ H Q I h;refine isTrue_or (thn (ha pins s σ H _ I h) λc s1 ⟨H1,I1,q1⟩=>?_);cases c with
 | true=>exact ⟨H1,I1,q1⟩
 | false=>exact hb wh pins s1 σ H1 Q I1 q1
theorem fN (ha:PT X a tA):PT X (.UnaryOp .Not a pos) (IR tA):=by
 intro pins s σ H Q I h;exact isTrue_not (ha pins s σ H (λc H1=>Q (!c) H1) I h)
def KA (ta tb:TE):TE:=λσ H Q=>ta σ H λx H1=>∃ c,x = .bl c/\if c=true then tb σ H1 Q else Q (.bl false) H1
def MQ (ta tb:TE):TE:=λσ H Q=>ta σ H λx H1=>∃ c,x = .bl c/\if c=true then Q (.bl true) H1 else tb σ H1 Q
theorem nE {op}{t:TE} (h:PE X a t):PE X (.BoolOp op [a] pos) t:=λpins s σ H Q I hw=>BoolOp_one (h pins s σ H Q I hw)
theorem qr (ha:PE X a ta) (hb:PE X (.BoolOp .And (b::rest) pos) tb):PE X (.BoolOp .And (a::b::rest) pos) (KA ta tb):=by
 intro pins s σ H Q I h;refine BoolOp_and (thn (ha pins s σ H _ I h) λv s1 ⟨x,H1,I1,r1,q1⟩=>?_);obtain ⟨c,rfl,q1⟩:=q1;cases r1;refine wpAny_truthy_bool ?_;cases c with
 | true=>exact hb pins s1 σ H1 Q I1 q1
 | false=>exact ⟨.bl false,H1,I1,rfl,q1⟩
theorem Lf (ha:PE X a ta) (hb:PE X (.BoolOp .Or (b::rest) pos) tb):PE X (.BoolOp .Or (a::b::rest) pos) (MQ ta tb):=by
 intro pins s σ H Q I h;refine BoolOp_or (thn (ha pins s σ H _ I h) λv s1 ⟨x,H1,I1,r1,q1⟩=>?_);obtain ⟨c,rfl,q1⟩:=q1;cases r1;refine wpAny_truthy_bool ?_;cases c with
 | false=>exact hb pins s1 σ H1 Q I1 q1
 | true=>exact ⟨.bl true,H1,I1,rfl,q1⟩
def tIf (t:TT) (ta tb:TE):TE:=λσ H Q=>t σ H λc H1=>if c=true then ta σ H1 Q else tb σ H1 Q
theorem jx {c:Expr} (hc:PT X c tA) (ha:PE X a ta) (hb:PE X b tb):PE X (.IfExp c a b pos) (tIf tA ta tb):=by
 intro pins s σ H Q I h;refine wpAny_IfExp (thn (hc pins s σ H _ I h) λd s1 ⟨H1,I1,q1⟩=>?_);cases d with
 | true=>exact ha pins s1 σ H1 Q I1 q1
 | false=>exact hb pins s1 σ H1 Q I1 q1
end
def SqL (K:PySem.W.Frag) (H:Hp) (a:Addr) (xs:List V):Prop:=
 Rd H a (.lst xs) \/
  ∃ (o:Obj) (its:Array Value) (n:Nat),K.lookup a=some o/\o.cls = .type "list" /\ o.dict=none/\o.data = .seq its n/\its.size<=sizeLine/\aV xs its.toList
def SqT (K:PySem.W.Frag) (H:Hp) (a:Addr) (xs:List V):Prop:=
 Rd H a (.tup xs) \/
  ∃ (o:Obj) (its:Array Value) (n:Nat),K.lookup a=some o/\o.cls = .type "tuple" /\ o.data = .seq its n/\its.size<=sizeLine/\aV xs its.toList
def L4:Value->Option V
 | .none=>some .non
 | .bool b=>some (.bl b)
 | .int i _=>some (.int i)
 | .str x _=>some (.str x)
 | .bytes b _=>some (.byt b)
 | .float b _=>some (.flt b)
 | .ref a=>some (.ref a)
 | .type n=>some (.ty n)
 | _=>none
theorem RelV.abs {x:V}{u:Value} (r:RelV x u):L4 u=some x:=by
 cases x with
 | non=>cases r;rfl
 | bl _=>cases r;rfl
 | int _=>obtain ⟨t,rfl⟩:=r;rfl
 | str _=>obtain ⟨t,rfl⟩:=r;rfl
 | byt _=>obtain ⟨t,rfl⟩:=r;rfl
 | flt _=>obtain ⟨t,rfl⟩:=r;rfl
 | ref _=>cases r;rfl
 | ty _=>cases r;rfl
theorem RelV.inj {x y:V}{u:Value} (r:RelV x u) (q:RelV y u):x=y:=Option.some.inj (r.abs.symm.trans q.abs)
theorem aV.inj:∀ {xs ys:List V}{us:List Value},aV xs us->aV ys us->xs=ys
 | _,_,_,.nil,.nil=>rfl
 | _,_,_,.cons r t,.cons r' t'=>by rw [r.inj r',aV.inj t t']
section
variable {X:Cx}{pins:List (Addr×Obj)}{σ:St}{H:Hp}{s:Shared}{a:Addr}{xs ys:List V}
theorem SqL.of {K:PySem.W.Frag} (h:H a=some (.lst xs)):SqL K H a xs:=.inl (.inl h)
theorem SqT.of {K:PySem.W.Frag} (h:H a=some (.tup xs)):SqT K H a xs:=.inl (.inl h)
theorem Inv.list (I:Inv X pins σ H s) (h:SqL X.K H a xs):∃ its:List Value,aV xs its/\PlainL s.heap a its.toArray/\xs.length<=sizeLine:=by
 rcases h with h | ⟨o,its,n,hk,hc,hd,hs,hz,r⟩
 ·obtain ⟨z,its,n,r,e⟩:=h.ok I.hok;exact ⟨its,r,⟨_,n,e,rfl,rfl,rfl⟩,z⟩
 ·refine ⟨its.toList,r,⟨o,n,I.kIn a o hk,hc,hd,by simpa using hs⟩,?_⟩;have e:=r.length;simp only [Array.length_toList] at e;lia
theorem Inv.tuple (I:Inv X pins σ H s) (h:SqT X.K H a xs):∃ its:List Value,aV xs its/\IsTup s.heap a its.toArray/\xs.length<=sizeLine:=by
 rcases h with h | ⟨o,its,n,hk,hc,hs,hz,r⟩
 ·obtain ⟨z,its,r,p⟩:=h.ok I.hok;exact ⟨its,r,p,z⟩
 ·refine ⟨its.toList,r,⟨o,I.kIn a o hk,hc,n,by simpa using hs⟩,?_⟩;have e:=r.length;simp only [Array.length_toList] at e;lia
theorem Inv.ot (I:Inv X pins σ H s) (h:SqL X.K H a xs) (h':SqL X.K H a ys):xs=ys:=by
 obtain ⟨its,r,⟨o,n,e,_,_,d⟩,_⟩:=I.list h;obtain ⟨m7,r',⟨o',n',e',_,_,d'⟩,_⟩:=I.list h';rw [e] at e';cases e';rw [d] at d';injection d' with d1 _;have:its=m7:=by simpa using congrArg Array.toList d1
 subst this;exact r.inj r'
theorem Inv.BR (I:Inv X pins σ H s) (h:SqT X.K H a xs) (h':SqT X.K H a ys):xs=ys:=by
 obtain ⟨its,r,⟨o,e,_,n,d⟩,_⟩:=I.tuple h;obtain ⟨m7,r',⟨o',e',_,n',d'⟩,_⟩:=I.tuple h';rw [e] at e';cases e';rw [d] at d';injection d' with d1 _;have:its=m7:=by simpa using congrArg Array.toList d1
 subst this;exact r.inj r'
end
abbrev Cx.ug (X:Cx) (E:Value->Shared->Prop):Cx:={ X with xe:=E }
abbrev Cx.nox (X:Cx):Cx:=X.ug λ_ _=>False
theorem Cx.Ok.ug {X:Cx} (ok:X.Ok) (E:Value->Shared->Prop):(X.ug E).Ok:=
 ⟨ok.mod,ok.kind,ok.glob,ok.blt,ok.above,ok.inj,ok.has,ok.cab,ok.hd,ok.frames,ok.stk,ok.exf,ok.bs,ok.bsz,ok.D6,ok.BO,ok.pX,ok.frf⟩
theorem Cx.Ok.lQ {X:Cx}{E:Value->Shared->Prop} (ok:(X.ug E).Ok):X.Ok:=
 ⟨ok.mod,ok.kind,ok.glob,ok.blt,ok.above,ok.inj,ok.has,ok.cab,ok.hd,ok.frames,ok.stk,ok.exf,ok.bs,ok.bsz,ok.D6,ok.BO,ok.pX,ok.frf⟩
section
variable {X:Cx}{pins:List (Addr×Obj)}{σ:St}{H:Hp}{s:Shared}{E:Value->Shared->Prop}
theorem Inv.ug (I:Inv X pins σ H s) (E:Value->Shared->Prop):Inv (X.ug E) pins σ H s:=⟨I.ok.ug E,I.os,I.bare,I.base,I.loc,I.cell,I.free,I.kP,I.pin,I.hok,I.len⟩
theorem Inv.lQ (I:Inv (X.ug E) pins σ H s):Inv X pins σ H s:=⟨I.ok.lQ,I.os,I.bare,I.base,I.loc,I.cell,I.free,I.kP,I.pin,I.hok,I.len⟩
theorem SP.lQ {D:Ends}{f:Flow}{s':Shared} (h:SP (X.ug E) pins D f s'):SP X pins D f s':=by
 cases f with
 | next=>obtain ⟨σ',H',I,q⟩:=h;exact ⟨σ',H',I.lQ,q⟩
 | brk=>obtain ⟨σ',H',I,q⟩:=h;exact ⟨σ',H',I.lQ,q⟩
 | cont=>obtain ⟨σ',H',I,q⟩:=h;exact ⟨σ',H',I.lQ,q⟩
 | ret u=>obtain ⟨v,σ',H',I,r,q⟩:=h;exact ⟨v,σ',H',I.lQ,r,q⟩
theorem PSs.nox {st:List Stmt}{t:TS} (h:PSs X.nox st t):PSs X st t:=λpins s σ H D I hw=>
 wpAny_mono (h pins s σ H D (I.ug _) hw) (λ_ _ q=>q.lQ) λ_ _ z=>False.elim z
end
section
variable {X:Cx}{st:Stmt}{rest:List Stmt}{t u:TS}{e:Expr}{te:TE}{pos:Pos}
def HS:TS:=λD σ H=>D.nx σ H
def CO (t u:TS):TS:=λD σ H=>t { D with nx:=u D } σ H
theorem aG:PSs X [] HS:=λ_ _ σ H _ I h=>wpAny_execs_nil ⟨σ,H,I,h⟩
theorem ah (h1:PS X st t) (h2:PSs X rest u):PSs X (st::rest) (CO t u):=by
 intro pins s σ H D I h;refine wpAny_execs_cons (thn (h1 pins s σ H { D with nx:=u D } I h) λf s1 q=>?_);cases f with
 | next=>
  obtain ⟨σ',H',I',q⟩:=q;exact h2 pins s1 σ' H' D I' q
 | ret v=>exact q
 | brk=>exact q
 | cont=>exact q
theorem aj (h1:PS X st t):PSs X [st] t:=by
 intro pins s σ H D I h;refine wpAny_execs_cons (thn (h1 pins s σ H D I h) λf s1 q=>?_);cases f with
 | next=>exact wpAny_execs_nil q
 | ret v=>exact q
 | brk=>exact q
 | cont=>exact q
theorem Inv.quiet {pins:List (Addr×Obj)}{σ:St}{H:Hp}{s:Shared} (I:Inv X pins σ H s):interactive X.env=false:=by simp [interactive,I.ok.kind]
def LO (te:TE):TS:=λD σ H=>te σ H λ_ H1=>D.nx σ H1
theorem iX (he:PE X e te) (hs:swapsWith e none pos.line X.env=pure false:=by rfl):PS X (.Expr e pos) (LO te):=by
 intro pins s σ H D I h;exact wpAny_Expr_any (thn (he pins s σ H _ I h) λv s1 ⟨x,H1,I1,r1,q1⟩=>⟨σ,H1,I1,q1⟩) I.quiet hs
def KG (te:TE):TS:=λD σ H=>te σ H D.rt
theorem ar (he:PE X e te):PS X (.Return (some e) pos) (KG te):=by
 intro pins s σ H D I h;exact wpAny_Return_some (thn (he pins s σ H _ I h) λv s1 ⟨x,H1,I1,r1,q1⟩=>⟨x,σ,H1,I1,r1,q1⟩)
def II (c:TT) (t u:TS):TS:=λD σ H=>c σ H λb H1=>if b=true then t D σ H1 else u D σ H1
theorem bj {c:Expr}{a b:List Stmt}{tc:TT} (hc:PT X c tc) (ha:PSs X a t) (hb:PSs X b u):PS X (.If c a b pos) (II tc t u):=by
 intro pins s σ H D I h;refine wpAny_If (thn (hc pins s σ H _ I h) λd s1 ⟨H1,I1,q1⟩=>?_);cases d with
 | true=>exact ha pins s1 σ H1 D I1 q1
 | false=>exact hb pins s1 σ H1 D I1 q1
def CL:TS:=λ_ _ _=>False
theorem jt:PS X st CL:=λ_ _ _ _ _ _ h=>h.elim
end
abbrev TG:=V->St->Hp->(St->Hp->Prop)->Prop
abbrev TGs:=List V->St->Hp->(St->Hp->Prop)->Prop
def PG (X:Cx) (target:Expr) (t:TG):Prop:=
 ∀ (pins:List (Addr×Obj)) (s:Shared) (σ:St) (H:Hp) (v:V) (u:Value) (Q:St->Hp->Prop),Inv X pins σ H s->RelV v u->t v σ H Q ->
  wpAny (model X.prog X.w) X.A (assign target X.env u) (λ_ s'=>∃ σ' H',Inv X pins σ' H' s'/\Q σ' H') X.xe s
def PGs (X:Cx) (ts:List Expr) (t:TGs):Prop:=
 ∀ (pins:List (Addr×Obj)) (s:Shared) (σ:St) (H:Hp) (vs:List V) (us:List Value) (Q:St->Hp->Prop),Inv X pins σ H s->aV vs us->t vs σ H Q ->
  wpAny (model X.prog X.w) X.A (assignInOrder ((assignEach ts X.env).map (·.2)) us) (λ_ s'=>∃ σ' H',Inv X pins σ' H' s'/\Q σ' H') X.xe s
abbrev IA:=V->V->V->Hp->(Hp->Prop)->Prop
def Ky (X:Cx) (t:IA):Prop:=
 ∀ (pins:List (Addr×Obj)) (s:Shared) (σ:St) (H:Hp) (o i v:V) (ov iv u:Value) (Q:Hp->Prop),Inv X pins σ H s->RelV o ov->RelV i iv->RelV v u->t o i v H Q ->
  wpAny (model X.prog X.w) X.A (setItem ov iv u) (λ_ s'=>∃ H',Inv X pins σ H' s'/\Q H') X.xe s
section
variable {X:Cx}{pos:Pos}
def aY (i:Nat):TG:=λv σ H Q=>Q (σ.set i (some v)) H
theorem aw {i:Nat}{x:Str} (hN:X.N.Nodup) (hi:X.N[i]? = some x) (hx:Loc X.env.scope x) (hf:X.fn x=true\/X.env.scope.names.lookup x=some .local:=by first | exact .inl rfl | exact .inr rfl | assumption):PG X (.Name x pos) (aY i):=by
 intro pins s σ H v u Q I r h;exact wpAny_assign_Name (xw I hN hi hx r (λs' I'=>⟨_,H,I',h⟩) hf)
def GJ:TGs:=λvs σ H Q=>vs=[]/\Q σ H
def rW (t:TG) (u:TGs):TGs:=λvs σ H Q=>∃ v r,vs=v::r/\t v σ H λσ' H'=>u r σ' H' Q
theorem jQ:PGs X [] GJ:=by
 intro pins s σ H vs us Q I r h;obtain ⟨e,h⟩:=h;subst e;cases r;exact assignInOrder_nil ⟨σ,H,I,h⟩
theorem cn {e:Expr}{es:List Expr}{t:TG}{u:TGs} (h1:PG X e t) (h2:PGs X es u)
  (hs:(assignEach (e::es) X.env).map (·.2)=assign e X.env::(assignEach es X.env).map (·.2):=by rfl):PGs X (e::es) (rW t u):=by
 intro pins s σ H vs us Q I r h;obtain ⟨v,vr,e1,h⟩:=h;subst e1;cases r with
 | cons r rr=>
  rw [hs];refine assignInOrder_cons (thn (h1 pins s σ H _ _ _ I r h) λ_ s1 ⟨σ1,H1,I1,q1⟩=>?_);exact h2 pins s1 σ1 H1 _ _ Q I1 rr q1
def Hv (K:PySem.W.Frag) (n:Nat) (t:TGs):TG:=λv σ H Q=>∃ a xs,v = .ref a/\SqT K H a xs/\xs.length=n/\t xs σ H Q
theorem nk {es:List Expr}{k:Nat}{t:TGs}{n:Nat} (hc:X.calm=true) (h:PGs X es t)
  (hn:(assignEach es X.env).length=n:=by rfl) (hst:(assignEach es X.env).findIdx? (·.1)=none:=by rfl):PG X (.Tuple es k pos) (Hv X.K n t):=by
 intro pins s σ H v u Q I r hw;obtain ⟨a,xs,e1,hq,hl,hw⟩:=hw;subst e1;cases r;obtain ⟨its,rv,ht,hz⟩:=I.tuple hq;refine assign_Tuple_tuple (I.ok.hd hc) ht (by simp [hn,<-hl,rv.length]) hst λh' hx=>?_;have I1:Inv X pins σ H { s with heap:=h' }:=I.kept (t':=s.toks) λb o e=>hx b o (Nat.ne_of_lt (Heap.lt_size e)) e;exact h pins _ σ H xs _ Q I1 (by simpa using rv) hw
def MI (to ti:TE) (t:IA):TG:=λv σ H Q=>to σ H λo H1=>ti σ H1 λi H2=>t o i v H2 λH3=>Q σ H3
theorem z6 {o i:Expr}{to ti:TE}{t:IA} (ho:PE X o to) (hi:PE X i ti) (hs:Ky X t)
  (ha:∀ v,assign (.Subscript o i pos) X.env v=(do
   let ov <-holding [v] (eval o X.env)
   let iv <-holding [v,ov] (eval i X.env)
   standAt pos
   holding [v,ov,iv] (setItem ov iv v)
   release [v,ov,iv] []):=by intro _;rfl):PG X (.Subscript o i pos) (MI to ti t):=by
 intro pins s σ H v u Q I r h;rw [ha];refine wpAny_bind (wpAny_holding (thn (ho pins s σ H _ I h) λov s1 ⟨x,H1,I1,r1,q1⟩=>?_));refine wpAny_bind (wpAny_holding (thn (hi pins s1 σ H1 _ I1 q1) λiv s2 ⟨y,H2,I2,r2,q2⟩=>?_));refine wpAny_bind (wpAny_standAt (wpAny_bind (wpAny_holding (thn (hs pins s2 σ H2 x y v ov iv u _ I2 r1 r2 r q2) λ_ s3 ⟨H3,I3,q3⟩=>?_))));exact wpAny_release ⟨σ,H3,I3,q3⟩
def DB (te:TE) (g:TG):TS:=λD σ H=>te σ H λx H1=>g x σ H1 D.nx
theorem tG {tg e:Expr}{te:TE}{g:TG} (he:PE X e te) (hg:PG X tg g) (hs:swapsWithSole [tg] e pos.line X.env=pure false:=by rfl) (hw:swappedStores [tg] e X.env=pure none:=by rfl)
  (h1:(assignEach [tg] X.env).map (·.2)=[assign tg X.env]:=by rfl):PS X (.Assign [tg] e pos) (DB te g):=by
 intro pins s σ H D I h;refine wpAny_Assign_stores (thn (he pins s σ H _ I h) λv s1 ⟨x,H1,I1,r1,q1⟩=>?_) hs hw;rw [h1];exact thn (hg pins s1 σ H1 x v _ I1 r1 q1) λ_ s2 q=>q
theorem a9 {i:Nat}{x:Str}{e:Expr}{te:TE}{pos':Pos} (hN:X.N.Nodup) (hi:X.N[i]? = some x) (hx:Loc X.env.scope x) (he:PE X e te) (hs:swapsWith e (some (.Name x pos')) pos.line X.env=pure false:=by rfl) (hf:X.fn x=true\/X.env.scope.names.lookup x=some .local:=by first | exact .inl rfl | exact .inr rfl | assumption) :
  PS X (.Assign [.Name x pos'] e pos) (DB te (aY i)):=by
 intro pins s σ H D I h;refine wpAny_Assign_Name (thn (he pins s σ H _ I h) λv s1 ⟨y,H1,I1,r1,q1⟩=>?_) hs;exact xw I1 hN hi hx r1 (λs2 I2=>⟨_,H1,I2,q1⟩) hf
end
section
variable {X:Cx}{pos:Pos}
def Jj (c:TT) (tb:TS):TS:=λD σ H=>∃ W:Nat->St->Hp->Prop,(∃ m,W m σ H)/\∀ m σ H,W m σ H ->
 c σ H λb H1=>if b=true then ∃ N:St->Hp->Prop,(∀ σ' H',N σ' H'->∃ m',m' < m/\W m' σ' H')/\tb { D with nx:=N,ct:=N,bk:=D.nx } σ H1 else D.nx σ H1
theorem xT {c:Expr}{body:List Stmt}{tc:TT}{tb:TS} (hp:PassesOwn (model X.prog X.w) X.A X.env X.xe) (hc:PT X c tc) (hb:PSs X body tb):PS X (.While c body [] pos) (Jj tc tb):=by
 intro pins s σ H D I h;obtain ⟨W,⟨m0,w0⟩,turn⟩:=h;refine wpAny_While (codeAny_whileLoop (λn s'=>∃ σ' H',Inv X pins σ' H' s'/\W n σ' H') ?_ m0 ⟨σ,H,I,w0⟩);rintro n s1 ⟨σ1,H1,I1,w1⟩;refine wpAny_passesOwn hp (thn (hc pins s1 σ1 H1 _ I1 (turn n σ1 H1 w1)) λb s2 ⟨H2,I2,q2⟩=>?_);cases b with
 | true=>
  obtain ⟨N,hN,q2⟩:=q2;rw [if_pos rfl];refine wpAny_passesOwn hp (thn (hb pins s2 σ1 H2 _ I2 q2) λf s3 q3=>?_);cases f with
  | next=>
   obtain ⟨σ3,H3,I3,n3⟩:=q3;obtain ⟨m',hm,w3⟩:=hN σ3 H3 n3;exact ⟨m',hm,σ3,H3,I3,w3⟩
  | cont=>
   obtain ⟨σ3,H3,I3,n3⟩:=q3;obtain ⟨m',hm,w3⟩:=hN σ3 H3 n3;exact ⟨m',hm,σ3,H3,I3,w3⟩
  | brk=>exact q3
  | ret v=>exact q3
 | false=>
  rw [if_neg N6];exact wpAny_execs_nil ⟨σ1,H2,I2,q2⟩
end
structure It where
 go:Nat->Hp->Prop
 yld:Nat->Hp->V->Hp->Prop
 stop:Nat->Hp->Prop
def b9 (X:Cx) (pins:List (Addr×Obj)) (H:Hp) (b:Addr):Prop:=
 H b=none/\b≠X.env.locals/\b∉X.fs/\(b∈X.ex\/X.s₀.heap.objs.size<=b)/\(∀ x c,X.env.cells.lookup x=some c->c≠b)/\∀ p∈X.pn++pins,p.1≠b
theorem Inv.qZ {X:Cx}{pins:List (Addr×Obj)}{σ:St}{H H':Hp}{s:Shared}{b:Addr} (I:Inv X pins σ H s) (hb:s.heap.objs.size<=b) (hn:H' b=none):b9 X pins H' b:=by
 refine ⟨hn,Nat.ne_of_gt (Nat.lt_of_lt_of_le I.lt hb),I.Ko hb,.inr (N2 I.sz hb),λx c e z=>?_,λp hp z=>?_⟩
 ·obtain ⟨v,q⟩:=I.cell x c e;exact absurd (Nat.lt_of_lt_of_le q.lt (by rw [z];exact hb)) (Nat.lt_irrefl _)
 ·exact absurd (Nat.lt_of_lt_of_le (Heap.lt_size (I.pin p hp).1) (by rw [z];exact hb)) (Nat.lt_irrefl _)
structure Turn (P:Program) (w:World) (K:PySem.W.Frag) (tg:Expr) (J:It) (fp:List Addr) (it:Addr) (tn:Nat->Heap->Prop):Prop where
 mem:it∈fp
 obj:∀ i h,tn i h->∀ b∈fp,∃ o,h.get? b=some o/\∀ v,o.data ≠ .cell v
 keep:∀ i h h',tn i h->(∀ b∈fp,∀ o,h.get? b=some o->h'.get? b=some o)->tn i h'
 item:∀ (X:Cx),X.prog=P->X.w=w->X.K=K->X.calm=true->∀ (i:Nat) (pins:List (Addr×Obj)) (s:Shared) (σ:St) (H:Hp) (E:Value->Shared->Prop),Inv X pins σ H s->(∀ b∈fp,b9 X pins H b)->tn i s.heap->J.go i H ->
  wpAny (model P w) X.A (pyNext (.ref it)) (λr s1=>∃ u,r=some u /\
   wpAny (model P w) X.A (letOwnedTupleGo tg (.ref it) u) (λ_ s2=>∃ x H',Inv X pins σ H' s2/\RelV x u/\J.yld i H x H'/\tn (i+1) s2.heap/\∀ b∈fp,H' b=none) E s1) E s
 done:∀ (X:Cx),X.prog=P->X.w=w->X.K=K->X.calm=true->∀ (i:Nat) (pins:List (Addr×Obj)) (s:Shared) (σ:St) (H:Hp) (E:Value->Shared->Prop),Inv X pins σ H s->(∀ b∈fp,b9 X pins H b)->tn i s.heap->J.stop i H ->
  wpAny (model P w) X.A (pyNext (.ref it)) (λr s1=>r=none/\Inv X pins σ H s1) E s
 self:∀ (A:Around) (i:Nat) (s:Shared) (Q:Value->Shared->Prop) (E:Value->Shared->Prop),tn i s.heap->Q (.ref it) s->wpAny (model P w) A (pyIter (.ref it)) Q E s
abbrev TI:=St->Hp->(It->Hp->Prop)->Prop
def PIE (X:Cx) (pins:List (Addr×Obj)) (σ:St) (tg:Expr) (R:It->Hp->Prop) (itv:Value) (s2:Shared):Prop:=
 ∃ (it:Addr) (fp:List Addr) (tn:Nat->Heap->Prop) (J:It) (H':Hp),itv = .ref it/\Inv X pins σ H' s2/\Turn X.prog X.w X.K tg J fp it tn/\tn 0 s2.heap/\(∀ b∈fp,b9 X pins H' b)/\R J H'
def PI (X:Cx) (tg iter:Expr) (wi:TI):Prop:=
 ∀ (pins:List (Addr×Obj)) (s:Shared) (σ:St) (H:Hp) (R:It->Hp->Prop),Inv X pins σ H s->wi σ H R ->
  wpAny (model X.prog X.w) X.A (eval iter X.env) (λv s1=>wpAny (model X.prog X.w) X.A (pyIter v) (PIE X pins σ tg R) X.xe s1) X.xe s
theorem xO {M:Model}{A:Around}{E:Value->Shared->Prop}{s:Shared}{tg:Expr}{it:Addr}{u:Value}{o:Obj}{n:String}{vs:Array Value}{Q:Unit->Shared->Prop} (ho:s.heap.get? it=some o) (hc:o.cls = .type n) (hd:o.data = .fields vs)
  (hn:["enumerate","zip","dict_itemiterator","dict_reverseitemiterator","odict_iterator","itertools.zip_longest","itertools.pairwise"].contains n=false) (hQ:Q () s):wpAny M A (letOwnedTupleGo tg (.ref it) u) Q E s:=by
 unfold letOwnedTupleGo;cases tg <;> first
  | exact wpAny_pure hQ
  | (cases u <;> first
    | exact wpAny_pure hQ
    | (refine wpAny_bind (wpAny_load ho ?_)
       rw [hc,hd];show wpAny M A (if (["enumerate","zip","dict_itemiterator","dict_reverseitemiterator","odict_iterator","itertools.zip_longest","itertools.pairwise"].contains n && vs[0]? == some (rawInt _))=true then _ else _) Q E s;rw [if_neg (by intro h;rw [hn,Bool.false_and] at h;cases h)];exact wpAny_pure hQ))
def Itl (K:PySem.W.Frag) (a:Addr):It:=
 ⟨λi H=>∃ xs x,SqL K H a xs/\xs[i]? = some x,λi H x H'=>H' = H/\∀ xs,SqL K H a xs->xs[i]? = some x,λi H=>∃ xs,SqL K H a xs/\xs.length<=i⟩
def Itt (K:PySem.W.Frag) (a:Addr):It:=
 ⟨λi H=>∃ xs x,SqT K H a xs/\xs[i]? = some x,λi H x H'=>H' = H/\∀ xs,SqT K H a xs->xs[i]? = some x,λi H=>∃ xs,SqT K H a xs/\xs.length<=i⟩
def Itr (lo:Int) (n:Nat):It:=⟨λi _=>i<n,λi H x H'=>H' = H/\x = .int (lo+i),λi _=>n<=i⟩
theorem BC {P:Program}{w:World}{K:PySem.W.Frag}{tg:Expr} (a it:Addr):Turn P w K tg (Itl K a) [it] it (λi h=>h.IsListIter it a i) where
 mem:=by simp
 obj:=λi h st b hb=>by
  have e:b=it:=by simpa using hb
  subst e;obtain ⟨o,e,c,d⟩:=st;exact ⟨o,e,λv z=>by rw [d] at z;cases z⟩
 keep:=λi h h' st k=>st.at λo e=>k it (by simp) o e
 item:=by
  intro X hP hw hK hc i pins s σ H E I hf st hg;subst hP hw hK;obtain ⟨xs,x,hq,hx⟩:=hg;obtain ⟨its,rv,p,hz⟩:=I.list hq;obtain ⟨u,hu,ru⟩:=rv.get hx;obtain ⟨f0,f1,f2,f3,f4,f5⟩:=hf it (by simp);refine wpAny_pyNext_list_item st p.isList (x:=u) (by simpa using hu) λh' st' sb=>?_;have I1:Inv X pins σ H { s with heap:=h' }:=I.turned (t':=s.toks) (λb o hb e=>(sb.2 b hb).trans e) f0 f1 f3 f4 f5;obtain ⟨o,e,c,d⟩:=id st';exact ⟨u,rfl,xO (s:={ s with heap:=h' }) e c d (by decide) ⟨x,H,I1,ru,⟨rfl,λys hy=>by rw [I.ot hy hq];exact hx⟩,st',λb hb=>(hf b hb).1⟩⟩
 done:=by
  intro X hP hw hK hc i pins s σ H E I hf st hg;subst hP hw hK;obtain ⟨xs,hq,hx⟩:=hg;obtain ⟨its,rv,p,hz⟩:=I.list hq;obtain ⟨f0,f1,f2,f3,f4,f5⟩:=hf it (by simp);have hl:=rv.length;exact wpAny_pyNext_list_end (I.ok.hd hc) st p.isList (by simp;lia) λh' eb=>⟨rfl,I.turned (t':=s.toks) (λb o hb e=>eb b o hb e) f0 f1 f3 f4 f5⟩
 self:=λ_ _ _ _ _ st h=>wpAny_pyIter_listiter st h
theorem zc {P:Program}{w:World}{K:PySem.W.Frag}{tg:Expr} (a it:Addr):Turn P w K tg (Itt K a) [it] it (λi h=>h.IsTupleIter it a i) where
 mem:=by simp
 obj:=λi h st b hb=>by
  have e:b=it:=by simpa using hb
  subst e;obtain ⟨o,e,c,d⟩:=st;exact ⟨o,e,λv z=>by rw [d] at z;cases z⟩
 keep:=λi h h' st k=>st.at λo e=>k it (by simp) o e
 item:=by
  intro X hP hw hK hc i pins s σ H E I hf st hg;subst hP hw hK;obtain ⟨xs,x,hq,hx⟩:=hg;obtain ⟨its,rv,p,hz⟩:=I.tuple hq;obtain ⟨u,hu,ru⟩:=rv.get hx;obtain ⟨f0,f1,f2,f3,f4,f5⟩:=hf it (by simp);refine wpAny_pyNext_tuple_item st (show s.heap.IsTuple a its.toArray from p) (x:=u) (by simpa using hu) λh' st' sb=>?_;have I1:Inv X pins σ H { s with heap:=h' }:=I.turned (t':=s.toks) (λb o hb e=>(sb.2 b hb).trans e) f0 f1 f3 f4 f5;obtain ⟨o,e,c,d⟩:=id st';exact ⟨u,rfl,xO (s:={ s with heap:=h' }) e c d (by decide) ⟨x,H,I1,ru,⟨rfl,λys hy=>by rw [I.BR hy hq];exact hx⟩,st',λb hb=>(hf b hb).1⟩⟩
 done:=by
  intro X hP hw hK hc i pins s σ H E I hf st hg;subst hP hw hK;obtain ⟨xs,hq,hx⟩:=hg;obtain ⟨its,rv,p,hz⟩:=I.tuple hq;obtain ⟨f0,f1,f2,f3,f4,f5⟩:=hf it (by simp);have hl:=rv.length;exact wpAny_pyNext_tuple_end (I.ok.hd hc) st (show s.heap.IsTuple a its.toArray from p) (by simp;lia) λh' eb=>⟨rfl,I.turned (t':=s.toks) (λb o hb e=>eb b o hb e) f0 f1 f3 f4 f5⟩
 self:=λ_ _ _ _ _ st h=>wpAny_pyIter_tupleiter st h
theorem As {P:Program}{w:World}{K:PySem.W.Frag}{tg:Expr} (it:Addr) (lo:Int) (n:Nat):Turn P w K tg (Itr lo n) [it] it (λi h=>IsRangeIter h it (lo+(i:Nat) * 1) ((n:Int) - (i:Nat)) 1) where
 mem:=by simp
 obj:=λi h st b hb=>by
  have e:b=it:=by simpa using hb
  subst e;exact ⟨_,st,λv z=>by
   have z':Data.fields _=Data.cell v:=z;cases z'⟩
 keep:=λi h h' st k=>k it (by simp) _ st
 item:=by
  intro X hP hw hK hc i pins s σ H E I hf st hg;subst hP hw hK;obtain ⟨f0,f1,f2,f3,f4,f5⟩:=hf it (by simp);have W:=Walks.range (prog:=X.prog) (w:=X.w) (I.ok.hd hc) it lo 1 n;refine W.item i s _ _ hg st λv h' tk hv st' kk=>?_;obtain ⟨t,rfl⟩:=hv;have I1:Inv X pins σ H { s with heap:=h',toks:=tk }:=I.turned (λb o hb e=>kk b o (by simpa using hb) e) f0 f1 f3 f4 f5;refine ⟨_,rfl,xO (s:={ s with heap:=h',toks:=tk }) (n:= "range_iterator") st' rfl rfl (by decide) ⟨.int (lo+i),H,I1,⟨t,?_⟩,⟨rfl,rfl⟩,st',λb hb=>(hf b hb).1⟩⟩;rw [Int.mul_one]
 done:=by
  intro X hP hw hK hc i pins s σ H E I hf st hg;subst hP hw hK;obtain ⟨f0,f1,f2,f3,f4,f5⟩:=hf it (by simp);exact wpAny_pyNext_range_end (I.ok.hd hc) st (by have:n<=i:=hg;lia) λh' eb=>⟨rfl,I.turned (t':=s.toks) (λb o hb e=>eb b o hb e) f0 f1 f3 f4 f5⟩
 self:=λ_ _ _ _ _ st h=>wpAny_pyIter_rangeiter st h
section
variable {X:Cx}{tg:Expr}
def FG (K:PySem.W.Frag) (tl:TE):TI:=λσ H R=>tl σ H λx H1=>∃ a,x = .ref a/\(∃ xs,SqL K H1 a xs)/\R (Itl K a) H1
def MY (K:PySem.W.Frag) (tl:TE):TI:=λσ H R=>tl σ H λx H1=>∃ a,x = .ref a/\(∃ xs,SqT K H1 a xs)/\R (Itt K a) H1
theorem aP {l:Expr}{tl:TE} (hl:PE X l tl):PI X tg l (FG X.K tl):=by
 intro pins s σ H R I h;refine thn (hl pins s σ H _ I h) λv s1 ⟨x,H1,I1,r1,q1⟩=>?_;obtain ⟨a,e,⟨xs,hq⟩,q⟩:=q1;subst e;cases r1;obtain ⟨its,rv,p,hz⟩:=I1.list hq;refine wpAny_pyIter_list p.isList ?_;refine ⟨s1.heap.objs.size,[s1.heap.objs.size],_,_,H1,rfl,I1.kept (t':=s1.toks) λb o e=>Heap.get?_push_of_some _ e,BC a _,⟨_,Heap.get?_push_size _ rfl,rfl,rfl⟩,λb hb=>?_,q⟩;have e:b=s1.heap.objs.size:=by simpa using hb
 subst e;exact I1.qZ (NX _) (I1.hok.fresh (NX _))
theorem Jq {l:Expr}{tl:TE} (hl:PE X l tl):PI X tg l (MY X.K tl):=by
 intro pins s σ H R I h;refine thn (hl pins s σ H _ I h) λv s1 ⟨x,H1,I1,r1,q1⟩=>?_;obtain ⟨a,e,⟨xs,hq⟩,q⟩:=q1;subst e;cases r1;obtain ⟨its,rv,p,hz⟩:=I1.tuple hq;refine wpAny_pyIter_tuple (show s1.heap.IsTuple a its.toArray from p) ?_;refine ⟨s1.heap.objs.size,[s1.heap.objs.size],_,_,H1,rfl,I1.kept (t':=s1.toks) λb o e=>Heap.get?_push_of_some _ e,zc a _,⟨_,Heap.get?_push_size _ rfl,rfl,rfl⟩,λb hb=>?_,q⟩;have e:b=s1.heap.objs.size:=by simpa using hb
 subst e;exact I1.qZ (NX _) (I1.hok.fresh (NX _))
theorem DP {pins:List (Addr×Obj)}{σ:St}{H:Hp}{s:Shared}{R:It->Hp->Prop}{E:Value->Shared->Prop}{lo hi:Int}{t u v:Tok}{tk:Nat} (I:Inv X pins σ H s) (h1 : -(2 ^ 62)<=lo) (h2:lo<2 ^ 62) (h3 : -(2 ^ 62)<=hi) (h4:hi<2 ^ 62)
  (q:R (Itr lo (hi - lo).toNat) H):wpAny (model X.prog X.w) X.A (pyIter (.ref s.heap.objs.size)) (PIE X pins σ tg R) E { s with heap:=s.heap.push { cls:=.type "range",data:=.fields #[.int lo t,.int hi u,.int 1 v] },toks:=tk }:=by
 refine wpAny_pyIter_range (IsRange.new ..) (small_one h1 h2 h3 h4) ?_;have I1:Inv X pins σ H { s with heap:=s.heap.push { cls:=.type "range",data:=.fields #[.int lo t,.int hi u,.int 1 v] },toks:=tk }:=I.kept λb o e=>Heap.get?_push_of_some _ e;refine ⟨(s.heap.push { cls:=.type "range",data:=.fields #[.int lo t,.int hi u,.int 1 v] }).objs.size,[(s.heap.push { cls:=.type "range",data:=.fields #[.int lo t,.int hi u,.int 1 v] }).objs.size],_,_,H,rfl,
  I1.kept (t':=tk) λb o e=>Heap.get?_push_of_some _ e,As _ lo (hi - lo).toNat,?_,λb hb=>?_,q⟩
 ·have e1:lo+((0:Nat):Int) * 1=lo:=by simp
  have e2:(((hi - lo).toNat:Nat):Int) - ((0:Nat):Int)=Builtin.Range.rangeSize lo hi 1:=by rw [rangeSize_one];split <;> lia
  show IsRangeIter _ _ (lo+((0:Nat):Int) * 1) ((((hi - lo).toNat:Nat):Int) - ((0:Nat):Int)) 1;rw [e1,e2];exact Heap.get?_push_size _ rfl
 ·have e:b=(s.heap.push { cls:=.type "range",data:=.fields #[.int lo t,.int hi u,.int 1 v] }).objs.size:=by simpa using hb
  subst e;exact I1.qZ (NX _) (I1.hok.fresh (NX _))
def J6 (ta:TA):TI:=λσ H R=>ta σ H λvs H1=>∃ j:Int,vs=[.int j] /\ -(2 ^ 62)<=j/\j<2 ^ 62/\R (Itr 0 j.toNat) H1
theorem eL {a:Expr}{ta:TA}{p pos:Pos} (hg:Gl X "range") (hm:X.mg "range" = none) (ha:PA X [a] ta) (hs:starEach [a] X.env=[(false,eval a X.env)]:=by rfl):PI X tg (.Call (.Name "range" p) [a] [] pos) (J6 ta):=by
 intro pins s σ H R I h;refine Call_ (eD I hg hm boot_range (PyProof.Rows.callWith_type1 (thn (ha pos pins s σ H _ I h) λus s1 ⟨vs,H1,I1,r1,q1⟩=>?_) hs rfl));obtain ⟨j,e,q1,q2,q⟩:=q1;subst e;cases r1 with
 | cons r rr=>
  cases rr;obtain ⟨t,rfl⟩:=r;exact call_range_1 (DP I1 (by lia) (by lia) q1 q2 (by simpa using q))
def MN (wi:TI) (g:TG) (tb:TS):TS:=λD σ H=>wi σ H λJ H1=>∃ W:Nat->Nat->St->Hp->Prop,(∃ m,W 0 m σ H1)/\∀ i m σ H,W i m σ H ->
 (J.stop i H/\D.nx σ H)\/(J.go i H/\∃ N:St->Hp->Prop,(∀ σ' H',N σ' H'->∃ m',m' < m/\W (i+1) m' σ' H')/\∀ x H',J.yld i H x H'->g x σ H' λσ2 H2=>tb { D with nx:=N,ct:=N,bk:=D.nx } σ2 H2)
def nN (fp:List Addr) (h:Heap):List (Addr×Obj):=fp.filterMap λb=>(h.get? b).map λo=>(b,o)
theorem dc {fp:List Addr}{h:Heap}{b:Addr}{o:Obj} (hb:b∈fp) (e:h.get? b=some o):(b,o)∈nN fp h:=List.mem_filterMap.mpr ⟨b,hb,by rw [e];rfl⟩
theorem BM {fp:List Addr}{h:Heap}{p:Addr×Obj} (hp:p∈nN fp h):p.1∈fp/\h.get? p.1=some p.2:=by
 obtain ⟨b,hb,e⟩:=List.mem_filterMap.mp hp;cases q:h.get? b with
 | none=>rw [q] at e;cases e
 | some o=>
  rw [q] at e;have e':(b,o)=p:=Option.some.inj e;subst e';exact ⟨hb,q⟩
theorem Inv.pinned {pins:List (Addr×Obj)}{σ:St}{H:Hp}{s:Shared}{fp:List Addr} (I:Inv X pins σ H s) (hf:∀ b∈fp,b9 X pins H b) (ho:∀ b∈fp,∃ o,s.heap.get? b=some o/\∀ v,o.data ≠ .cell v):Inv X (pins++nN fp s.heap) σ H s:=
 I.px λp hp=>(List.mem_append.mp hp).elim (λz=>I.pin p (Od _ z)) λz=>by
  obtain ⟨hb,e⟩:=BM z;obtain ⟨f0,f1,f2,_⟩:=hf p.1 hb;obtain ⟨o,e',d⟩:=ho p.1 hb;rw [e] at e';cases e';exact ⟨e,f0,f1,f2,d⟩
theorem Inv.eX {pins pl:List (Addr×Obj)}{σ:St}{H:Hp}{s:Shared} (I:Inv X (pins++pl) σ H s):Inv X pins σ H s:=I.px λp hp=>I.pin p (Od _ (List.mem_append_left _ hp))
theorem fP {iter:Expr}{body:List Stmt}{wi:TI}{g:TG}{tb:TS}{pos:Pos} (hp:PassesOwn (model X.prog X.w) X.A X.env X.xe) (hc:X.calm=true) (hi:PI X tg iter wi) (hg:PG X tg g) (hb:PSs X body tb)
  (hs:∀ x,foldedSetIterable iter X.env x=pure x:=by intro _;rfl):PS X (.For tg iter body [] pos) (MN wi g tb):=by
 intro pins s σ H D I h;refine wpAny_For (thn (hi pins s σ H _ I h) λv s1 h1=>thn h1 λitv s2 h2=>?_) hs;obtain ⟨it,fp,tn,J,H2,e,I2,T,st2,f2,W,⟨m0,w0⟩,turn⟩:=h2;subst e;have mU:∀ {H':Hp},(∀ b∈fp,H' b=none)->∀ b∈fp,b9 X pins H' b:=λhn b hb=>⟨hn b hb,(f2 b hb).2⟩;refine codeAny_forLoop_any (λn s'=>∃ i σ' H',Inv X pins σ' H' s'/\tn i s'.heap/\(∀ b∈fp,H' b=none)/\W i n σ' H') ?_ m0 ⟨0,σ,H2,I2,st2,λb hb=>(f2 b hb).1,w0⟩;rintro n s3 ⟨i,σ3,H3,I3,st3,fr3,w3⟩;rcases turn i n σ3 H3 w3 with ⟨stop,qn⟩ | ⟨go,N,hN,step⟩
 ·refine wpAny_passesOwn hp (thn (T.done X rfl rfl rfl hc i pins s3 σ3 H3 X.xe I3 (mU fr3) st3 stop) λr s4 ⟨hr,I4⟩=>?_);subst hr;exact wpAny_execs_nil ⟨σ3,H3,I4,qn⟩
 ·refine wpAny_passesOwn hp (thn (T.item X rfl rfl rfl hc i pins s3 σ3 H3 X.xe I3 (mU fr3) st3 go) λr s4 ⟨u,hr,h4⟩=>?_);subst hr;refine wpAny_passesOwn hp (thn h4 λ_ s5 ⟨x,H5,I5,r5,y5,st5,fr5⟩=>?_);have I5':=I5.pinned (mU fr5) (T.obj _ _ st5);refine wpAny_passesOwn hp (thn (hg _ s5 σ3 H5 x u _ I5' r5 (step x H5 y5)) λ_ s6 ⟨σ6,H6,I6,q6⟩=>?_);refine wpAny_passesOwn hp (thn (hb _ s6 σ6 H6 _ I6 q6) λf s7 q7=>?_);have again:∀ {σ7:St}{H7:Hp},Inv X (pins++nN fp s5.heap) σ7 H7 s7->N σ7 H7->∃ m,m<n/\∃ i σ' H',Inv X pins σ' H' s7/\tn i s7.heap/\(∀ b∈fp,H' b=none)/\W i m σ' H':=λ{σ7 H7} I7 n7=>by
   obtain ⟨m',hm,w7⟩:=hN σ7 H7 n7;refine ⟨m',hm,i+1,σ7,H7,I7.eX,T.keep _ _ _ st5 λb hb o e=>(I7.pin (b,o) (Od _ (Od _ (dc hb e)))).1,λb hb=>?_,w7⟩;obtain ⟨o,e,d⟩:=T.obj _ _ st5 b hb;exact (I7.pin (b,o) (Od _ (Od _ (dc hb e)))).2.1
  cases f with
  | next=>obtain ⟨σ7,H7,I7,n7⟩:=q7;exact again I7 n7
  | cont=>obtain ⟨σ7,H7,I7,n7⟩:=q7;exact again I7 n7
  | brk=>obtain ⟨σ7,H7,I7,q7⟩:=q7;exact ⟨σ7,H7,I7.eX,q7⟩
  | ret v=>obtain ⟨x7,σ7,H7,I7,r7,q7⟩:=q7;exact ⟨x7,σ7,H7,I7.eX,r7,q7⟩
end
theorem jC {K:PySem.W.Frag}{a:Addr}{xs:List V}{g:TG}{tb:TS}{D:Ends}{σ:St}{H:Hp} (Pv:Nat->St->Hp->Prop) (h0:Pv 0 σ H) (hl:∀ i σ H,i<=xs.length->Pv i σ H->SqL K H a xs)
  (hs:∀ i x σ H,xs[i]? = some x->Pv i σ H->g x σ H λσ2 H2=>tb { D with nx:=Pv (i+1),ct:=Pv (i+1),bk:=D.nx } σ2 H2) (hd:∀ σ H,Pv xs.length σ H->D.nx σ H) :
  ∃ W:Nat->Nat->St->Hp->Prop,(∃ m,W 0 m σ H)/\∀ i m σ H,W i m σ H ->
   ((Itl K a).stop i H/\D.nx σ H)\/((Itl K a).go i H/\∃ N:St->Hp->Prop,(∀ σ' H',N σ' H'->∃ m',m' < m/\W (i+1) m' σ' H')/\∀ x H',(Itl K a).yld i H x H'->g x σ H' λσ2 H2=>tb { D with nx:=N,ct:=N,bk:=D.nx } σ2 H2):=by
 refine ⟨λi m σ H=>m=xs.length - i/\i<=xs.length/\Pv i σ H,⟨xs.length,by simp,Nat.zero_le _,h0⟩,?_⟩;rintro i m σ H ⟨rfl,hi,p⟩;have q:=hl i σ H hi p;by_cases hlt:i<xs.length
 ·refine .inr ⟨⟨xs,xs[i],q,by simp [hlt]⟩,Pv (i+1),λσ' H' p'=>⟨xs.length - (i+1),by lia,rfl,hlt,p'⟩,λx H' y=>?_⟩;obtain ⟨e,y⟩:=y;subst e;exact hs i x σ _ (y xs q) p
 ·have e:i=xs.length:=by lia
  subst e;exact .inl ⟨⟨xs,q,NX _⟩,hd σ H p⟩
theorem qB {lo:Int}{n:Nat}{g:TG}{tb:TS}{D:Ends}{σ:St}{H:Hp} (Pv:Nat->St->Hp->Prop) (h0:Pv 0 σ H)
  (hs:∀ i σ H,i<n->Pv i σ H->g (.int (lo+i)) σ H λσ2 H2=>tb { D with nx:=Pv (i+1),ct:=Pv (i+1),bk:=D.nx } σ2 H2) (hd:∀ σ H,Pv n σ H->D.nx σ H) :
  ∃ W:Nat->Nat->St->Hp->Prop,(∃ m,W 0 m σ H)/\∀ i m σ H,W i m σ H ->
   ((Itr lo n).stop i H/\D.nx σ H)\/((Itr lo n).go i H/\∃ N:St->Hp->Prop,(∀ σ' H',N σ' H'->∃ m',m' < m/\W (i+1) m' σ' H')/\∀ x H',(Itr lo n).yld i H x H'->g x σ H' λσ2 H2=>tb { D with nx:=N,ct:=N,bk:=D.nx } σ2 H2):=by
 refine ⟨λi m σ H=>m=n - i/\i<=n/\Pv i σ H,⟨n,by simp,Nat.zero_le _,h0⟩,?_⟩;rintro i m σ H ⟨rfl,hi,p⟩;by_cases hlt:i<n
 ·refine .inr ⟨hlt,Pv (i+1),λσ' H' p'=>⟨n - (i+1),by lia,rfl,hlt,p'⟩,λx H' y=>?_⟩;obtain ⟨e,y⟩:=y;subst e y;exact hs i σ _ hlt p
 ·have e:i=n:=by lia
  subst e;exact .inl ⟨NX _,hd σ H p⟩
abbrev R2:=V->V->Hp->VK->Prop
def OpR (X:Cx) (f:Value->Value->Sem Value) (r:R2):Prop:=
 ∀ (pins:List (Addr×Obj)) (s:Shared) (σ:St) (H:Hp) (x y:V) (v u:Value) (Q:VK),Inv X pins σ H s->RelV x v->RelV y u->r x y H Q ->
  wpAny (model X.prog X.w) X.A (f v u) (EP X pins σ Q) X.xe s
def UnR (X:Cx) (f:Value->Sem Value) (r:V->Hp->VK->Prop):Prop:=
 ∀ (pins:List (Addr×Obj)) (s:Shared) (σ:St) (H:Hp) (x:V) (v:Value) (Q:VK),Inv X pins σ H s->RelV x v->r x H Q ->
  wpAny (model X.prog X.w) X.A (f v) (EP X pins σ Q) X.xe s
def mO (X:Cx) (f:Value) (r:List V->Hp->VK->Prop):Prop:=
 ∀ (pins:List (Addr×Obj)) (s:Shared) (σ:St) (H:Hp) (xs:List V) (us:List Value) (Q:VK),Inv X pins σ H s->aV xs us->r xs H Q ->
  wpAny (model X.prog X.w) X.A (call f us) (EP X pins σ Q) X.xe s
def MG (X:Cx) (r:V->Hp->(Bool->Hp->Prop)->Prop):Prop:=
 ∀ (pins:List (Addr×Obj)) (s:Shared) (σ:St) (H:Hp) (x:V) (v:Value) (Q:Bool->Hp->Prop),Inv X pins σ H s->RelV x v->r x H Q ->
  wpAny (model X.prog X.w) X.A (truthy v) (TP X pins σ Q) X.xe s
def tOp (r:R2) (ta tb:TE):TE:=λσ H Q=>ta σ H λx H1=>tb σ H1 λy H2=>r x y H2 Q
def tUn (r:V->Hp->VK->Prop) (ta:TE):TE:=λσ H Q=>ta σ H λx H1=>r x H1 Q
def rI (C:Int->Int->Prop) (g:Int->Int->V):R2:=λx y H Q=>∃ i j,x = .int i/\y = .int j/\C i j/\Q (g i j) H
def rI0 (g:Int->Int->V):R2:=λx y H Q=>∃ i j,x = .int i/\y = .int j/\Q (g i j) H
def rU (g:Int->V):V->Hp->VK->Prop:=λx H Q=>∃ i,x = .int i/\Q (g i) H
section
variable {X:Cx}{a b c:Expr}{ta tb tc:TE}{pos:Pos}
theorem Iu (ha:PE X a ta) (hb:PE X b tb) {pins:List (Addr×Obj)}{s:Shared}{σ:St}{H:Hp}{R:V->V->Hp->Prop} (I:Inv X pins σ H s)
  (h:ta σ H λx H1=>tb σ H1 λy H2=>R x y H2) {Q:Value->Shared->Prop}{f:Value->Value->Sem Value}
  (hf:∀ v u s2 x y H2,Inv X pins σ H2 s2->RelV x v->RelV y u->R x y H2->wpAny (model X.prog X.w) X.A (f v u) Q X.xe s2) :
  wpAny (model X.prog X.w) X.A (eval a X.env) (λv s₁=>wpAny (model X.prog X.w) X.A (eval b X.env) (λu s₂=>wpAny (model X.prog X.w) X.A (f v u) Q X.xe s₂) X.xe s₁) X.xe s:=by
 refine thn (ha pins s σ H _ I h) λv s1 ⟨x,H1,I1,r1,q1⟩=>?_;refine thn (hb pins s1 σ H1 _ I1 q1) λu s2 ⟨y,H2,I2,r2,q2⟩=>?_;exact hf v u s2 x y H2 I2 r1 r2 q2
theorem bX {op:Operator}{r:R2} (ho:OpR X (binaryOp op) r) (ha:PE X a ta) (hb:PE X b tb):PE X (.BinOp a op b pos) (tOp r ta tb):=by
 intro pins s σ H Q I h;exact wpAny_BinOp (Iu ha hb I h λv u s2 x y H2 I2 rx ry q=>ho pins s2 σ H2 x y v u Q I2 rx ry q)
theorem J9 {op:UnaryOp}{r:V->Hp->VK->Prop} (ho:UnR X (unaryOp op) r) (ha:PE X a ta):PE X (.UnaryOp op a pos) (tUn r ta):=by
 intro pins s σ H Q I h;exact UnaryOp_ (thn (ha pins s σ H _ I h) λv s1 ⟨x,H1,I1,r1,q1⟩=>ho pins s1 σ H1 x v Q I1 r1 q1)
theorem opI {f:Value->Value->Sem Value}{C:Int->Int->Prop}{g:Int->Int->Int}
  (rule:∀ (i j:Int) (t u:Tok) (s:Shared) (Q:Value->Shared->Prop) (E:Value->Shared->Prop),C i j->Q (.int (g i j) s.toks) { s with toks:=s.toks+1 }->wpAny (model X.prog X.w) X.A (f (.int i t) (.int j u)) Q E s) :
  OpR X f (rI C λi j=>.int (g i j)):=by
 intro pins s σ H x y v u Q I rx ry h;obtain ⟨i,j,rfl,rfl,hc,q⟩:=h;obtain ⟨t,rfl⟩:=rx;obtain ⟨t',rfl⟩:=ry;exact rule i j t t' s _ _ hc ⟨.int (g i j),H,I.tok _,⟨_,rfl⟩,q⟩
theorem K6 {f:Value->Value->Sem Value}{g:Int->Int->Int}
  (rule:∀ (i j:Int) (t u:Tok) (s:Shared) (Q:Value->Shared->Prop) (E:Value->Shared->Prop),Q (.int (g i j) s.toks) { s with toks:=s.toks+1 }->wpAny (model X.prog X.w) X.A (f (.int i t) (.int j u)) Q E s) :
  OpR X f (rI0 λi j=>.int (g i j)):=by
 intro pins s σ H x y v u Q I rx ry h;obtain ⟨i,j,rfl,rfl,q⟩:=h;obtain ⟨t,rfl⟩:=rx;obtain ⟨t',rfl⟩:=ry;exact rule i j t t' s _ _ ⟨.int (g i j),H,I.tok _,⟨_,rfl⟩,q⟩
theorem GO {f:Value->Value->Sem Value}{g:Int->Int->Bool}
  (rule:∀ (i j:Int) (t u:Tok) (s:Shared) (Q:Value->Shared->Prop) (E:Value->Shared->Prop),Q (.bool (g i j)) s->wpAny (model X.prog X.w) X.A (f (.int i t) (.int j u)) Q E s) :
  OpR X f (rI0 λi j=>.bl (g i j)):=by
 intro pins s σ H x y v u Q I rx ry h;obtain ⟨i,j,rfl,rfl,q⟩:=h;obtain ⟨t,rfl⟩:=rx;obtain ⟨t',rfl⟩:=ry;exact rule i j t t' s _ _ ⟨.bl (g i j),H,I,rfl,q⟩
def M9 (i j:Int):Prop:=0<j/\j<1073741824
def Nb (i j:Int):Prop:=0<=j/\j<=1000000/\i.natAbs<2 ^ 64
def Iz (i j:Int):Prop:=(-(2 ^ 64)<i/\i<2 ^ 64)\/(-(2 ^ 64)<j/\j<2 ^ 64)
theorem Iz.ok {i j:Int} (h:Iz i j):IntMulOk i j:=by
 rcases h with ⟨h1,h2⟩ | ⟨h1,h2⟩
 ·exact .of_left (intBits_le_64 h1 h2)
 ·exact .of_right (intBits_le_64 h1 h2)
theorem jM:OpR X (binaryOp .Add) (rI0 λi j=>.int (i+j)):=K6 λ_ _ _ _ _ _ _ q=>add_int q
theorem Fv:OpR X (binaryOp .Sub) (rI0 λi j=>.int (i - j)):=K6 λ_ _ _ _ _ _ _ q=>sub_int q
theorem FA:OpR X (binaryOp .Mult) (rI Iz λi j=>.int (i * j)):=opI λ_ _ _ _ _ _ _ hc q=>mul_int q hc.ok
theorem wQ:OpR X (binaryOp .FloorDiv) (rI M9 λi j=>.int (i / j)):=opI λi j _ _ _ _ _ hc q=>by
 have h1:(0:Int)<j:=hc.1;have h2:j<1073741824:=hc.2;exact floordiv_int (by lia) (by rw [Int.fdiv_eq_ediv_of_nonneg i (by lia)];exact q) (.inl (PyProof.noPylong_small (by lia)))
theorem pO:OpR X (binaryOp .Mod) (rI (λ_ j=>0<j) λi j=>.int (i % j)):=opI λi j _ _ _ _ _ hc q=>by
 have h1:(0:Int)<j:=hc;exact mod_int' (by lia) (by rw [Int.fmod_eq_emod_of_nonneg i (by lia)];exact q)
theorem wC:OpR X (binaryOp .Pow) (rI Nb λi j=>.int (i ^ j.toNat)):=opI λ_ _ _ _ _ _ _ hc q=>pow_int_small hc.1 hc.2.1 hc.2.2 q
theorem unI {f:Value->Sem Value}{g:Int->Int}
  (rule:∀ (i:Int) (t:Tok) (s:Shared) (Q:Value->Shared->Prop) (E:Value->Shared->Prop),Q (.int (g i) s.toks) { s with toks:=s.toks+1 }->wpAny (model X.prog X.w) X.A (f (.int i t)) Q E s) :
  UnR X f (rU λi=>.int (g i)):=by
 intro pins s σ H x v Q I rx h;obtain ⟨i,rfl,q⟩:=h;obtain ⟨t,rfl⟩:=rx;exact rule i t s _ _ ⟨.int (g i),H,I.tok _,⟨_,rfl⟩,q⟩
theorem Jd:UnR X (unaryOp .USub) (rU λi=>.int (-i)):=unI λ_ _ _ _ _ q=>neg_int q
end
def KS:V->V->Bool
 | .non,.non=>true | .non,.int _=>true | .int _,.non=>true | .non,.bl _=>true | .bl _,.non=>true | .non,.str _=>true | .str _,.non=>true
 | .int _,.int _=>true | .bl _,.bl _=>true | .str _,.str _=>true | .byt _,.byt _=>true
 | .int _,.str _=>true | .str _,.int _=>true | .bl _,.str _=>true | .str _,.bl _=>true
 | _,_=>false
def rEq:R2:=λx y H Q=>KS x y=true/\Q (.bl (decide (x=y))) H
def rNe:R2:=λx y H Q=>KS x y=true/\Q (.bl (!decide (x=y))) H
theorem Br {i j:Int}:decide (V.int i=V.int j)=(i == j):=by
 rw [Bool.eq_iff_iff];simp
theorem Dd {i j:Bool}:decide (V.bl i=V.bl j)=(i == j):=by
 rw [Bool.eq_iff_iff];simp
theorem Bh {i j:Str}:decide (V.str i=V.str j)=(i == j):=by
 rw [Bool.eq_iff_iff];simp
theorem Bj {i j:Array UInt8}:decide (V.byt i=V.byt j)=(i.toList == j.toList):=by
 rw [Bool.eq_iff_iff];cases i;cases j;simp
section
variable {X:Cx}{a b c:Expr}{ta tb tc:TE}{pos:Pos}
theorem bq {pins:List (Addr×Obj)}{σ:St}{H:Hp}{s:Shared}{Q:VK}{k k':Bool} (I:Inv X pins σ H s) (q:Q (.bl k) H) (e:k=k'):EP X pins σ Q (.bool k') s:=by
 subst e;exact ⟨.bl k,H,I,rfl,q⟩
theorem fA:OpR X (compareOp .Eq) rEq:=by
 intro pins s σ H x y v u Q I rx ry h;obtain ⟨hs,q⟩:=h;cases x with
 | non=>
  cases rx;cases y with
  | non=>cases ry;exact PySem.EqNone.eq_none_none (bq I q (by simp))
  | bl j=>cases ry;exact PySem.EqNone.eq_none_bool (bq I q (by simp))
  | int j=>obtain ⟨t',rfl⟩:=ry;exact PySem.EqNone.eq_none_int (bq I q (by simp))
  | str j=>obtain ⟨t',rfl⟩:=ry;exact PySem.EqNone.eq_none_str (bq I q (by simp))
  | _=>exact absurd (show false=true from hs) N6
 | bl i=>
  cases rx;cases y with
  | non=>cases ry;exact PySem.EqNone.eq_bool_none (bq I q (by simp))
  | bl j=>cases ry;exact eq_bool (bq I q Dd)
  | str j=>obtain ⟨t',rfl⟩:=ry;exact PySem.EqMixed.eq_bool_str (bq I q (by simp))
  | _=>exact absurd (show false=true from hs) N6
 | int i=>
  obtain ⟨t,rfl⟩:=rx;cases y with
  | non=>cases ry;exact PySem.EqNone.eq_int_none (bq I q (by simp))
  | int j=>obtain ⟨t',rfl⟩:=ry;exact eq_int (bq I q Br)
  | str j=>obtain ⟨t',rfl⟩:=ry;exact PySem.EqMixed.eq_int_str (bq I q (by simp))
  | _=>exact absurd (show false=true from hs) N6
 | str i=>
  obtain ⟨t,rfl⟩:=rx;cases y with
  | non=>cases ry;exact PySem.EqNone.eq_str_none (bq I q (by simp))
  | bl j=>cases ry;exact PySem.EqMixed.eq_str_bool (bq I q (by simp))
  | int j=>obtain ⟨t',rfl⟩:=ry;exact PySem.EqMixed.eq_str_int (bq I q (by simp))
  | str j=>obtain ⟨t',rfl⟩:=ry;exact eq_str (bq I q Bh)
  | _=>exact absurd (show false=true from hs) N6
 | byt i=>
  obtain ⟨t,rfl⟩:=rx;cases y with
  | byt j=>obtain ⟨t',rfl⟩:=ry;exact PySem.W.eq_bytes (bq I q Bj)
  | _=>exact absurd (show false=true from hs) N6
 | _=>cases y <;> exact absurd (show false=true from hs) N6
theorem kJ:OpR X (compareOp .NotEq) rNe:=by
 intro pins s σ H x y v u Q I rx ry h;obtain ⟨hs,q⟩:=h;cases x with
 | non=>
  cases rx;cases y with
  | non=>cases ry;exact PySem.EqNone.ne_none_none (bq I q (by simp))
  | bl j=>cases ry;exact PySem.EqNone.ne_none_bool (bq I q (by simp))
  | int j=>obtain ⟨t',rfl⟩:=ry;exact PySem.EqNone.ne_none_int (bq I q (by simp))
  | str j=>obtain ⟨t',rfl⟩:=ry;exact PySem.EqNone.ne_none_str (bq I q (by simp))
  | _=>exact absurd (show false=true from hs) N6
 | bl i=>
  cases rx;cases y with
  | non=>cases ry;exact PySem.EqNone.ne_bool_none (bq I q (by simp))
  | bl j=>cases ry;exact ne_bool (bq I q (congrArg not Dd))
  | str j=>obtain ⟨t',rfl⟩:=ry;exact PySem.EqMixed.ne_bool_str (bq I q (by simp))
  | _=>exact absurd (show false=true from hs) N6
 | int i=>
  obtain ⟨t,rfl⟩:=rx;cases y with
  | non=>cases ry;exact PySem.EqNone.ne_int_none (bq I q (by simp))
  | int j=>obtain ⟨t',rfl⟩:=ry;exact ne_int (bq I q (congrArg not Br))
  | str j=>obtain ⟨t',rfl⟩:=ry;exact PySem.EqMixed.ne_int_str (bq I q (by simp))
  | _=>exact absurd (show false=true from hs) N6
 | str i=>
  obtain ⟨t,rfl⟩:=rx;cases y with
  | non=>cases ry;exact PySem.EqNone.ne_str_none (bq I q (by simp))
  | bl j=>cases ry;exact PySem.EqMixed.ne_str_bool (bq I q (by simp))
  | int j=>obtain ⟨t',rfl⟩:=ry;exact PySem.EqMixed.ne_str_int (bq I q (by simp))
  | str j=>obtain ⟨t',rfl⟩:=ry;exact ne_str (bq I q (congrArg not Bh))
  | _=>exact absurd (show false=true from hs) N6
 | byt i=>
  obtain ⟨t,rfl⟩:=rx;cases y with
  | byt j=>obtain ⟨t',rfl⟩:=ry;exact PySem.W.ne_bytes (bq I q (congrArg not Bj))
  | _=>exact absurd (show false=true from hs) N6
 | _=>cases y <;> exact absurd (show false=true from hs) N6
theorem A4:OpR X (compareOp .Lt) (rI0 λi j=>.bl (decide (i<j))):=GO λ_ _ _ _ _ _ _ q=>lt_int q
theorem AL:OpR X (compareOp .LtE) (rI0 λi j=>.bl (decide (i<=j))):=GO λ_ _ _ _ _ _ _ q=>le_int q
theorem HE:OpR X (compareOp .Gt) (rI0 λi j=>.bl (decide (j<i))):=GO λ_ _ _ _ _ _ _ q=>gt_int q
theorem HG:OpR X (compareOp .GtE) (rI0 λi j=>.bl (decide (j<=i))):=GO λ_ _ _ _ _ _ _ q=>ge_int q
theorem FC:OpR X (compareOp .Is) (λx y H Q=>y = .non/\Q (.bl (decide (x = .non))) H):=by
 intro pins s σ H x y v u Q I rx ry h;obtain ⟨rfl,q⟩:=h;cases ry;refine is_none_gen (bq I q ?_);cases x <;> first
  | (cases rx;rfl)
  | (obtain ⟨t,rfl⟩:=rx;rfl)
theorem FL:OpR X (compareOp .IsNot) (λx y H Q=>y = .non/\Q (.bl (!decide (x = .non))) H):=by
 intro pins s σ H x y v u Q I rx ry h;obtain ⟨rfl,q⟩:=h;cases ry;refine isnot_none_gen (bq I q ?_);cases x <;> first
  | (cases rx;rfl)
  | (obtain ⟨t,rfl⟩:=rx;rfl)
theorem aQ (b:Expr) {op:CmpOp} (h:op ≠ .In:=by decide) (h2:op ≠ .NotIn:=by decide):behindInMarks op b=false:=by
 have e1:(op == CmpOp.In)=false:=by cases op <;> first | rfl | exact absurd rfl h
 have e2:(op == CmpOp.NotIn)=false:=by cases op <;> first | rfl | exact absurd rfl h2
 cases b <;> simp [behindInMarks,e1,e2]
theorem b6 {op:CmpOp}{r:R2} (ho:OpR X (compareOp op) r) (ha:PE X a ta) (hb:PE X b tb) (hm:behindInMarks op b=false):PE X (.Compare a [op] [b] pos) (tOp r ta tb):=by
 intro pins s σ H Q I h;exact wpAny_Compare1 (Iu ha hb I h λv u s2 x y H2 I2 rx ry q=>ho pins s2 σ H2 x y v u Q I2 rx ry q) hm
def A3 (t:TE):TT:=λσ H Q=>t σ H λx H'=>∃ k,x = .bl k/\Q k H'
theorem aR {op:CmpOp}{r:R2} (ho:OpR X (compareOp op) r) (ha:PE X a ta) (hb:PE X b tb) (hm:behindInMarks op b=false):PT X (.Compare a [op] [b] pos) (A3 (tOp r ta tb)):=by
 intro pins s σ H Q I h;refine wpAny_isTrue_Compare1 (thn (ha pins s σ H _ I h) λv s1 ⟨x,H1,I1,r1,q1⟩=>thn (hb pins s1 σ H1 _ I1 q1) λu s2 ⟨y,H2,I2,r2,q2⟩=>
  thn (ho pins s2 σ H2 x y v u _ I2 r1 r2 q2) λc s3 ⟨z,H3,I3,r3,k,e,q3⟩=>?_) hm
 subst e;cases r3;exact wpAny_truthy_bool ⟨H3,I3,q3⟩
def IS (r r':R2) (ta tb tc:TE):TE:=λσ H Q=>ta σ H λx H1=>tb σ H1 λy H2=>r x y H2 λz H3=>∃ k,z = .bl k /\
 (if k=true then tc σ H3 λw' H4=>r' y w' H4 Q else Q (.bl false) H3)
theorem xA {op op':CmpOp}{r r':R2} (ho:OpR X (compareOp op) r) (ho':OpR X (compareOp op') r') (ha:PE X a ta) (hb:PE X b tb) (hc:PE X c tc)
  (hm:lastMarks [op,op'] [b,c]=false:=by with_unfolding_all rfl):PE X (.Compare a [op,op'] [b,c] pos) (IS r r' ta tb tc):=by
 intro pins s σ H Q I h;refine Compare_chain (thn (ha pins s σ H _ I h) λv s1 ⟨x,H1,I1,r1,q1⟩=>chain_link (thn (hb pins s1 σ H1 _ I1 q1) λu s2 ⟨y,H2,I2,r2,q2⟩=>
  thn (ho pins s2 σ H2 x y v u _ I2 r1 r2 q2) λd s3 ⟨z,H3,I3,r3,k,e,q3⟩=>?_)) hm
 subst e;cases r3;refine wpAny_truthy_bool ?_;cases k with
 | false=>exact ite_ff ⟨.bl false,H3,I3,rfl,q3⟩
 | true=>exact ite_tt (chain_last (thn (hc pins s3 σ H3 _ I3 q3) λw' s4 ⟨z',H4,I4,r4,q4⟩=>ho' pins s4 σ H4 y z' u w' Q I4 r2 r4 q4))
def Lm (K:PySem.W.Frag) (x:V) (H:Hp) (k:Bool):Prop:=
 match x with
 | .non=>k=false
 | .bl b=>k=b
 | .int i=>k=(i != 0)
 | .str y=>y.length<=sizeLine/\k=((y.length:Int) != 0)
 | .byt y=>y.size<=sizeLine/\k=((y.size:Int) != 0)
 | .ref p=>(∃ xs,SqL K H p xs/\k = !xs.isEmpty)\/(∃ xs,SqT K H p xs/\k = !xs.isEmpty)\/∃ kvs,H p=some (.dK kvs)/\k = !kvs.isEmpty
 | _=>False
theorem zD {κ:Type}{kvs:List (κ×V)}{vs:List (κ×Value)} (r:KV kvs vs):(!vs.isEmpty) = !kvs.isEmpty:=by
 cases r <;> rfl
theorem rY {xs:List V}{its:List Value} (r:aV xs its):(!its.toArray.isEmpty) = !xs.isEmpty:=by
 cases r <;> simp
theorem nu:(sizeLine:Nat)<2 ^ 63:=by rw [sizeLine_eq];decide
theorem IC:MG X (λx H Q=>∃ k,Lm X.K x H k/\Q k H):=by
 intro pins s σ H x v Q I rx h;obtain ⟨k,e,q⟩:=h;have hl:=nu;have hs:sizeLine=16777216:=sizeLine_eq;cases x with
 | non=>
  cases rx;have e':k=false:=e;subst e';exact truthy_none ⟨H,I,q⟩
 | bl b=>
  cases rx;have e':k=b:=e;subst e';exact wpAny_truthy_bool ⟨H,I,q⟩
 | int i=>
  obtain ⟨t,rfl⟩:=rx;have e':k=(i != 0):=e;subst e';exact PySem.P.truthy_int ⟨H,I,q⟩
 | str y=>
  obtain ⟨t,rfl⟩:=rx;obtain ⟨hy,e'⟩:y.length<=sizeLine/\k=((y.length:Int) != 0):=e;subst e';exact PySem.P.truthy_str (by lia) ⟨H,I.tok _,q⟩
 | byt y=>
  obtain ⟨t,rfl⟩:=rx;obtain ⟨hy,e'⟩:y.size<=sizeLine/\k=((y.size:Int) != 0):=e;subst e';exact PySem.W.truthy_bytes (by lia) ⟨H,I.tok _,q⟩
 | ref p=>
  cases rx;have e':(∃ xs,SqL X.K H p xs/\k = !xs.isEmpty)\/(∃ xs,SqT X.K H p xs/\k = !xs.isEmpty)\/∃ kvs,H p=some (.dK kvs)/\k = !kvs.isEmpty:=e;rcases e' with ⟨xs,hx,e'⟩ | ⟨xs,hx,e'⟩ | ⟨kvs,hx,e'⟩
  ·subst e';obtain ⟨its,r,pl,hz⟩:=I.list hx;have hlen:=r.length;exact wpAny_truthy_list pl.isList (by simp only [Ob];lia) ⟨H,I.tok _,by rw [rY r];exact q⟩
  ·subst e';obtain ⟨its,r,pl,hz⟩:=I.tuple hx;have hlen:=r.length;exact truthy_tuple pl (by simp only [Ob];lia) ⟨H,I.tok _,by rw [rY r];exact q⟩
  ·subst e';obtain ⟨hz,hS,vs,r,m⟩:kvs.length<=sizeLine/\(p == sysModules)=false/\∃ vs,KV kvs vs/\s.heap.DictOf (bf X.prog X.w) p vs:=I.hok p _ hx;have hlen:kvs.length=vs.length:=Paired.length r;exact wpAny_truthy_dict hS m (by lia) ⟨H,I.tok _,by rw [zD r];exact q⟩
 | _=>exact (show False from e).elim
theorem Fs (ha:PE X a ta) (he:∀ whole,isTrue a X.env whole=(do let v <-whole;standAt a.pos;holding [v] (truthy v))) :
  PT X a (λσ H Q=>ta σ H λx H'=>∃ k,Lm X.K x H' k/\Q k H'):=by
 intro pins s σ H Q I h;exact isTrue_plain (thn (ha pins s σ H _ I h) λv s1 ⟨x,H1,I1,r1,q1⟩=>IC pins s1 σ H1 x v Q I1 r1 q1) (he _)
theorem zy:OpR X (binaryOp .Add) (λx y H Q=>∃ i j,x = .str i/\y = .str j/\i.length+j.length<=sizeLine/\Q (.str (i++j)) H):=by
 intro pins s σ H x y v u Q I rx ry h;obtain ⟨i,j,rfl,rfl,hz,q⟩:=h;obtain ⟨t,rfl⟩:=rx;obtain ⟨t',rfl⟩:=ry;exact add_str (λt' tk=>⟨.str (i++j),H,I.tok _,⟨_,rfl⟩,q⟩) hz
theorem vals1 {x:V}{us:List Value} (r:aV [x] us):∃ u,us=[u]/\RelV x u:=by
 cases r with
 | cons r1 r2=>cases r2;exact ⟨_,rfl,r1⟩
theorem vals2 {x y:V}{us:List Value} (r:aV [x,y] us):∃ u w',us=[u,w']/\RelV x u/\RelV y w':=by
 cases r with
 | cons r1 r2=>
  cases r2 with
  | cons r3 r4=>cases r4;exact ⟨_,_,rfl,r1,r3⟩
end
structure IK (h:Heap) (x dx C:Addr) (mA:Str->Option Value):Prop where
 obj:h.get? x=some (PySem.W.instObj C dx)
 ns:h.Ns1 dx mA
 ne:dx≠x
theorem Cw {h:Heap}{dx:Addr}{mA:Str->Option Value} (n:h.Ns1 dx mA):∃ od,h.get? dx=some od/\∀ name,PySem.W.lookIn name od=some (mA name):=by
 obtain ⟨o,es,ep,ho,hd,hk,_,hm⟩:=n;refine ⟨o,ho,λname=>?_⟩;have e:=hm name;unfold nsFind findBy at e;rw [<-Array.find?_toList] at e;unfold PySem.W.lookIn;rw [hd];dsimp only
 split
 ·rename_i y q;rw [q] at e;exact congrArg some e
 ·rename_i q;rw [q] at e;have a:es.toList.any (·.refKey)=false:=by
   rw [List.any_eq_false];intro y hy;obtain ⟨z,t,F8⟩:=hk y (Array.mem_toList_iff.mp hy);simp [DictEntry.refKey,F8]
  have a':¬ es.toList.any (·.refKey)=true:=by rw [a];exact N6
  rw [if_neg a'];exact congrArg some e
theorem IK.look {h:Heap}{x dx C:Addr}{mA:Str->Option Value} (I:IK h x dx C mA):∃ od,PySem.W.InstAt h x (PySem.W.instObj C dx) C (some od)/\∀ name,PySem.W.lookIn name od=some (mA name):=
 let ⟨od,ho,hl⟩:=Cw I.ns
 ⟨od,⟨I.obj,rfl,rfl,ho⟩,hl⟩
section
variable {prog:Program}{w:World}{A:Around}{E:Value->Shared->Prop}{s:Shared}{K:PySem.W.Frag}{x dx C f:Addr}{mA:Str->Option Value}{name:Str}{v:Value}
end
section
variable {P:Program}{w:World}{H H':Hp}{h h':Heap}{a C dx:Addr}{fs fs':List (Str×V)}
theorem Gm (hok:HOk P w H h) (e:H a=some (.ins C dx fs)):∃ mA,IK h a dx C mA/\(∀ f,BF (fs.lookup f) (mA f))/\PySem.Within mA (fs.map (·.1))/\fs.length<=1000/\H dx=some (.own a):=by
 obtain ⟨d,z,ne,ob,mA,n,r,q⟩:=(show cm P w H h a (.ins C dx fs) from hok a _ e);exact ⟨mA,⟨ob,n,ne⟩,r,q,z,d⟩
end
structure Cls (K:PySem.W.Frag) (C:Addr):Prop where
 pg:PySem.W.plainGet K C Str.empty=true
 hd:PySem.W.hasDictIn K C=true
 po:PySem.W.plainOver K C=true
 sa:PySem.W.findIn K (.ref C) "__setattr__" = some (some (.builtin "object.__setattr__"))
theorem Cls.get {K:PySem.W.Frag}{C:Addr} (c:Cls K C) (f:Str):PySem.W.plainGet K C f=true:=c.pg
structure Con (K:PySem.W.Frag) (C:Addr) (f:Str) (v:V) (u:Value):Prop where
 at_:PySem.W.findIn K (.ref C) f=some (some u)
 rel:RelV v u
 get:PySem.W.specialIn K u "__get__" = some none
 cp:PySem.W.copiedNames.contains f=false
structure NJ (K:PySem.W.Frag) (C:Addr) (m:Str) (f:Addr):Prop where
 at_:PySem.W.findIn K (.ref C) m=some (some (.ref f))
 fn:PySem.W.isFn K (.ref f)=true
 kp:PySem.W.keepIn K (.ref f)=true
section
variable {X:Cx}{pins:List (Addr×Obj)}{σ:St}{H:Hp}{s:Shared}{a C dx:Addr}{fs:List (Str×V)}{f:Str}{v:V}{A:Around}{E:Value->Shared->Prop}
end
section
variable {X:Cx}{o e value:Expr}{f:Str}{pos pos' Fd:Pos}{ta tv:TE}
end
section
variable {X:Cx}{pins:List (Addr×Obj)}{σ:St}{H:Hp}{s:Shared}{A:Around}{E:Value->Shared->Prop}{Q:Value->Shared->Prop}{c:Value}{b:Bool}
inductive qA (K:PySem.W.Frag) (H:Hp):V->Value->Prop where
 | non:qA K H .non (.type "NoneType")
 | bl (x:Bool):qA K H (.bl x) (.type "bool")
 | int (i:Int):qA K H (.int i) (.type "int")
 | str (x:Str):qA K H (.str x) (.type "str")
 | flt (x:UInt64):qA K H (.flt x) (.type "float")
 | lst {a:Addr}{xs:List V} (e:H a=some (.lst xs)):qA K H (.ref a) (.type "list")
 | frz {a:Addr}{o:Obj}{xs:List V} (e:H a=some (.frz o (.lst xs))):qA K H (.ref a) (.type "list")
 | tup {a:Addr}{xs:List V} (e:H a=some (.tup xs)):qA K H (.ref a) (.type "tuple")
 | dK {a:Addr}{kvs:List (Key×V)} (e:H a=some (.dK kvs)):qA K H (.ref a) (.type "dict")
 | dT {a:Addr}{kvs:List (List Key×V)} (e:H a=some (.dT kvs)):qA K H (.ref a) (.type "dict")
 | ins {a C dx:Addr}{fs:List (Str×V)} (e:H a=some (.ins C dx fs)) (cl:Cls K C) (ha:PySem.W.findIn K (.ref C) "__class__" = some (some (.builtin "object.__class__")))
   (hn:PySem.W.specialIn K (.builtin "object.__class__") "__get__" = some (some (.builtin "getset_descriptor.__get__"))) (htk:PySem.W.takesIn K (.builtin "object.__class__")=some true)
   (hm:PySem.W.mroIn K C (.type "object")=some true):qA K H (.ref a) (.ref C)
theorem CI {x:V}{u t:Value} (I:Inv X pins σ H s) (rx:RelV x u) (ty:qA X.K H x t) (e:PySem.W.kitOne X.K t c=some b) (h:∀ tk,Q (.bool b) { s with toks:=tk }) :
  wpAny (model X.prog X.w) A (call (.builtin "isinstance") [u,c]) Q E s:=by
 cases ty with
 | non=>cases (show u=Value.none from rx);exact PySem.W.kia_one PySem.W.kitx_none I.kIn True.intro e (λz=>nomatch z) h
 | bl y=>cases (show u=Value.bool y from rx);exact PySem.W.kia_one PySem.W.kitx_bool I.kIn True.intro e (λz=>nomatch z) h
 | int i=>obtain ⟨t,q⟩:=(show ∃ t,u=Value.int i t from rx);cases q;exact PySem.W.kia_one PySem.W.kitx_int I.kIn True.intro e (λz=>nomatch z) h
 | str y=>obtain ⟨t,q⟩:=(show ∃ t,u=Value.str y t from rx);cases q;exact PySem.W.kia_one PySem.W.kitx_str I.kIn True.intro e (λz=>nomatch z) h
 | flt y=>obtain ⟨t,q⟩:=(show ∃ t,u=Value.float y t from rx);cases q;exact PySem.W.kia_one PySem.W.kitx_float I.kIn True.intro e (λz=>nomatch z) h
 | @lst a xs ea=>
  cases (show u=Value.ref a from rx);obtain ⟨_,_,n,_,h1⟩:=(show cm X.prog X.w H s.heap a (.lst xs) from I.hok a _ ea);exact PySem.W.kia_one PySem.W.kitx_list I.kIn ⟨_,h1,rfl⟩ e (λz=>nomatch z) h
 | @frz a ob xs ea=>
  cases (show u=Value.ref a from rx);obtain ⟨_,_,_,n,_,h1⟩:=(show cm X.prog X.w H s.heap a (.frz ob (.lst xs)) from I.hok a _ ea);exact PySem.W.kia_one PySem.W.kitx_list I.kIn ⟨_,h1,rfl⟩ e (λz=>nomatch z) h
 | @tup a xs ea=>
  cases (show u=Value.ref a from rx);obtain ⟨_,_,_,p⟩:=(show cm X.prog X.w H s.heap a (.tup xs) from I.hok a _ ea);obtain ⟨o,h1,h2,_⟩:=p;exact PySem.W.kia_one PySem.W.kitx_tuple I.kIn ⟨o,h1,h2⟩ e (λz=>nomatch z) h
 | @dK a kvs ea=>
  cases (show u=Value.ref a from rx);obtain ⟨_,_,vs,_,p⟩:=(show cm X.prog X.w H s.heap a (.dK kvs) from I.hok a _ ea);obtain ⟨o,es,ep,h1,h2,_⟩:=p;exact PySem.W.kia_one PySem.W.kitx_dict I.kIn ⟨o,h1,h2.1⟩ e (λz=>nomatch z) h
 | @dT a kvs ea=>
  cases (show u=Value.ref a from rx);obtain ⟨_,_,xs,_,o,es,ep,h1,h2,_⟩:=(show cm X.prog X.w H s.heap a (.dT kvs) from I.hok a _ ea);exact PySem.W.kia_one PySem.W.kitx_dict I.kIn ⟨o,h1,h2.1⟩ e (λz=>nomatch z) h
 | @ins a C dx fs ea cl ha hn htk hm=>
  cases (show u=Value.ref a from rx);obtain ⟨mA,O,_⟩:=Gm I.hok ea;obtain ⟨od,J,_⟩:=O.look;exact PySem.W.kia_one (PySem.W.kitx_own (cl.get _) cl.hd ha hn htk hm) I.kIn J e (λz=>nomatch z) h
end
structure cC (k:Nat) (A:Around):Prop where
 hd:A.handled=none
 dp:A.depth+3 * k+5<recursionLimit
 un:A.units+16 * k+200<cLine
 gd:A.guards=some []
theorem cC.mono {j k:Nat}{A:Around} (r:cC k A) (h:j<=k):cC j A:=⟨r.hd,by have:=r.dp;lia,by have:=r.un;lia,r.gd⟩
theorem cC.deeper {k:Nat}{A:Around} (r:cC (k+1) A) (env:Env):cC k (A.deeper env):=
 ⟨r.hd,by have:=r.dp;show A.depth+1+3 * k+5<_;lia,by have:=r.un;show A.units+3+16 * k+200<_;lia,r.gd⟩
theorem cC.in1 {k:Nat}{A:Around} (r:cC (k+1) A):cC k A.in1:=
 ⟨r.hd,by have:=r.dp;show A.depth+3 * k+5<_;lia,by have:=r.un;show A.units+1+16 * k+200<_;lia,r.gd⟩
theorem cC.depth {k:Nat}{A:Around} (r:cC k A):A.depth<recursionLimit:=by have:=r.dp;lia
def Al:TA:=λ_ H Q=>Q [] H
def lP (ta:TE) (tr:TA):TA:=λσ H Q=>ta σ H λx H1=>tr σ H1 λxs H2=>Q (x::xs) H2
section
variable {X:Cx}{e:Expr}{es:List Expr}{te:TE}{t:TA}{pos:Pos}
theorem ae:PA X [] Al:=λ_ _ _ _ H Q I h=>Calls.spliced_nil ⟨[],H,I,.nil,h⟩
theorem aa (ha:PE X e te) (hr:PA X es t) (hs:starEach (e::es) X.env=(false,eval e X.env)::starEach es X.env:=by rfl):PA X (e::es) (lP te t):=by
 intro pos pins s σ H Q I h;rw [hs];show wpAny _ _ (spliced ((false,eval e X.env)::backTo pos (starEach es X.env))) _ _ s;refine Calls.spliced_cons (thn (ha pins s σ H _ I h) λu s1 ⟨x,H1,I1,r1,q1⟩=>?_);exact thn (hr pos pins s1 σ H1 _ I1 q1) λus s2 ⟨xs,H2,I2,r2,q2⟩=>⟨x::xs,H2,I2,.cons r1 r2,q2⟩
def Iq (t:TA):TE:=λσ H Q=>t σ H λxs H1=>xs.length<=sizeLine/\∀ p,H1 p=none->Q (.ref p) (upd H1 p (.tup xs))
def Mi (t:TA):TE:=λσ H Q=>t σ H λxs H1=>xs.length<=sizeLine/\∀ p,H1 p=none->Q (.ref p) (upd H1 p (.lst xs))
theorem eF {x1} (h:PA X es t):PE X (.Tuple es x1 pos) (Iq t):=by
 intro pins s σ H Q I hq;refine wpAny_Tuple_spliced (thn (h pos pins s σ H _ I hq) λus s1 ⟨xs,H1,I1,r,z,q⟩=>⟨by rw [<-r.length];exact z,?_⟩);have hf:H1 s1.heap.objs.size=none:=I1.hok.fresh (NX _);refine ⟨.ref s1.heap.objs.size,upd H1 s1.heap.objs.size (.tup xs),I1.laid (t':=s1.toks) (λb u e=>Heap.get?_push_of_some _ e) (NX _) ?_,rfl,q _ hf⟩;exact ⟨z,us,r,⟨_,Heap.get?_push_size _ rfl,rfl,_,rfl⟩⟩
theorem bQ (h:PA X es t):PE X (.List es pos) (Mi t):=by
 intro pins s σ H Q I hq;refine wpAny_List_spliced (thn (h pos pins s σ H _ I hq) λus s1 ⟨xs,H1,I1,r,z,q⟩=>⟨by rw [<-r.length];exact z,?_⟩);have hf:H1 s1.heap.objs.size=none:=I1.hok.fresh (NX _);refine ⟨.ref s1.heap.objs.size,upd H1 s1.heap.objs.size (.lst xs),I1.laid (t':=s1.toks) (λb u e=>Heap.get?_push_of_some _ e) (NX _) ?_,rfl,q _ hf⟩;exact ⟨z,us,0,r,Heap.get?_push_size _ rfl⟩
end
abbrev Sp:=List V->Hp->VK->XK->Prop
abbrev CXT:=List Env->Hp->Shared->XK->Value->Shared->Prop
structure zN (P:Program) (w:World) (K:PySem.W.Frag) (mg:Str->Option Value) (base:Heap) (A:Around) (outer:List Env) (s:Shared) (H:Hp):Prop where
 frames:A.frames=some outer
 mod:Mod K mg base
 bs:∀ b o,base.get? b=some o->s.heap.get? b=some o/\H b=none
 bsz:base.objs.size<=s.heap.objs.size
 pX:s.heap.FunFrames base outer
 frf:∀ b∈frs outer,H b=none
 hok:HOk P w H s.heap
 bare:AllBare s.gens
def CE (outer:List Env) (P:Program) (w:World) (H:Hp) (s:Shared) (Q:VK) (u:Value) (s':Shared):Prop:=
 ∃ v H',s'.os=s.os/\AllBare s'.gens/\Un (frs outer) [] H H' s.heap s'.heap/\HOk P w H' s'.heap/\RelV v u/\Q v H'
def CR (CX:CXT) (outer:List Env) (P:Program) (w:World) (H:Hp) (s:Shared) (Q:VK) (E:XK) (r:Result) (s':Shared):Prop:=
 match r with
 | .ok (.ret u)=>CE outer P w H s Q u s'
 | .ok _=>False
 | .error e=>CX outer H s E e s'
structure au (P:Program) (w:World) (K:PySem.W.Frag) (mg:Str->Option Value) (base:Heap) (CX:CXT) (k:Nat) (f:Addr) (fd:FuncData) (ps:List Str) (sp:Sp):Prop where
 len:∀ vs H Q E,sp vs H Q E->vs.length=ps.length
 run:∀ (A:Around) (outer:List Env) (s:Shared) (H:Hp) (args:Args) (us:List Value) (vs:List V) (Q:VK) (E:XK),cC k A->zN P w K mg base A outer s H->BindsTo s fd args (ps.zip us)->aV vs us->sp vs H Q E ->
  codeAny (model P w) A (.call (.ref f) args) (CR CX outer P w H s Q E) s
theorem au.mono {P:Program}{w:World}{K:PySem.W.Frag}{mg:Str->Option Value}{base:Heap}{CX:CXT}{j k:Nat}{f:Addr}{fd:FuncData}{ps:List Str}{sp:Sp} (F:au P w K mg base CX j f fd ps sp) (h:j<=k) :
  au P w K mg base CX k f fd ps sp:=⟨F.len,λA outer s H args us vs Q E hr=>F.run A outer s H args us vs Q E (hr.mono h)⟩
theorem zN.in1 {P:Program}{w:World}{K:PySem.W.Frag}{mg:Str->Option Value}{base:Heap}{A:Around}{outer:List Env}{s:Shared}{H:Hp} (e:zN P w K mg base A outer s H) :
  zN P w K mg base A.in1 outer s H:=⟨e.frames,e.mod,e.bs,e.bsz,e.pX,e.frf,e.hok,e.bare⟩
section
variable {X:Cx}{pins:List (Addr×Obj)}{σ:St}{H:Hp}{s s':Shared}
theorem Inv.Gu (I:Inv X pins σ H s):zN X.prog X.w X.K X.mg X.base X.A X.stack s H:=
 ⟨I.ok.frames,I.ok.mod,I.bs,N2 I.ok.bsz I.sz,I.stack,I.Ba,I.hok,I.bare⟩
theorem Inv.after {Q:VK}{u:Value} (I:Inv X pins σ H s) (h:CE X.stack X.prog X.w H s Q u s'):EP X pins σ Q u s':=by
 obtain ⟨v,H',os,bare,un,hok,r,q⟩:=h;obtain ⟨hh,g,d,t,os'⟩:=s';obtain rfl:os' = s.os:=os;exact ⟨v,H',I.call (h':=hh) (g':=g) (d':=d) (t':=t) (ch:=[]) un hok bare (λb z=>absurd z (by simp)),r,q⟩
end
def AJ (sp:Sp) (dvs:List V) (E:XK) (t:TA):TE:=λσ H Q=>t σ H λvs H1=>sp (vs++dvs) H1 Q E
def Binds (K:PySem.W.Frag) (fd:FuncData) (ps:List Str) (ds:List Value):Prop:=
 ∀ (s:Shared) (us:List Value),K.In s.heap->(us++ds).length=ps.length->BindsTo s fd ⟨us,[]⟩ (ps.zip (us++ds))
theorem Binds.all {K:PySem.W.Frag}{fd:FuncData}{ps:List Str} (h:∀ us:List Value,us.length=ps.length->bindArgs fd ⟨us,[]⟩=pure (ps.zip us)):Binds K fd ps []:=λs us _ hl=>by
 rw [List.append_nil] at hl ⊢;exact .of_eq (h us hl)
def w6 (CX:CXT) (X:Cx) (E:XK):Prop:=∀ (pins:List (Addr×Obj)) (σ:St) (H:Hp) (s:Shared) (e:Value) (s':Shared),Inv X pins σ H s->CX X.stack H s E e s'->X.xe e s'
section
variable {X:Cx}{CX:CXT}{k:Nat}{f C:Addr}{fd:FuncData}{ps:List Str}{sp:Sp}{dvs:List V}{ds:List Value}{E:XK}{x m:Str}{p pos apos:Pos}{e o:Expr}{es:List Expr}{ta:TE}{t:TA}
theorem DV {pins:List (Addr×Obj)}{σ:St}{H:Hp}{s:Shared}{Q:VK}{us:List Value}{vs:List V} (F:au X.prog X.w X.K X.mg X.base CX k f fd ps sp) (hr:cC k X.A) (hb:Binds X.K fd ps ds) (hd:aV dvs ds) (hx:w6 CX X E)
  (I:Inv X pins σ H s) (r:aV vs us) (h:sp (vs++dvs) H Q E):wpAny (model X.prog X.w) X.A (call (.ref f) us) (EP X pins σ Q) X.xe s:=by
 have r2:aV (vs++dvs) (us++ds):=r.append hd;have hl:(us++ds).length=ps.length:=by rw [<-r2.length];exact F.len _ _ _ _ h
 refine wpAny_call (codeAny_mono (F.run X.A X.stack s H ⟨us,[]⟩ (us++ds) (vs++dvs) Q E hr I.Gu (hb s us I.kIn hl) r2 h) λr s' hq=>?_);cases r with
 | error e=>exact hx pins σ H s e s' I hq
 | ok fl=>
  cases fl with
  | ret u=>exact I.after hq
  | next=>exact False.elim hq
  | brk=>exact False.elim hq
  | cont=>exact False.elim hq
theorem ak (F:au X.prog X.w X.K X.mg X.base CX k f fd ps sp) (hr:cC k X.A) (hg:Gl X x) (hm:X.mg x=some (.ref f)) (hk:PySem.W.keepIn X.K (.ref f)=true) (hb:Binds X.K fd ps ds) (hd:aV dvs ds) (hx:w6 CX X E)
  (ha:PA X (e::es) t) (hdb:(x == ("__debug__" : Str))=false:=by decide) (he:starEach (e::es) X.env=(false,eval e X.env)::starEach es X.env:=by rfl) (hpl:(backTo pos (starEach es X.env)).any (·.1)=false:=by rfl) :
  PE X (.Call (.Name x p) (e::es) [] pos) (AJ sp dvs E t):=by
 intro pins s σ H Q I h;refine wpAny_Call_Name_kw (md I hg hm ?_ hdb);refine PySem.W.callWith_K (h₀:=X.base) I.ok.mod.kin hk (thn (ha pos pins s σ H _ I h) λus s1 ⟨vs,H1,I1,r,q⟩=>⟨I1.kIn,?_⟩) he hpl;exact DV F hr hb hd hx I1 r q
structure Mk (K:PySem.W.Frag) (C f:Addr):Prop where
 makes:PySem.W.makesIn K C=true
 init:PySem.W.findIn K (.ref C) "__init__" = some (some (.ref f))
 fn:PySem.W.isFn K (.ref f)=true
 kp:PySem.W.keepIn K (.ref C)=true
end
section
variable {X:Cx}{CX:CXT}{k:Nat}{f C:Addr}{fd:FuncData}{ps ks:List Str}{sp:Sp}{E:XK}{x m:Str}{p pos apos Nx:Pos}{e o:Expr}{es:List Expr}{kws:List Keyword}{te ta:TE}{t tk:TA}{nm:Option Str}
structure MM (K:PySem.W.Frag) (fd:FuncData) (ps ks:List Str) (g:List Value->List Value->List Value) (gV:List V->List V->List V):Prop where
 to:∀ (s:Shared) (us ws:List Value),K.In s.heap->(g us ws).length=ps.length->BindsTo s fd ⟨us,ks.zip ws⟩ (ps.zip (g us ws))
 rel:∀ {vs:List V}{us:List Value}{zs:List V}{ws:List Value},aV vs us->aV zs ws->aV (gV vs zs) (g us ws)
variable {g:List Value->List Value->List Value}{gV:List V->List V->List V}
end
structure aA (N P:List Str) (sc:Scope):Prop where
 kind:sc.kind = .function
 co:sc.isCoroutine=false
 gen:sc.isGenerator=false
 nd:N.Nodup
 pre:N.take P.length=P
 par:∀ x∈P,sc.names.lookup x=some .local\/sc.names.lookup x=some .cell
 Jt:∀ y∈sc.names,y.2 ≠ .free
theorem uY {kindOf:Str->Option NameKind}{x:Str}:∀ {binds:List (Str×Value)}{m:Str->Option Value},(∀ v,(x,v)∉binds)->bindL kindOf binds m x=m x
 | [],_,_=>rfl
 | (n,v)::r,m,h=>by
  unfold bindL;rw [uY λw hw=>h w (NY _ hw)]
  split
  ·have:x≠n:=by rintro rfl;exact h v N4
   simp [this]
  ·rfl
theorem vm {kindOf:Str->Option NameKind}{x:Str}:∀ {binds:List (Str×Value)}{m:Str->Option Value},(∀ v,(x,v)∉binds)->bindC kindOf binds m x=m x
 | [],_,_=>rfl
 | (n,v)::r,m,h=>by
  unfold bindC;rw [vm λw hw=>h w (NY _ hw)]
  split
  ·rfl
  ·have:x≠n:=by rintro rfl;exact h v N4
   simp [this]
theorem uV {kindOf:Str->Option NameKind}{x:Str}{v:Value}:∀ {P:List Str}{vs:List Value}{i:Nat}{m:Str->Option Value},P.Nodup->P[i]? = some x->vs[i]? = some v->kindOf x=some .local ->
  bindL kindOf (P.zip vs) m x=some v
 | [],_,_,_,_,h,_,_=>by simp at h
 | _::_,[],_,_,_,_,h,_=>by simp at h
 | p::P,w::vs,0,m,nd,h1,h2,hk=>by
  simp at h1 h2;subst h1;subst h2;show bindL kindOf ((p,w)::P.zip vs) m p=_;unfold bindL;rw [uY λv hv=>(List.nodup_cons.mp nd).1 (List.of_mem_zip hv).1,if_pos hk];simp
 | p::P,w::vs,i+1,m,nd,h1,h2,hk=>by
  show bindL kindOf ((p,w)::P.zip vs) m x=_;unfold bindL;exact uV (i:=i) (List.nodup_cons.mp nd).2 (by simpa using h1) (by simpa using h2) hk
theorem vn {kindOf:Str->Option NameKind}{x:Str}{v:Value}:∀ {P:List Str}{vs:List Value}{i:Nat}{m:Str->Option Value},P.Nodup->P[i]? = some x->vs[i]? = some v->kindOf x≠some .local ->
  bindC kindOf (P.zip vs) m x=some v
 | [],_,_,_,_,h,_,_=>by simp at h
 | _::_,[],_,_,_,_,h,_=>by simp at h
 | p::P,w::vs,0,m,nd,h1,h2,hk=>by
  simp at h1 h2;subst h1;subst h2;show bindC kindOf ((p,w)::P.zip vs) m p=_;unfold bindC;rw [vm λv hv=>(List.nodup_cons.mp nd).1 (List.of_mem_zip hv).1,if_neg hk];simp
 | p::P,w::vs,i+1,m,nd,h1,h2,hk=>by
  show bindC kindOf ((p,w)::P.zip vs) m x=_;unfold bindC;exact vn (i:=i) (List.nodup_cons.mp nd).2 (by simpa using h1) (by simpa using h2) hk
def start (N:List Str) (vs:List V):St:=vs.map some++List.replicate (N.length - vs.length) none
def xB (CX:CXT) (P:Program) (w:World) (K:PySem.W.Frag) (mg:Str->Option Value) (base:Heap) (N:List Str) (qual:Str) (scope:Scope) (f:Addr) (cd:Value) (A:Around) (outer:List Env) (s:Shared) (H:Hp) (E:XK):Cx where
 prog:=P
 w:=w
 K:=K
 mg:=mg
 base:=base
 A:=A.deeper (envOfC qual scope s.heap.objs.size f cd)
 N:=N
 s₀:=s
 H₀:=H
 env:=envOfC qual scope s.heap.objs.size f cd
 outer:=outer
 stack:=envOfC qual scope s.heap.objs.size f cd::outer
 ex:=[]
 calm:=true
 fn:=λ_=>true
 pn:=[]
 xe:=λe s'=>wpAny (model P w) (A.deeper (envOfC qual scope s.heap.objs.size f cd)) (leaving (envOfC qual scope s.heap.objs.size f cd) e) (λ_ s''=>CX outer H s E e s'') (λe' s''=>CX outer H s E e' s'') s'
theorem yq {sc:Scope}{n:Nat}{x:Str} (h:sc.names.lookup x=some .cell):∃ c,(cellsFrom n sc.names []).lookup x=some c:=by
 have q:=PySem.W.cellsFrom_some sc.names n [] (.inl h);exact Option.isSome_iff_exists.mp q
theorem CB {CX:CXT}{P:Program}{w:World}{K:PySem.W.Frag}{mg:Str->Option Value}{base:Heap}{N ps:List Str}{qual:Str}{scope:Scope}{f:Addr}{cd:Value}{A:Around}{outer:List Env}{s s1:Shared}{H:Hp}{E:XK}{us:List Value}{vs:List V}
  (S:aA N ps scope) (hd:A.handled=none) (e0:zN P w K mg base A outer s H) (hl:vs.length=ps.length) (r:aV vs us)
  (x:InCallC s s.heap.objs.size (bindL (envOfC qual scope s.heap.objs.size f cd).kindOf (ps.zip us) λ_=>none) (cellsFrom (s.heap.objs.size+1) scope.names []) (bindC (envOfC qual scope s.heap.objs.size f cd).kindOf (ps.zip us) λ_=>none) s1) :
  Inv (xB CX P w K mg base N qual scope f cd A outer s H E) [] (start N vs) H s1:=by
 have hpl:ps.length<=N.length:=by have:=congrArg List.length S.pre;rw [N7] at this;lia
 obtain ⟨h1,tk,rfl,hk⟩:=x.done;have noA:∀ b:Addr,b∉(xB CX P w K mg base N qual scope f cd A outer s H E).ex:=λb z=>absurd (show b∈([]:List Addr) from z) (by simp);refine ⟨⟨e0.mod,S.kind,rfl,rfl,NX _,λy z c h1 h2=>?_,λy hy=>?_,λy c _ h=>?_,λ_=>hd,Around.frames_deeper e0.frames,.inr ⟨rfl,rfl⟩,λb z=>absurd z (noA b),e0.bs,e0.bsz,λb _ _=>noA b,λb z=>absurd z (noA b),e0.pX,e0.frf⟩,
  rfl,e0.bare,Un.kept hk,⟨_,x.toInCall.ns,λi y v h1 h2 h3=>?_⟩,λy c h=>⟨_,x.cell y c h⟩,e0.hok.fresh (NX _),λy c h=>?_,λp hp=>absurd (show p∈([]:List (Addr×Obj)) from hp) (by simp),e0.hok.kept hk,?_⟩
 ·exact name_of_addr x.apart (PySem.mem_of_lookup h1) (PySem.mem_of_lookup h2)
 ·have hy:scope.names.lookup y=some .cell\/scope.names.lookup y=some .free:=hy;rcases hy with hy | hy
  ·exact yq hy
  ·exact absurd rfl (S.Jt _ (PySem.mem_of_lookup hy))
 ·exact Nat.le_of_lt (x.above y c (PySem.mem_of_lookup h))
 ·have hi:i<vs.length:=by
   unfold start at h2;by_cases hi:i<vs.length
   ·exact hi
   ·rw [List.getElem?_append_right (by simpa using hi)] at h2;rw [List.getElem?_replicate] at h2
    split at h2 <;> cases h2
  have ha:vs[i]? = some v:=by
   unfold start at h2;rw [List.getElem?_append_left (by simpa using hi),N1] at h2;cases e:vs[i]? with
   | none=>rw [e] at h2;cases h2
   | some a=>rw [e] at h2;cases h2;rfl
  obtain ⟨u,hu,rv⟩:=r.get ha;have hp:ps[i]? = some y:=by
   rw [<-S.pre,List.getElem?_take_of_lt (by lia)];exact h1
  have ndP:ps.Nodup:=by rw [<-S.pre];exact S.nd.sublist (List.take_sublist _ _)
  refine ⟨u,rv,?_⟩;rcases S.par y (NV hp) with k | k
  ·exact .inl ⟨k,uV ndP hp hu k⟩
  ·obtain ⟨c,e⟩:=yq (n:=s.heap.objs.size+1) k;refine .inr ⟨.inl k,c,e,?_⟩;have q:=x.cell y c e;rw [vn ndP hp hu (by show scope.names.lookup y≠_;rw [k];decide)] at q;exact q
 ·exact e0.hok.fresh (Nat.le_of_lt (x.above y c (PySem.mem_of_lookup h)))
 ·unfold start;show _=N.length;rw [List.length_append,NU,List.length_replicate];lia
theorem Eg {CX:CXT}{P:Program}{w:World}{K:PySem.W.Frag}{mg:Str->Option Value}{base:Heap}{k:Nat}{f:Addr}{name qual:Str}{params:Arguments}{body:List Stmt}{scope:Scope}{dV kV doc pm cdv ct oc:Value}{an od:Option Addr}
  {osl:Array (Option Value)}{N ps:List Str}{sp:Sp} (lk:K.lookup f=some ⟨oc,od,.func (PySem.W.fnOf name qual params body scope dV kV doc pm an cdv ct),osl⟩) (hcd:PySem.W.codeIn K cdv qual=true) (S:aA N ps scope)
  (len:∀ vs H Q E,sp vs H Q E->vs.length=ps.length)
  (jy:∀ (A:Around) (outer:List Env) (s:Shared) (H:Hp) (vs:List V) (Q:VK) (E:XK),cC k (A.deeper (envOfC qual scope s.heap.objs.size f cdv))->sp vs H Q E ->
   ∃ t,PSs (xB CX P w K mg base N qual scope f cdv A outer s H E) body t/\t { nx:=λ_ H'=>Q .non H',rt:=Q } (start N vs) H) :
  au P w K mg base CX (k+1) f (PySem.W.fnOf name qual params body scope dV kV doc pm an cdv ct) ps sp:=by
 refine ⟨len,λA outer s H args us vs Q E hr e0 hb r hsp=>?_⟩;have hl:=len _ _ _ _ hsp;have KX:K.In s.heap:=e0.mod.kin.keeps λb o e=>(e0.bs b o e).1;have lim:s.heap.NoLimit:=e0.mod.nolimit.keeps λb o e=>(e0.bs b o e).1;have Lr:∀ y∈ps.zip us,scope.names.lookup y.1=some .local\/(scope.names.lookup y.1=some .cell/\((cellsFrom (s.heap.objs.size+1) scope.names []).lookup y.1).isSome=true):=λ⟨n,v⟩ hy=>by
  rcases S.par n (List.of_mem_zip hy).1 with q | q
  ·exact .inl q
  ·exact .inr ⟨q,PySem.W.cellsFrom_some _ _ _ (.inl q)⟩
 refine codeAny_call_function hr.depth (KX _ _ lk) rfl S.co S.gen rfl (PySem.W.codeRec_of KX hcd) (hb _ _ _ _ ?_);refine wpAny_newFunctionEnv_cells S.kind Lr λenv he s1 x=>?_;subst he;refine ⟨lim.keeps x.toInCall.keep,codeAny_func ?_⟩;obtain ⟨t,ht,hq⟩:=jy A outer s H vs Q E (hr.deeper _) hsp;have I:Inv (xB CX P w K mg base N qual scope f cdv A outer s H E) [] (start N vs) H s1:=CB S hr.hd e0 hl r x;refine wpAny_mono (ht [] s1 (start N vs) H _ I hq) (λfl s' hs=>?_) λe s' hs=>hs;have fin:∀ {σ':St}{H':Hp}{v:V}{u:Value},Inv (xB CX P w K mg base N qual scope f cdv A outer s H E) [] σ' H' s'->RelV v u->Q v H'->CE outer P w H s Q u s':=
  λ{σ' H' v u} J rv q=>⟨v,H',J.os,J.bare,J.base,J.hok,rv,q⟩
 cases fl with
 | ret u=>
  obtain ⟨v,σ',H',J,rv,q⟩:=hs;exact fin J rv q
 | next=>
  obtain ⟨σ',H',J,q⟩:=hs;exact fin (v:=V.non) (u:=Value.none) J rfl q
 | brk=>
  obtain ⟨_,_,_,q⟩:=hs;exact False.elim q
 | cont=>
  obtain ⟨_,_,_,q⟩:=hs;exact False.elim q
section
variable {X:Cx}{x:Str}{p pos:Pos}{e:Expr}{es:List Expr}{t:TA}{id T:String}{r:List V->Hp->VK->Prop}
def tCB (r:List V->Hp->VK->Prop) (t:TA):TE:=λσ H Q=>t σ H λvs H1=>r vs H1 Q
theorem aK (hc:mO X (.builtin id) r) (hg:Gl X x) (hm:X.mg x=none) (hv:bootBuiltins x=some (.builtin id)) (ha:PA X (e::es) t) (hn:x ≠ "__name__" :=by decide) (hdb:(x == ("__debug__" : Str))=false:=by decide)
  (he:starEach (e::es) X.env=(false,eval e X.env)::starEach es X.env:=by rfl) (hpl:(backTo pos (starEach es X.env)).any (·.1)=false:=by rfl):PE X (.Call (.Name x p) (e::es) [] pos) (tCB r t):=by
 intro pins s σ H Q I h;refine wpAny_Call_Name_kw (eD I hg hm hv ?_ hn hdb);exact PyProof.Rows.callWith_builtin1 (thn (ha pos pins s σ H _ I h) λus s1 ⟨vs,H1,I1,r1,q1⟩=>hc pins s1 σ H1 vs us Q I1 r1 q1) he hpl
theorem qe (hc:mO X (.type T) r) (hg:Gl X x) (hm:X.mg x=none) (hv:bootBuiltins x=some (.type T)) (ha:PA X (e::es) t) (hn:x ≠ "__name__" :=by decide) (hdb:(x == ("__debug__" : Str))=false:=by decide)
  (he:starEach (e::es) X.env=(false,eval e X.env)::starEach es X.env:=by rfl) (hpl:(backTo pos (starEach es X.env)).any (·.1)=false:=by rfl):PE X (.Call (.Name x p) (e::es) [] pos) (tCB r t):=by
 intro pins s σ H Q I h;refine wpAny_Call_Name_kw (eD I hg hm hv ?_ hn hdb);exact PyProof.Rows.callWith_type1 (thn (ha pos pins s σ H _ I h) λus s1 ⟨vs,H1,I1,r1,q1⟩=>hc pins s1 σ H1 vs us Q I1 r1 q1) he hpl
end
end L2
namespace HT
open PySem PyProof.Rows
theorem EZ (A:Around) (s:Shared) (a:Int) (t:Tok) (c:Int) (u:Tok) (prog:Program) (w:World) (E:Value->Shared->Prop) (Q:Value->Shared->Prop) (h:Q (.bool (decide (a<c))) s) :
  wpAny (model prog w) A (richCompare .Lt (.int a t) (.int c u)) Q E s:=
 (PyProof.Rows.lt_int h:wpAny (model prog w) A (compareOp .Lt (.int a t) (.int c u)) Q E s)
section
open PySem.SeqAt
open PySem.AutoSeq1 (wpAny_loadPart')
open PySem.MeetsSeq PySem.MeetsSeq2 PySem.MeetsSeq3
end
section
variable {prog:Program}{w:World}{A:Around}{E:Value->Shared->Prop}{s:Shared}
def sIx (n d:Nat):Option Int->Nat
 | none=>d
 | some v=>if v<0 then (v+(n:Int)).toNat else min v.toNat n
theorem yg (n d:Nat):sIx n d none=d:=rfl
theorem wN (n d k:Nat):sIx n d (some (k:Int))=min k n:=by
 show (if (k:Int)<0 then ((k:Int)+(n:Int)).toNat else min (k:Int).toNat n)=min k n;rw [if_neg (by lia),Int.toNat_natCast]
end
end HT
namespace L2
open PySem PySem.Spec PyProof.Rows
abbrev TO:=St->Hp->(Option Int->Hp->Prop)->Prop
def PO (X:Cx) (e:Option Expr) (t:TO):Prop:=
 ∀ (pins:List (Addr×Obj)) (s:Shared) (σ:St) (H:Hp) (Q:Option Int->Hp->Prop),Inv X pins σ H s->t σ H Q ->
  wpAny (model X.prog X.w) X.A (evalPart e X.env) (λu s'=>∃ o H',Inv X pins σ H' s'/\IsPart u o/\Q o H') X.xe s
def Hn:TO:=λ_ H Q=>Q none H
def Fi (t:TE):TO:=λσ H Q=>t σ H λx H1=>∃ i,x = .int i/\Q (some i) H1
section
variable {X:Cx}{e:Expr}{te:TE}{lo hi:Option Expr}{tl th:TO}{pos p2:Pos}
theorem gF:PO X none Hn:=by
 intro pins s σ H Q I h;rw [evalPart_none];exact wpAny_pure ⟨none,H,I,.none,h⟩
theorem eT (h:PE X e te):PO X (some e) (Fi te):=by
 intro pins s σ H Q I hw;rw [evalPart_some];refine thn (h pins s σ H _ I hw) λu s1 ⟨x,H1,I1,r1,q1⟩=>?_;obtain ⟨i,rfl,q⟩:=q1;obtain ⟨t,rfl⟩:=r1;exact ⟨some i,H1,I1,.int i t,q⟩
def SlR (X:Cx) (r:V->Option Int->Option Int->Hp->VK->Prop):Prop:=
 ∀ (pins:List (Addr×Obj)) (s:Shared) (σ:St) (H:Hp) (x:V) (v vl vu:Value) (lo hi:Option Int) (sl:Addr) (Q:VK),Inv X pins σ H s->RelV x v->s.heap.IsSliceOf sl vl vu .none->IsPart vl lo->IsPart vu hi->r x lo hi H Q ->
  ∃ T id,typeLookup (.type T) "__getitem__" = pure (some (.builtin id))/\s.TypeIs v T/\wpAny (model X.prog X.w) X.A (getItem v (.ref sl)) (EP X pins σ Q) X.xe s
def tSl (r:V->Option Int->Option Int->Hp->VK->Prop) (te:TE) (tl th:TO):TE:=λσ H Q=>te σ H λx H1=>tl σ H1 λl H2=>th σ H2 λu H3=>r x l u H3 Q
theorem dP {r:V->Option Int->Option Int->Hp->VK->Prop} (hr:SlR X r) (he:PE X e te) (hl:PO X lo tl) (hu:PO X hi th):PE X (.Subscript e (.Slice lo hi none p2) pos) (tSl r te tl th):=by
 intro pins s σ H Q I h;refine Subscript_ (thn (he pins s σ H _ I h) λv s1 ⟨x,H1,I1,r1,q1⟩=>?_);refine wpAny_Slice (thn (hl pins s1 σ H1 _ I1 q1) λvl s2 ⟨l,H2,I2,pl,q2⟩=>thn (hu pins s2 σ H2 _ I2 q2) λvu s3 ⟨u,H3,I3,pu,q3⟩=>?_);rw [evalPart_none];refine wpAny_pure ?_;have I4:Inv X pins σ H3 { s3 with heap:=s3.heap.push { cls:=.type "slice",data:=.fields #[vl,vu,.none] } }:=I3.kept (t':=s3.toks) λb ob q=>Heap.get?_push_of_some _ q;obtain ⟨T,id,hT,ht,hg⟩:=hr pins { s3 with heap:=s3.heap.push { cls:=.type "slice",data:=.fields #[vl,vu,.none] } } σ H3 x v vl vu l u s3.heap.objs.size Q I4 r1 (Heap.IsSliceOf.new ..) pl pu q3;show wpAny (model X.prog X.w) X.A (subscriptTail e (.Slice lo hi none p2) v (.ref s3.heap.objs.size)) (EP X pins σ Q) X.xe { s3 with heap:=s3.heap.push { cls:=.type "slice",data:=.fields #[vl,vu,.none] } };exact tail_any (ops:=[.ref s3.heap.objs.size,v]) ht hT hg (by with_unfolding_all rfl)
def jD (xs:List V) (lo hi:Option Int):List V:=(xs.drop (HT.sIx xs.length 0 lo)).take (HT.sIx xs.length xs.length hi - HT.sIx xs.length 0 lo)
theorem y7 (xs:List V) (lo hi:Option Int):(jD xs lo hi).length<=xs.length:=by
 unfold jD;rw [N7,List.length_drop];lia
end
def ixN (n:Nat) (i:Int):Option Nat:=if 0<=i then (if i<n then some i.toNat else none) else if -(n:Int)<=i then some (i+n).toNat else none
def atI {α:Type} (xs:List α) (i:Int):Option α:=(ixN xs.length i).bind λj=>xs[j]?
theorem Bf {n:Nat}{i:Int}{j:Nat} (h:ixN n i=some j):seqIndex? i n=some j/\j<n /\ -(n:Int)<=i/\i<n:=by
 unfold ixN at h;by_cases h0:0<=i
 ·rw [if_pos h0] at h;by_cases h1:i<n
  ·rw [if_pos h1] at h;have e:i.toNat=j:=Option.some.inj h;exact ⟨by rw [seqIndex_of h0 h1,e],by lia,by lia,h1⟩
  ·rw [if_neg h1] at h;cases h
 ·rw [if_neg h0] at h;by_cases h1 : -(n:Int)<=i
  ·rw [if_pos h1] at h;have e:(i+n).toNat=j:=Option.some.inj h;exact ⟨by rw [seqIndex_neg (by lia) h1,e],by lia,h1,by lia⟩
  ·rw [if_neg h1] at h;cases h
theorem vY {α:Type}{xs:List α}{i:Int}{v:α} (h:atI xs i=some v):∃ j,seqIndex? i xs.length=some j/\xs[j]? = some v/\j<xs.length /\ -(xs.length:Int)<=i/\i<xs.length:=by
 unfold atI at h;cases e:ixN xs.length i with
 | none=>rw [e] at h;cases h
 | some j=>
  rw [e] at h;obtain ⟨h1,h2,h3,h4⟩:=Bf e;exact ⟨j,h1,h,h2,h3,h4⟩
theorem bA {α:Type}{xs:List α}{j:Nat}{v:α} (h:xs[j]? = some v):atI xs (j:Int)=some v:=by
 have hj:j<xs.length:=(List.getElem?_eq_some_iff.mp h).1;have e:ixN xs.length (j:Int)=some j:=by
  unfold ixN;rw [if_pos (by lia),if_pos (by lia)];simp
 unfold atI;rw [e];exact h
def By (b:Expr):Prop:=∀ o i,subscripted b false o i=operate [o,i] (getItem o i)
def IxR (X:Cx) (r:R2):Prop:=
 ∀ (value slice:Expr) (pins:List (Addr×Obj)) (s:Shared) (σ:St) (H:Hp) (x y:V) (v u:Value) (Q:VK),Inv X pins σ H s->RelV x v->RelV y u->r x y H Q ->
  subscripted slice false v u=operate [v,u] (getItem v u)->wpAny (model X.prog X.w) X.A (subscriptTail value slice v u) (EP X pins σ Q) X.xe s
def MtR (X:Cx) (id:String) (r:V->List V->Hp->VK->Prop):Prop:=
 ∀ (pins:List (Addr×Obj)) (s:Shared) (σ:St) (H:Hp) (x:V) (xs:List V) (v:Value) (us:List Value) (Q:VK),Inv X pins σ H s->RelV x v->aV xs us->r x xs H Q ->
  wpAny (model X.prog X.w) X.A (call (.builtin id) (v::us)) (EP X pins σ Q) X.xe s
section
variable {X:Cx}{a b:Expr}{ta tb:TE}{pos:Pos}
theorem ba {r:R2} (hr:IxR X r) (ha:PE X a ta) (hb:PE X b tb) (hs:By b):PE X (.Subscript a b pos) (tOp r ta tb):=by
 intro pins s σ H Q I h;exact Subscript_ (Iu ha hb I h λv u s2 x y H2 I2 rx ry q=>hr a b pins s2 σ H2 x y v u Q I2 rx ry q (hs _ _))
def c9 (K:PySem.W.Frag):R2:=λx y H Q=>∃ p xs i v,x = .ref p/\y = .int i/\SqL K H p xs/\atI xs i=some v/\Q v H
def jg (K:PySem.W.Frag):R2:=λx y H Q=>∃ p xs i v,x = .ref p/\y = .int i/\SqT K H p xs/\atI xs i=some v/\Q v H
def Mu:R2:=λx y H Q=>∃ z i c,x = .str z/\y = .int i/\z.length<=sizeLine/\atI z.cps.toList i=some c/\Q (.str ⟨#[c]⟩) H
theorem aX:IxR X (c9 X.K):=by
 intro value slice pins s σ H x y v u Q I rx ry h hs;obtain ⟨p,xs,i,z,rfl,rfl,hq,he,q⟩:=h;cases rx;obtain ⟨t,rfl⟩:=ry;obtain ⟨its,r,pl,hz⟩:=I.list hq;obtain ⟨j,h1,h2,h3,h4,h5⟩:=vY he;obtain ⟨w,ew,rw'⟩:=r.get h2;have hl:=r.length;have hn:=nu;have fin:EP X pins σ Q w s:=⟨z,H,I,rw',q⟩;by_cases h0:0<=i
 ·have hj:i.toNat=j:=by
   rw [seqIndex_of h0 h5] at h1;exact Option.some.inj h1
  exact item_listR pl.isList h0 (by lia) (by rw [hj];simpa using ew) fin hs
 ·have hj:(i+(its.toArray.size:Int)).toNat=j:=by
   rw [seqIndex_neg (by lia) h4] at h1;rw [Ob,<-hl];exact Option.some.inj h1
  exact subscriptTail_builtinR (x:=w) pl.isList.typeIs slot_list_getitem.lookup
   (wpAny_getItem_list_neg (Q:=λr s'=>r=w/\EP X pins σ Q r s') pl.isList (by lia) (by rw [Ob] <;> lia) (by lia) (by rw [hj];simpa using ew) ⟨rfl,fin⟩) hs
theorem cK:IxR X (jg X.K):=by
 intro value slice pins s σ H x y v u Q I rx ry h hs;obtain ⟨p,xs,i,z,rfl,rfl,hq,he,q⟩:=h;cases rx;obtain ⟨t,rfl⟩:=ry;obtain ⟨its,r,pl,hz⟩:=I.tuple hq;obtain ⟨j,h1,h2,h3,h4,h5⟩:=vY he;obtain ⟨w,ew,rw'⟩:=r.get h2;have hl:=r.length;have hn:=nu;have fin:EP X pins σ Q w s:=⟨z,H,I,rw',q⟩;exact subscriptTail_builtinR (x:=w) pl.typeIs slot_tuple_getitem.lookup
  (getItem_tuple (j:=j) (Q:=λr s'=>r=w/\EP X pins σ Q r s') pl (by lia) (by lia) (by rw [Ob,<-hl];exact h1) (by simpa using ew) ⟨rfl,fin⟩) hs
theorem C3:IxR X Mu:=by
 intro value slice pins s σ H x y v u Q I rx ry h hs;obtain ⟨z,i,c,rfl,rfl,hz,he,q⟩:=h;obtain ⟨t,rfl⟩:=rx;obtain ⟨t',rfl⟩:=ry;obtain ⟨j,h1,h2,h3,h4,h5⟩:=vY he;have hl:z.cps.toList.length=z.length:=by simp [Str.length]
 rw [hl] at h1 h4 h5;have hn:=nu;exact tail_any (typeIs_str s z t) slot_str_getitem.lookup (getItem_str (c:=c) (by
  have e1:decide (i < -(2 ^ 63:Int))=false:=decide_eq_false (by lia);have e2:decide (i ≥ 2 ^ 63)=false:=decide_eq_false (by lia);rw [e1,e2,Bool.or_false]) (by rw [h1];simpa using h2) ⟨.str ⟨#[c]⟩,H,I.tok _,⟨_,rfl⟩,q⟩) hs
theorem zZ (its:List Value) (n j:Nat) (u:Value):Obj.mapSeq (·.setIfInBounds j u) { cls:=.type "list",data:=.seq its.toArray n }={ cls:=.type "list",data:=.seq (its.set j u).toArray n }:=by
 simp [Obj.mapSeq]
theorem Inv.lst {pins:List (Addr×Obj)}{σ:St}{H:Hp}{s:Shared}{p:Addr}{xs:List V} (I:Inv X pins σ H s) (h:H p=some (.lst xs)) :
  ∃ (its:List Value) (n:Nat),aV xs its/\s.heap.get? p=some { cls:=.type "list",data:=.seq its.toArray n }/\xs.length<=sizeLine:=by
 obtain ⟨z,its,n,r,e⟩:=I.hok p _ h;exact ⟨its,n,r,e,z⟩
theorem Inv.Iw {pins:List (Addr×Obj)}{σ:St}{H:Hp}{s:Shared}{p:Addr}{xs ys:List V}{its m7:List Value}{n n':Nat}{f:Obj->Obj} (I:Inv X pins σ H s) (h:H p=some (.lst xs))
  (ho:s.heap.get? p=some { cls:=.type "list",data:=.seq its.toArray n }) (hf:f { cls:=.type "list",data:=.seq its.toArray n }={ cls:=.type "list",data:=.seq m7.toArray n' }) (r:aV ys m7) (hz:ys.length<=sizeLine) (t:Nat) :
  Inv X pins σ (upd H p (.lst ys)) { s with heap:=s.heap.update p f,toks:=t }:=by
 have e:(s.heap.update p f).get? p=some { cls:=.type "list",data:=.seq m7.toArray n' }:=by
  rw [Heap.get?_update_self f ho (by rw [hf] <;> rfl),hf]
 refine I.write (x:=p) (e:=p) (by rw [h];trivial) (.inl rfl) (λb u hb q=>(Heap.get?_update_other _ _ (Ne.symm hb)).trans q) ⟨_,e⟩ ?_;exact ⟨hz,m7,n',r,e⟩
def Kq:V->V->V->Hp->(Hp->Prop)->Prop:=λo i v H Q=>∃ p xs k j,o = .ref p/\i = .int k/\H p=some (.lst xs)/\ixN xs.length k=some j/\Q (upd H p (.lst (xs.set j v)))
theorem set_list:Ky X Kq:=by
 intro pins s σ H o i v ov iv u Q I ro ri rv h;obtain ⟨p,xs,k,j,rfl,rfl,hp,hj,q⟩:=h;cases ro;obtain ⟨t,rfl⟩:=ri;obtain ⟨its,n,r,ho,hz⟩:=I.lst hp;obtain ⟨h1,h2,h3,h4⟩:=Bf hj;have hl:=r.length;have hn:=nu;have I':Inv X pins σ (upd H p (.lst (xs.set j v))) { s with heap:=s.heap.update p (Obj.mapSeq (·.setIfInBounds j u)) }:=
  I.Iw hp ho (zZ its n j u) (r.set rv j) (by rw [List.length_set];exact hz) s.toks
 by_cases h0:0<=k
 ·have hk:k.toNat=j:=by
   rw [seqIndex_of h0 h4] at h1;exact Option.some.inj h1
  exact PySem.W.ki_setAt ho h0 (by lia) (by rw [Ob,<-hl];exact h4) (by rw [hk];exact ⟨_,I',q⟩)
 ·have hk:(k+(its.toArray.size:Int)).toNat=j:=by
   rw [seqIndex_neg (by lia) h3] at h1;rw [Ob,<-hl];exact Option.some.inj h1
  exact PySem.W.ki_setBack ho (by lia) (by rw [Ob,<-hl];exact h3) (by lia) (by rw [hk];exact ⟨_,I',q⟩)
theorem wk (lo hi:Option Int) (n:Nat):(sliceBounds lo hi none n).1=((HT.sIx n 0 lo:Nat):Int)/\(sliceBounds lo hi none n).2.1=((HT.sIx n n hi:Nat):Int)/\(sliceBounds lo hi none n).2.2=1:=by
 refine ⟨?_,?_,rfl⟩
 ·cases lo with
  | none=>simp [sliceBounds,HT.sIx]
  | some i=>
   simp only [sliceBounds,HT.sIx,Option.getD_none,show (1:Int) > 0 by decide,if_true];by_cases h:i<0
   ·simp only [h,if_true] <;> lia
   ·simp only [h,if_false] <;> lia
 ·cases hi with
  | none=>simp [sliceBounds,HT.sIx]
  | some i=>
   simp only [sliceBounds,HT.sIx,Option.getD_none,show (1:Int) > 0 by decide,if_true];by_cases h:i<0
   ·simp only [h,if_true] <;> lia
   ·simp only [h,if_false] <;> lia
theorem uu (its:List Value) (lo hi:Option Int):slicePick its.toArray lo hi none=((its.drop (HT.sIx its.length 0 lo)).take (HT.sIx its.length its.length hi - HT.sIx its.length 0 lo)).toArray:=by
 obtain ⟨h1,h2,h3⟩:=wk lo hi its.toArray.size;unfold slicePick;rw [h1,h2,h3];simp only [sliceRange_one,pick_run,Ob] <;> rfl
def uz (K:PySem.W.Frag):V->Option Int->Option Int->Hp->VK->Prop:=λx lo hi H Q=>∃ a xs,x = .ref a/\SqL K H a xs/\∀ p,H p=none->Q (.ref p) (upd H p (.lst (jD xs lo hi)))
theorem gB:SlR X (uz X.K):=by
 intro pins s σ H x v vl vu lo hi sl Q I rx hs pl pu h;obtain ⟨a,xs,rfl,hx,q⟩:=h;cases rx;obtain ⟨its,r,ht,hz⟩:=I.list hx;have hlen:=r.length;refine ⟨"list",_,slot_list_getitem.lookup,ht.isList.typeIs,?_⟩;refine wpAny_getItem_list_slice ht.isList hs pl pu .none (by simp) ?_ (by rw [Ob] <;> lia);rw [uu,<-hlen];refine ⟨.ref s.heap.objs.size,_,I.laid (t':=s.toks) (o:=.lst (jD xs lo hi)) (λb ob q=>Heap.get?_push_of_some _ q) (NX _) ?_,rfl,q _ (I.hok.fresh (NX _))⟩;exact ⟨N2 (y7 xs lo hi) hz,_,0,(r.drop (HT.sIx xs.length 0 lo)).take (HT.sIx xs.length xs.length hi - HT.sIx xs.length 0 lo),Heap.get?_push_size _ rfl⟩
def gy:V->Bool
 | .non=>true
 | .bl _=>true
 | .int _=>true
 | .str _=>true
 | _=>false
def eqV:V->V->Bool
 | .non,.non=>true
 | .bl a,.bl b=>a == b
 | .bl a,.int b=>(if a then 1 else 0) == b
 | .int a,.bl b=>a == (if b then 1 else 0)
 | .int a,.int b=>a == b
 | .str a,.str b=>a == b
 | _,_=>false
theorem FH {A:Around}{s:Shared}{y x:V}{u v:Value} (ry:RelV y u) (rx:RelV x v) (fy:gy y=true) (fx:gy x=true):SeqAt.EqAt A s u v (eqV y x):=by
 cases y with
 | non=>
  cases ry;cases x with
  | non=>cases rx;exact SeqAt.EqAt.same _
  | bl b=>cases rx;exact SeqAt.EqAt.none_bool b
  | int b=>obtain ⟨t,rfl⟩:=rx;exact SeqAt.EqAt.none_int b t
  | str b=>obtain ⟨t,rfl⟩:=rx;exact SeqAt.EqAt.none_str b t
  | _=>exact absurd (show false=true from fx) N6
 | bl a=>
  cases ry;cases x with
  | non=>cases rx;exact SeqAt.EqAt.bool_none a
  | bl b=>cases rx;exact SeqAt.EqAt.bool_bool a b
  | int b=>obtain ⟨t,rfl⟩:=rx;exact SeqAt.EqAt.bool_int a b t
  | str b=>obtain ⟨t,rfl⟩:=rx;exact SeqAt.EqAt.bool_str a b t
  | _=>exact absurd (show false=true from fx) N6
 | int a=>
  obtain ⟨t',rfl⟩:=ry;cases x with
  | non=>cases rx;exact SeqAt.EqAt.int_none a t'
  | bl b=>cases rx;exact SeqAt.EqAt.int_bool a t' b
  | int b=>obtain ⟨t,rfl⟩:=rx;exact SeqAt.EqAt.int_int a t' b t
  | str b=>obtain ⟨t,rfl⟩:=rx;exact SeqAt.EqAt.int_str a t' b t
  | _=>exact absurd (show false=true from fx) N6
 | str a=>
  obtain ⟨t',rfl⟩:=ry;cases x with
  | non=>cases rx;exact SeqAt.EqAt.str_none a t'
  | bl b=>cases rx;exact SeqAt.EqAt.str_bool a t' b
  | int b=>obtain ⟨t,rfl⟩:=rx;exact SeqAt.EqAt.str_int a t' b t
  | str b=>obtain ⟨t,rfl⟩:=rx;exact SeqAt.EqAt.str_str a t' b t
  | _=>exact absurd (show false=true from fx) N6
 | _=>exact absurd (show false=true from fy) N6
def eqU (x:V) (u:Value):Bool:=match u with
 | .none=>eqV .non x
 | .bool b=>eqV (.bl b) x
 | .int i _=>eqV (.int i) x
 | .str z _=>eqV (.str z) x
 | _=>false
theorem zo {x y:V}{u:Value} (r:RelV y u) (f:gy y=true):eqU x u=eqV y x:=by
 cases y with
 | non=>cases r;rfl
 | bl b=>cases r;rfl
 | int i=>obtain ⟨t,rfl⟩:=r;rfl
 | str z=>obtain ⟨t,rfl⟩:=r;rfl
 | _=>exact absurd (show false=true from f) N6
theorem nZ {x:V}:∀ {xs:List V}{us:List Value},aV xs us->xs.all gy=true->us.any (eqU x)=xs.any λy=>eqV y x
 | _,_,.nil,_=>rfl
 | y::xs,u::us,.cons r t,f=>by
  rw [List.all_cons,Oa] at f;rw [List.any_cons,List.any_cons,zo r f.1,nZ t f.2]
theorem jJ {A:Around}{s:Shared}{x:V}{v:Value} (rx:RelV x v) (fx:gy x=true):∀ {xs:List V}{us:List Value},aV xs us->xs.all gy=true->∀ u∈us,SeqAt.EqAt A s u v (eqU x u)
 | _,_,.nil,_=>λu hu=>by cases hu
 | y::xs,u::us,.cons r t,f=>λu' hu=>by
  rw [List.all_cons,Oa] at f;rcases List.mem_cons.mp hu with rfl | hu
  ·rw [zo r f.1];exact FH r rx f.1 fx
  ·exact jJ rx fx t f.2 u' hu
def inV (x:V) (xs:List V):Bool:=xs.any λy=>eqV y x
def rIn (K:PySem.W.Frag) (neg:Bool):R2:=λx y H Q=>∃ p xs,y = .ref p/\(SqL K H p xs\/SqT K H p xs)/\gy x=true/\xs.all gy=true/\Q (.bl (if neg then !inV x xs else inV x xs)) H
theorem pW:OpR X (compareOp .In) (rIn X.K false):=by
 intro pins s σ H x y v u Q I rx ry h;obtain ⟨p,xs,rfl,hq,fx,fs,q⟩:=h;cases ry;rcases hq with hq | hq
 ·obtain ⟨its,r,pl,hz⟩:=I.list hq;refine SeqAt.in_listAt (eqU x) pl.isList (λw hw=>jJ rx fx r fs w (by simpa using hw)) ⟨.bl _,H,I,rfl,?_⟩;rw [show its.toArray.any (eqU x)=its.any (eqU x) by simp,nZ r fs];exact q
 ·obtain ⟨its,r,pl,hz⟩:=I.tuple hq;refine SeqAt.in_tupleAt (eqU x) pl (λw hw=>jJ rx fx r fs w (by simpa using hw)) ⟨.bl _,H,I,rfl,?_⟩;rw [show its.toArray.any (eqU x)=its.any (eqU x) by simp,nZ r fs];exact q
theorem wz:OpR X (compareOp .NotIn) (rIn X.K true):=by
 intro pins s σ H x y v u Q I rx ry h;obtain ⟨p,xs,rfl,hq,fx,fs,q⟩:=h;cases ry;rcases hq with hq | hq
 ·obtain ⟨its,r,pl,hz⟩:=I.list hq;refine SeqAt.notIn_listAt (eqU x) pl.isList (λw hw=>jJ rx fx r fs w (by simpa using hw)) ⟨.bl _,H,I,rfl,?_⟩;rw [show its.toArray.any (eqU x)=its.any (eqU x) by simp,nZ r fs];exact q
 ·obtain ⟨its,r,pl,hz⟩:=I.tuple hq;refine SeqAt.notIn_tupleAt (eqU x) pl (λw hw=>jJ rx fx r fs w (by simpa using hw)) ⟨.bl _,H,I,rfl,?_⟩;rw [show its.toArray.any (eqU x)=its.any (eqU x) by simp,nZ r fs];exact q
theorem xc:mO X (.builtin "len") (λxs H Q=>∃ p ys,xs=[.ref p]/\(SqL X.K H p ys\/SqT X.K H p ys)/\Q (.int ys.length) H):=by
 intro pins s σ H xs us Q I r h;obtain ⟨p,ys,rfl,hq,q⟩:=h;obtain ⟨u,rfl,rx⟩:=vals1 r;cases rx;have hn:=nu;rcases hq with hq | hq
 ·obtain ⟨its,r',pl,hz⟩:=I.list hq;have hlen:=r'.length;exact Calls.call_len_list pl.isList (by simp only [Ob] <;> lia) ⟨.int ys.length,H,I.tok _,⟨s.toks+1,by rw [Ob,hlen]⟩,q⟩
 ·obtain ⟨its,r',pl,hz⟩:=I.tuple hq;have hlen:=r'.length;exact len_tuple pl (by simp only [Ob] <;> lia) ⟨.int ys.length,H,I.tok _,⟨s.toks+1,by rw [Ob,hlen]⟩,q⟩
theorem oR:mO X (.builtin "len") (λxs H Q=>∃ z,xs=[.str z]/\z.length<=sizeLine/\Q (.int z.length) H):=by
 intro pins s σ H xs us Q I r h;obtain ⟨z,rfl,hz,q⟩:=h;obtain ⟨u,rfl,t,rfl⟩:=vals1 r;have hn:=nu;exact len_str (by lia) ⟨.int z.length,H,I.tok _,⟨_,rfl⟩,q⟩
theorem wX:mO X (.type "list") (λxs H Q=>∃ p ys,xs=[.ref p]/\(SqL X.K H p ys\/SqT X.K H p ys)/\∀ l,H l=none->Q (.ref l) (upd H l (.lst ys))):=by
 intro pins s σ H xs us Q I r h;obtain ⟨p,ys,rfl,hq,q⟩:=h;obtain ⟨u,rfl,rx⟩:=vals1 r;cases rx;have fin:∀ (its:List Value),aV ys its->ys.length<=sizeLine->∀ (h':Heap) (c':Nat),(∀ b o',s.heap.get? b=some o'->h'.get? b=some o') ->
   h'.get? s.heap.objs.size=some { cls:=.type "list",dict:=none,data:=.seq its.toArray c',slots:=#[] }->EP X pins σ Q (.ref s.heap.objs.size) { s with heap:=h' }:=λits r' hz h' c' kp e=>
  ⟨.ref s.heap.objs.size,_,I.laid (t':=s.toks) kp (NX _) (show cm X.prog X.w _ h' _ (.lst ys) from ⟨hz,its,c',r',e⟩),rfl,q _ (I.hok.fresh (NX _))⟩
 rcases hq with hq | hq
 ·obtain ⟨its,r',pl,hz⟩:=I.list hq;have hlen:=r'.length;obtain ⟨o,ho,hc,n,hd⟩:=pl.isList;exact call_list_seq p (.inl rfl) ho hc hd (λh' c' kp e=>fin its r' hz h' c' kp e) (by simp only [Ob] <;> lia)
 ·obtain ⟨its,r',pl,hz⟩:=I.tuple hq;have hlen:=r'.length;obtain ⟨o,ho,hc,n,hd⟩:=pl;exact call_list_seq p (.inr rfl) ho hc hd (λh' c' kp e=>fin its r' hz h' c' kp e) (by simp only [Ob] <;> lia)
def tyV (K:PySem.W.Frag) (T:String) (x:V) (H:Hp):Prop:=match x with
 | .str _=>T = "str"
 | .int _=>T = "int"
 | .ref p=>(T = "list" /\ ∃ xs,SqL K H p xs)\/(T = "tuple" /\ ∃ o,K.lookup p=some o/\o.cls = .type "tuple" /\ o.dict=none) \/
   (T = "dict" /\ ((∃ kvs,H p=some (.dK kvs))\/∃ kvs,H p=some (.dT kvs)))\/(T = "set" /\ ∃ S n,H p=some (.set S n))
 | _=>False
theorem IV {pins:List (Addr×Obj)}{σ:St}{H:Hp}{s:Shared}{T:String}{x:V}{v:Value} (I:Inv X pins σ H s) (r:RelV x v) (ty:tyV X.K T x H) :
  s.TypeIs v T/\∀ a,v = .ref a->∃ ob,s.heap.get? a=some ob/\ob.dict=none:=by
 cases x with
 | str z=>
  obtain ⟨t,rfl⟩:=r;cases (show T = "str" from ty);exact ⟨typeIs_str s z t,λ_ e=>nomatch e⟩
 | int i=>
  obtain ⟨t,rfl⟩:=r;cases (show T = "int" from ty);exact ⟨typeIs_int s i t,λ_ e=>nomatch e⟩
 | ref p=>
  cases r;rcases ty with ⟨rfl,xs,hq⟩ | ⟨rfl,o,hk,hc,hd⟩ | ⟨rfl,hk⟩ | ⟨rfl,S,n,hk⟩
  ·obtain ⟨its,_,pl,_⟩:=I.list hq;refine ⟨pl.isList.typeIs,λa e=>?_⟩;cases e;obtain ⟨o,n,e,c,hd,_⟩:=pl;exact ⟨o,e,hd⟩
  ·refine ⟨⟨o,I.kIn p o hk,hc⟩,λa e=>?_⟩;cases e;exact ⟨o,I.kIn _ o hk,hd⟩
  ·have z:∃ o,s.heap.get? p=some o/\o.ExactDict:=by
    rcases hk with ⟨kvs,hk⟩ | ⟨kvs,hk⟩
    ·obtain ⟨_,_,_,_,o,_,_,e,ex,_⟩:=I.hok p _ hk;exact ⟨o,e,ex⟩
    ·obtain ⟨_,_,_,_,o,_,_,e,ex,_⟩:=I.hok p _ hk;exact ⟨o,e,ex⟩
   obtain ⟨o,e,ex⟩:=z;refine ⟨⟨o,e,ex.1⟩,λa e2=>?_⟩;cases e2;exact ⟨o,e,ex.2.1⟩
  ·obtain ⟨o,_,_,_,e,ex,_⟩:=I.hok p _ hk;refine ⟨⟨o,e,ex.1⟩,λa e2=>?_⟩;cases e2;exact ⟨o,e,ex.2.1⟩
 | _=>exact False.elim ty
def tBM (K:PySem.W.Frag) (T:String) (r:V->List V->Hp->VK->Prop) (to:TE) (t:TA):TE:=λσ H Q=>to σ H λx H1=>tyV K T x H1/\t σ H1 λxs H2=>r x xs H2 Q
variable {o e:Expr}{es:List Expr}{to:TE}{t:TA}{name:Str}{apos cQ:Pos}{T id:String}{r:V->List V->Hp->VK->Prop}
theorem c5 (pa:PlainAttrs T) (slot:Slot T name id) (hty:typeOf (.builtin id)=pure (.type "method_descriptor")) (hm:MtR X id r) (ho:PE X o to) (ha:PA X (e::es) t)
  (tE:attributeBase o name X.env (eval o X.env)=eval o X.env:=by rfl)
  (Dr:((backTo cQ (starEach (e::es) X.env)).all (λx=>!x.1) && (backToKw cQ (keywordEach [] X.env)).all (λx=>x.1.isSome)
   && decide ((e::es).length+([]:List Keyword).length+(if ([]:List Keyword).isEmpty then 0 else 1)<30))=true:=by rfl)
  (sJ:(apos.endLine == cQ.line)=true:=by rfl) (hs:starEach (e::es) X.env=(false,eval e X.env)::starEach es X.env:=by rfl) (il:(backTo cQ (starEach es X.env)).any (·.1)=false:=by rfl) :
  PE X (.Call (.Attribute o name apos) (e::es) [] cQ) (tBM X.K T r to t):=by
 intro pins s σ H Q I h;refine wpAny_Call_method_late tE Dr sJ rfl (thn (ho pins s σ H _ I h) λv s1 ⟨x,H1,I1,r1,ty,q1⟩=>?_);obtain ⟨h1,h2⟩:=IV I1 r1 ty;refine ⟨T,id,pa,slot,hty,h1,h2,?_⟩;have hA:=ha cQ pins s1 σ H1 _ I1 q1;rw [hs] at hA ⊢;refine Calls.callWith_builtin (by show (false || (backTo cQ (starEach es X.env)).any (·.1))=false;rw [il] <;> rfl) (Calls.evalArgs_plain ?_)
 exact thn hA λus s2 ⟨vs,H2,I2,r2,q2⟩=>hm pins s2 σ H2 x vs v us Q I2 r1 r2 q2
end
def MtM (X:Cx) (id:String) (r:V->List V->Hp->VK->Prop):Prop:=
 ∀ (pins:List (Addr×Obj)) (s:Shared) (σ:St) (H:Hp) (x:V) (xs:List V) (v:Value) (us:List Value) (Q:VK),Inv X pins σ H s->RelV x v->aV xs us->r x xs H Q ->
  wpAny (model X.prog X.w) X.A (call (.builtin id) (v::us)) (EP X pins σ Q) X.xe s
theorem aV.one:∀ {x:V}{us:List Value},aV [x] us->∃ u,us=[u]/\RelV x u
 | _,_,.cons r .nil=>⟨_,rfl,r⟩
section
variable {X:Cx}{pins:List (Addr×Obj)}{σ:St}{H:Hp}{s:Shared}{l b:Addr}{xs ys zs:List V}
theorem Inv.Jb {its m7:List Value}{n:Nat}{f:Array Value->Array Value}{t':Nat} (I:Inv X pins σ H s) (hH:H l=some (.lst xs))
  (e:s.heap.get? l=some { cls:=.type "list",data:=.seq its.toArray n }) (hf:f its.toArray=m7.toArray) (hv:aV ys m7) (hz:ys.length<=sizeLine) :
  Inv X pins σ (upd H l (.lst ys)) { s with heap:=s.heap.update l (Obj.mapSeq f),toks:=t' }:=by
 have q:=PySem.IsL.update e f;rw [hf] at q;refine I.write (x:=l) (e:=l) (by rw [hH];exact trivial) (.inl rfl) (λb' u hb hu=>(Heap.get?_update_other s.heap (Obj.mapSeq f) (Ne.symm hb)).trans hu) ⟨_,q⟩ ?_;exact ⟨hz,m7,_,hv,q⟩
theorem Inv.Ms {its:List Value}{t':Nat} (I:Inv X pins σ H s) (hv:aV ys its) (hz:ys.length<=sizeLine) :
  Inv X pins σ (upd H s.heap.objs.size (.lst ys)) { s with heap:=s.heap.push { cls:=.type "list",data:=.seq its.toArray },toks:=t' }:=
 I.laid (λ_ _ q=>Heap.get?_push_of_some _ q) (NX _) ⟨hz,its,0,hv,Heap.get?_push_size _ rfl⟩
theorem Inv.fresh (I:Inv X pins σ H s):H s.heap.objs.size=none:=I.hok.fresh (NX _)
theorem Inv.G5 (I:Inv X pins σ H s) (hH:H l=some (.lst xs)):xs.length<=sizeLine/\∃ (its:List Value) (n:Nat),aV xs its/\xs.length=its.length/\s.heap.get? l=some { cls:=.type "list",data:=.seq its.toArray n }:=by
 obtain ⟨z,its,n,r,e⟩:=I.hok l _ hH;exact ⟨z,its,n,r,r.length,e⟩
theorem CZ {n:Nat} (h:n<=sizeLine):Builtin.List.listTooLong n=false:=by
 unfold Builtin.List.listTooLong;exact decide_eq_false (by lia)
end
section
variable {X:Cx}
def He:V->List V->Hp->VK->Prop:=λx vs H Q=>∃ l xs y,x = .ref l/\vs=[y]/\H l=some (.lst xs)/\xs.length<sizeLine/\Q .non (upd H l (.lst (xs++[y])))
theorem eM:MtM X "list.append" He:=by
 intro pins s σ H x vs v us Q I rx rv h;obtain ⟨l,xs,y,rfl,rfl,hH,hz,q⟩:=h;cases rx;obtain ⟨u,rfl,ru⟩:=rv.one;obtain ⟨z,its,n,r,hl,e⟩:=I.G5 hH;refine call_meets F.slot_list_append ⟨_,e,rfl⟩ F.entry_list_append (F.args_list_append_2 _ _) (PySem.list_append l its.toArray n u (by rw [Ob];lia)) ⟨e,?_⟩;refine ⟨.non,_,I.Jb (m7:=its++[u]) hH e (by simp) (r.append (.cons ru .nil)) ?_,rfl,q⟩;rw [List.length_append,List.length_singleton];lia
def Hy:V->List V->Hp->VK->Prop:=λx vs H Q=>∃ l b xs zs,x = .ref l/\vs=[.ref b]/\H l=some (.lst xs)/\H b=some (.lst zs)/\xs.length+zs.length<=sizeLine/\Q .non (upd H l (.lst (xs++zs)))
theorem vh:MtM X "list.extend" Hy:=by
 intro pins s σ H x vs v us Q I rx rv h;obtain ⟨l,b,xs,zs,rfl,rfl,hH,hB,hz,q⟩:=h;cases rx;obtain ⟨u,rfl,ru⟩:=rv.one;cases ru;obtain ⟨z,its,n,r,hl,e⟩:=I.G5 hH;obtain ⟨z2,iC,n2,r2,hl2,e2⟩:=I.G5 hB;have hsz:its.toArray.size+iC.toArray.size<=sizeLine:=by rw [Ob,Ob];lia
 have K0:¬ (!its.toArray.isEmpty && Builtin.List.listTooLong (its.toArray.size+iC.toArray.size))=true:=by
  rw [CZ hsz,Bool.and_false];exact N6
 refine call_meets F.slot_list_extend ⟨_,e,rfl⟩ F.entry_list_extend (F.args_list_extend_2 _ _)
  (AutoSeq1.list_extend_list_list_0 l its.toArray n b iC.toArray n2 K0 (by rw [Ob];lia) (by lia)) ⟨e,e2,?_⟩
 refine ⟨.non,_,I.Jb (m7:=its++iC) hH e (by simp) (r.append r2) ?_,rfl,q⟩;rw [List.length_append];lia
end
section
variable {prog:Program}{w:World}{A:Around}{E:Value->Shared->Prop}{s:Shared}
end
section
variable {X:Cx}
end
end L2
namespace Att
open PySem PySem.W PySem.Calls PyProof.Rows
theorem rC {P:Params}{h:Heap}:∀ (ns:List Int) (vs:List Value),WellAll P h vs (ns.map WData.int)->IntsAre vs ns:=by
 intro ns
 induction ns with
 | nil=>
  intro vs w;rw [List.map_nil] at w;cases w;exact .nil
 | cons n ns ih=>
  intro vs w;rw [Oc] at w;cases w with
  | cons a b=>
   cases a;exact .cons _ _ (ih _ b)
theorem Cg {l:OpenLaw}{n:Nat} (hn:l.most=some n) {P:Params}{h:Heap}{args:List WData}{vals:List Value}
  (F0:l.row.toRowW.claim.pre args=true) (hwl:WellAll P h vals args) :
  ∃ a vs ns,vals=[Value.ref a]/\args=[WData.list (ns.map WData.int)]/\h.get? a=some { cls:=.type "list",data:=.seq vs.toArray }/\IntsAre vs ns/\ns.length<=n:=by
 have hsh:WShape.hasAll [] args [.list .int]=true:=(pre_splitW F0).1;have hc:l.pre.holds [] { args:=args }=true:=(pre_splitW F0).2;obtain ⟨d,r,rfl,h1,h2⟩:=hasAllW_cons hsh;obtain rfl:=hasAllW_nil h2;obtain ⟨xs,rfl,h3⟩:=hasW_list h1;obtain ⟨ns,rfl⟩:=items_int h3;have hlen:ns.length<=n:=by
  unfold OpenLaw.pre at hc;have h4:(WTm.not (.lt (.lit (.int (n:Int))) (.len (.arg 0)))).holds [] { args:=[.list (ns.map .int)] }=true:=by
   have h4:=(holds_andW hc).1;rw [hn] at h4;exact h4
  have h5:=condW_of h4 (w_not (w_lt w_lit (w_len_list (w_arg rfl))));rw [NU] at h5;refine Nat.le_of_not_lt λq=>?_;have q':(n:Int)<((ns.length:Nat):Int):=by lia
  first
   | (rw [decide_eq_true q'] at h5;exact absurd h5 (by decide))
   | (simp at h5;lia)
 cases hwl with
 | cons w1 w2=>
  cases w2;cases w1 with
  | list ho fc=>exact ⟨_,_,ns,rfl,rfl,ho,rC ns _ fc,hlen⟩
theorem B5 (l:OpenLaw) (args:List WData):l.row.toRowW.claim.post args (.bool true) args=true:=
 postW_of (r:=l.row.toRowW) (X:=(true == true))
  (show WShape.has [] (.bool true) .bool=true by first | rfl | decide | simp [WShape.has,WShape.arms,WShape.armsAll])
  (show (WTm.eq .res (.lit (.bool true))).value [] { args:=args,res:=some (.bool true),after:=args }=some (.bool (true == true)) from w_eq_bool (w_res rfl) w_lit) rfl
theorem xV {l:OpenLaw}{n:Nat}{q:Program}{loose:List Str}{XP:(Str->Option Value)->Heap->Prop}{YP:World->Heap->Prop}{d:DefRec}
  (hn:l.most=some n) (hdf:d.params.defaults=[])
  (call:∀ (w:World) (s₀ s₁:Shared) (mg mb:Str->Option Value) (fa:Addr) (o:Obj) (pm cd doc:Value) (a:Addr) (vs:List Value) (ns:List Int),
   Ground q loose [] XP w s₀ mg mb s₁.heap->YP w s₁.heap ->
   s₁.heap.get? fa=some o->o.data = .func (docDef d.name d.params d.body d.scope pm cd doc)->s₁.heap.CodeRec cd d.name->mg d.name=some (.ref fa) ->
   s₁.heap.get? a=some { cls:=.type "list",data:=.seq vs.toArray }->IntsAre vs ns->ns.length<=n->s₁.gens = #[] ->
   codeAny (model l.prog w) callerA (.call (.ref fa) ⟨[.ref a],[]⟩) (λr s'=>r = .ok (.ret (.bool true))/\OldK s₁.heap s'.heap/\s'.os=s₁.os/\AllBare s'.gens) s₁) :
  WalkO q loose XP YP l.row.toRowW d [] (λf vs=>PySem.call f vs):=by
 intro w s₀ s₁ mg mb G Y fa o pm cd doc dV kV ho hd hcd hD hmg hg args vals as F0 NS hrd hwl hlo;obtain rfl:dV = .none:=Dflts.none hD hdf;obtain rfl:kV = .none:=Dflts.noKw hD;obtain ⟨a,vs,ns,rfl,rfl,JI,Dg,hlen⟩:=Cg hn F0 hwl;refine enter_call (codeAny_mono (call w s₀ s₁ mg mb fa o pm cd doc a vs ns G Y ho (fd_plain hd) hcd hmg JI Dg hlen hg) λr s' hq=>?_);obtain ⟨rfl,h2,h3,h4⟩:=hq;exact ⟨.inl ⟨.bool true,.bool true,[],rfl,λ_=>rfl,.bool true,B5 l _,λ_=>⟨List.Pairwise.nil,λ_ hm=>(nomatch hm)⟩⟩,h2,h3,h4⟩
section
variable {prog:Program}{w:World}{A:Around}{E:Value->Shared->Prop}{s:Shared}{K:Frag}
end
end Att
namespace L2
open PySem PySem.Spec PyProof.Rows
theorem uI:∀ {vs:List Value}{ns:List Int},IntsAre vs ns->aV (ns.map V.int) vs
 | _,_,.nil=>.nil
 | _,_,.cons n t h=>.cons ⟨t,rfl⟩ (uI h)
abbrev CX0:CXT:=λ_ _ _ _ _ _=>False
abbrev E0:XK:=λ_ _ _=>False
theorem av {X:Cx}:w6 CX0 X E0:=λ_ _ _ _ _ _ _ h=>h.elim
structure Fun (K:PySem.W.Frag) (x qual:Str) (st:Stmt) (f:Addr) (fd:FuncData):Prop where
 ex:∃ (oc:Value) (od:Option Addr) (kV doc pm:Value) (an:Option Addr) (cdv ct:Value) (osl:Array (Option Value)),
  fd=PySem.W.fnOf x qual (eZ st) (cT st) (ag st) .none kV doc pm an cdv ct/\K.lookup f=some ⟨oc,od,.func fd,osl⟩/\PySem.W.codeIn K cdv qual=true
 kp:PySem.W.keepIn K (.ref f)=true
section
variable {P:Program}{w:World}{K:PySem.W.Frag}{mg:Str->Option Value}{base:Heap}
theorem Fun.ok {x qual:Str}{st:Stmt}{f:Addr}{fd:FuncData}{N ps:List Str}{k:Nat}{sp:Sp} (F:Fun K x qual st f fd) (S:aA N ps (ag st)) (len:∀ vs H Q E,sp vs H Q E->vs.length=ps.length)
  (jy:∀ (cdv:Value) (A:Around) (outer:List Env) (s:Shared) (H:Hp) (vs:List V) (Q:VK) (E:XK),cC k (A.deeper (envOfC qual (ag st) s.heap.objs.size f cdv))->sp vs H Q E ->
   ∃ t,PSs (xB CX0 P w K mg base N qual (ag st) f cdv A outer s H E).nox (cT st) t/\t { nx:=λ_ H'=>Q .non H',rt:=Q } (start N vs) H):au P w K mg base CX0 (k+1) f fd ps sp:=by
 obtain ⟨oc,od,kV,doc,pm,an,cdv,ct,osl,rfl,lk,hcd⟩:=F.ex;refine Eg lk hcd S len λA outer s H vs Q E hr hsp=>?_;obtain ⟨t,h,q⟩:=jy cdv A outer s H vs Q E hr hsp;exact ⟨t,h.nox,q⟩
theorem Fun.binds {x qual:Str}{st:Stmt}{f:Addr}{fd:FuncData}{ps:List Str} (F:Fun K x qual st f fd)
  (h:∀ (kV doc pm:Value) (an:Option Addr) (cdv ct:Value) (us:List Value),us.length=ps.length->bindArgs (PySem.W.fnOf x qual (eZ st) (cT st) (ag st) .none kV doc pm an cdv ct) ⟨us,[]⟩=pure (ps.zip us)):Binds K fd ps []:=by
 obtain ⟨oc,od,kV,doc,pm,an,cdv,ct,osl,rfl,lk,hcd⟩:=F.ex;exact .all (h kV doc pm an cdv ct)
theorem EW {x qual:Str}{st:Stmt}{f:Addr}{oc:Value}{od an:Option Addr}{osl:Array (Option Value)}{kV doc pm cdv ct:Value} (l:K.lookup f=some ⟨oc,od,.func (PySem.W.fnOf x qual (eZ st) (cT st) (ag st) .none kV doc pm an cdv ct),osl⟩)
  (c:PySem.W.codeIn K cdv qual=true) (k:PySem.W.keepIn K (.ref f)=true):Fun K x qual st f (PySem.W.fnOf x qual (eZ st) (cT st) (ag st) .none kV doc pm an cdv ct):=⟨⟨oc,od,kV,doc,pm,an,cdv,ct,osl,rfl,l,c⟩,k⟩
end
section
variable {X:Cx}
theorem pv (i:Nat) {x:Str}{pos:Pos} (hN:X.N[i]? = some x:=by rfl) (hv:Vis X.env.scope x:=by first | exact Or.inl rfl | exact Or.inr (Or.inl rfl) | exact Or.inr (Or.inr rfl)) (hd:(x == ("__debug__" : Str))=false:=by decide)
  (hcd:(x == ("__classdict__" : Str))=false:=by decide):PE X (.Name x pos) (qb i):=Ih hN hv hd hcd
end
theorem bg {A B:Prop} (h:B):if false=true then A else B:=by
 rw [if_neg N6];exact h
theorem bF {A B:Prop} (h:A):if true=true then A else B:=by
 rw [if_pos rfl];exact h
theorem BI {c A B:Prop} [Decidable c] (h1:c->A) (h2:¬ c->B):if c then A else B:=by
 by_cases h:c
 ·rw [if_pos h];exact h1 h
 ·rw [if_neg h];exact h2 h
def af (H H':Hp):Prop:=∀ b o,H b=some o->H' b=some o
theorem af.refl (H:Hp):af H H:=λ_ _ h=>h
theorem af.trans {H H1 H2:Hp} (a:af H H1) (b:af H1 H2):af H H2:=λc o h=>b c o (a c o h)
theorem af.free {H H':Hp} (e:af H H') {l:Addr} (h:H' l=Option.none):H l=Option.none:=by
 cases q:H l with
 | none=>rfl
 | some o=>
  rw [e l o q] at h;cases h
theorem af.seq {K:PySem.W.Frag}{H H':Hp}{a:Addr}{xs:List V} (e:af H H') (h:SqL K H a xs):SqL K H' a xs:=by
 rcases h with (h | ⟨o,h⟩) | h
 ·exact .inl (.inl (e _ _ h))
 ·exact .inl (.inr ⟨o,e _ _ h⟩)
 ·exact .inr h
section
variable {κ:Type} [DecidableEq κ]
def jw (kvs:List (κ×V)) (k:κ):Option V:=(kvs.find? λkv=>decide (kv.1=k)).map (·.2)
def putK (kvs:List (κ×V)) (k:κ) (v:V):List (κ×V):=
 if (kvs.any λkv=>decide (kv.1=k))=true then kvs.map (λkv=>if kv.1=k then (kv.1,v) else kv) else kvs++[(k,v)]
theorem tY {p:κ×V}{r:List (κ×V)}{k:κ} (e:p.1=k):jw (p::r) k=some p.2:=by simp [jw,List.find?_cons,e]
theorem DD {p:κ×V}{r:List (κ×V)}{k:κ} (e:¬ p.1=k):jw (p::r) k=jw r k:=by simp [jw,List.find?_cons,e]
theorem xx (kvs:List (κ×V)) (k:κ) (v:V):(putK kvs k v).length<=kvs.length+1:=by
 unfold putK
 split
 ·rw [NU];lia
 ·rw [List.length_append,List.length_cons,List.length_nil];lia
theorem KV.val {kvs:List (κ×V)}{vs:List (κ×Value)} (r:KV kvs vs) (k:κ):BF (jw kvs k) (valueAt vs k):=by
 unfold KV at r
 induction r with
 | nil=>exact True.intro
 | @cons p q ps qs h t ih=>
  obtain ⟨h1,h2⟩:=h;by_cases e:p.1=k
  ·have e':q.1=k:=h1.symm.trans e;have b:valueAt (q::qs) k=some q.2:=by simp [valueAt,List.find?_cons,e']
   rw [tY e,b];exact h2
  ·have e':¬ q.1=k:=λz=>e (h1.trans z);have b:valueAt (q::qs) k=valueAt qs k:=by simp [valueAt,List.find?_cons,e']
   rw [DD e,b];exact ih
theorem KV.any {kvs:List (κ×V)}{vs:List (κ×Value)} (r:KV kvs vs) (k:κ):(kvs.any λkv=>decide (kv.1=k))=vs.any λkv=>decide (kv.1=k):=by
 unfold KV at r
 induction r with
 | nil=>rfl
 | cons h t ih=>rw [List.any_cons,List.any_cons,ih,h.1]
theorem KV.Ni {kvs:List (κ×V)}{vs:List (κ×Value)} (r:KV kvs vs) (k:κ) {y:V}{u:Value} (ry:RelV y u) :
  KV (kvs.map λkv=>if kv.1=k then (kv.1,y) else kv) (vs.map λkv=>if kv.1=k then (kv.1,u) else kv):=by
 unfold KV at r ⊢
 induction r with
 | nil=>exact .nil
 | @cons p q ps qs h t ih=>
  rw [Oc,Oc];refine .cons ?_ ih;obtain ⟨h1,h2⟩:=h;by_cases e:p.1=k
  ·rw [if_pos e,if_pos (h1.symm.trans e)];exact ⟨h1,ry⟩
  ·rw [if_neg e,if_neg (λz=>e (h1.trans z))];exact ⟨h1,h2⟩
theorem KV.put {kvs:List (κ×V)}{vs:List (κ×Value)} (r:KV kvs vs) (k:κ) {y:V}{u:Value} (ry:RelV y u):KV (putK kvs k y) (stored vs k u):=by
 unfold putK stored;rw [r.any k];by_cases e:(vs.any λkv=>decide (kv.1=k))=true
 ·rw [if_pos e,if_pos e];exact r.Ni k ry
 ·rw [if_neg e,if_neg e];exact Paired.snoc r ⟨rfl,ry⟩
theorem KV.length {kvs:List (κ×V)}{vs:List (κ×Value)} (r:KV kvs vs):kvs.length=vs.length:=Paired.length r
end
theorem HA {P:Program}{w:World}{k:Key}{u:Value} (r:RelV (kV k) u):(bf P w).is k u=true:=by
 cases k with
 | inl i=>obtain ⟨t,e⟩:=(show ∃ t,u=Value.int i t from r);subst e;exact yT P w i t
 | inr x=>obtain ⟨t,e⟩:=(show ∃ t,u=Value.str x t from r);subst e;exact iJ P w x t
theorem ve {P:Program}{w:World}:∀ {ks:List Key}{us:List Value},aV (ks.map kV) us->ItemsAre (bf P w) ks us
 | [],_,r=>by rw [List.map_nil] at r;cases r;exact .nil
 | k::ks,_,r=>by
  rw [Oc] at r;cases r with
  | cons h t=>exact .cons (HA h) (ve t)
abbrev KT (H:Hp):List (List Key×V)->List (List Key×Addr×Value)->Prop:=Paired λp q=>p.1=q.1/\H q.2.1=some (.tup (p.1.map kV))/\RelV p.2 q.2.2
section
variable {P:Program}{w:World}{H:Hp}{h:Heap}{a:Addr}
theorem HK {u:HO} (ok:HOk P w H h) (e:Rd H a u):cm P w H h a u:=e.ok ok
theorem Dw {kvs:List (Key×V)} (ok:HOk P w H h) (e:Rd H a (.dK kvs)):kvs.length<=sizeLine/\(a == sysModules)=false/\∃ vs,KV kvs vs/\h.DictOf (bf P w) a vs:=
 show cm P w H h a (.dK kvs) from HK ok e
theorem Li {kvs:List (Key×V)} (ok:HOk P w H h) (e:H a=some (.dK kvs)):kvs.length<=sizeLine/\(a == sysModules)=false/\∃ vs,KV kvs vs/\h.DictOf (bf P w) a vs:=Dw ok (.inl e)
theorem IW {ks:List Key} (ok:HOk P w H h) (e:H a=some (.tup (ks.map kV))):(tupleKind (bf P w)).is h ks a:=by
 obtain ⟨_,its,r,o,h1,h2,n,h3⟩:=(show cm P w H h a (.tup (ks.map kV)) from ok a _ e);exact ⟨o,its.toArray,n,h1,h2,h3,by simpa using ve r⟩
theorem Lq {kvs:List (List Key×V)} (ok:HOk P w H h) (e:Rd H a (.dT kvs)):kvs.length<=sizeLine/\(a == sysModules)=false /\
  ∃ xs,KT H kvs xs/\h.DictOfH (tupleKind (bf P w)) a xs:=by
 obtain ⟨z,y,xs,r,o,es,ep,h1,h2,h3,h4,h5⟩:=(show cm P w H h a (.dT kvs) from HK ok e);refine ⟨z,y,xs,r,o,es,ep,h1,h2,h3,h4,λx hx=>?_,h5⟩;have all:∀ {l:List (List Key×V)}{m:List (List Key×Addr×Value)},KT H l m->∀ x∈m,(tupleKind (bf P w)).is h x.1 x.2.1:=by
  intro l m q
  induction q with
  | nil=>intro x hx;exact nomatch hx
  | @cons p q ps qs hq t ih=>
   intro x hx;rcases List.mem_cons.mp hx with e | hx
   ·subst e;exact IW ok (by rw [<-hq.1];exact hq.2.1)
   ·exact ih x hx
 exact all r x hx
end
section
variable {X:Cx}{pins:List (Addr×Obj)}{σ:St}{H:Hp}{s:Shared}{a:Addr}{y v:V}{u r:Value}{o:Option V}{A:Around}{E:Value->Shared->Prop}
theorem Inv.big (I:Inv X pins σ H s):sysModules<s.heap.objs.size:=by
 have h:mainGlobals<s.heap.objs.size:=(I.mod.glob.keeps I.bk).lt;exact Nat.lt_trans (by decide) h
theorem Gf {h':Heap}{t':Nat}{ob:HO} (I:Inv X pins σ H s) (mu:Mut (H a)) (hs:Heap.SameBut a s.heap h') (he:∃ q,h'.get? a=some q) (new:cm X.prog X.w (upd H a ob) h' a ob) :
  Inv X pins σ (upd H a ob) { s with heap:=h',toks:=t' }:=
 I.write (x:=a) (e:=a) mu (.inl rfl) (λb q hb z=>(hs.2 b hb).trans z) he new
theorem JF {P:Program}{w:World}{H':Hp}{h':Heap}{kvs:List (Key×V)}{vs:List (Key×Value)} (z:kvs.length<=sizeLine) (hd:(a == sysModules)=false) (rel:KV kvs vs) (dd:h'.DictOf (bf P w) a vs) :
  cm P w H' h' a (.dK kvs):=⟨z,hd,vs,rel,dd⟩
end
section
variable {X:Cx}{pins:List (Addr×Obj)}{σ:St}{H:Hp}{s:Shared}{a:Addr}{kvs:List (Key×V)}{k:Key}{u:Value}{A:Around}{E:Value->Shared->Prop}
end
section
variable {X:Cx}{o i e value:Expr}{pos pos' Fd:Pos}{td ty tv:TE}
end
theorem EH {P:Program}{w:World}{H:Hp} (h:Heap) (hb:sysModules<h.objs.size):cm P w H (h.push { cls:=.type "dict",data:=.dict #[] }) h.objs.size (.dK []):=
 ⟨Nat.zero_le _,beq_eq_false_iff_ne.mpr (Ne.symm (Nat.ne_of_lt hb)),[],.nil,Heap.DictOf.new h⟩
def IT:TE:=λ_ H Q=>∀ p,H p=none->Q (.ref p) (upd H p (.dK []))
section
variable {X:Cx}{pos:Pos}
theorem C1:PE X (.Dict [] [] pos) IT:=λpins s σ H Q I h=>
 wpAny_Dict_empty ⟨.ref s.heap.objs.size,_,I.laid (a:=s.heap.objs.size) (o:=.dK []) (t':=s.toks) (λ_ _ q=>Heap.get?_push_of_some _ q) (NX _) (EH s.heap I.big),rfl,h _ (I.hok.fresh (NX _))⟩
end
structure M1 (X:Cx) (o:Expr) (m:Str) (apos:Pos) (e:Expr) (cQ:Pos):Prop where
 base:attributeBase o m X.env (eval o X.env)=eval o X.env
 few:((backTo cQ (starEach [e] X.env)).all (λx=>!x.1) && (backToKw cQ (keywordEach [] X.env)).all (λx=>x.1.isSome)
  && decide (([e]:List Expr).length+([]:List Keyword).length+(if ([]:List Keyword).isEmpty then 0 else 1)<30))=true
 line:(apos.endLine == cQ.line)=true
 HH:backTo cQ (starEach [e] X.env)=[(false,eval e X.env)]
structure M2 (X:Cx) (o:Expr) (m:Str) (apos:Pos) (e f:Expr) (cQ:Pos):Prop where
 base:attributeBase o m X.env (eval o X.env)=eval o X.env
 few:((backTo cQ (starEach [e,f] X.env)).all (λx=>!x.1) && (backToKw cQ (keywordEach [] X.env)).all (λx=>x.1.isSome)
  && decide (([e,f]:List Expr).length+([]:List Keyword).length+(if ([]:List Keyword).isEmpty then 0 else 1)<30))=true
 line:(apos.endLine == cQ.line)=true
 HH:backTo cQ (starEach [e,f] X.env)=[(false,eval e X.env),(false,eval f X.env)]
def IsD (H:Hp) (a:Addr):Prop:=(∃ kvs,Rd H a (.dK kvs))\/∃ kvs,Rd H a (.dT kvs)
theorem El {X:Cx}{pins:List (Addr×Obj)}{σ:St}{H:Hp}{s:Shared}{a:Addr} (I:Inv X pins σ H s) (d:IsD H a) :
  s.TypeIs (.ref a) "dict" /\ (∀ b,Value.ref a = .ref b->∃ ob,s.heap.get? b=some ob/\ob.dict=none)/\(a == sysModules)=false:=by
 rcases d with ⟨kvs,e⟩ | ⟨kvs,e⟩
 ·obtain ⟨_,hd,vs,_,dd⟩:=Dw I.hok e;refine ⟨dd.typeIs,λb q=>?_,hd⟩;cases q;obtain ⟨ob,_,_,h1,h2,_⟩:=dd;exact ⟨ob,h1,h2.2.1⟩
 ·obtain ⟨_,hd,xs,_,dd⟩:=Lq I.hok e;refine ⟨dd.typeIs,λb q=>?_,hd⟩;cases q;obtain ⟨ob,_,_,h1,h2,_⟩:=dd;exact ⟨ob,h1,h2.2.1⟩
section
variable {X:Cx}{pins:List (Addr×Obj)}{σ:St}{H:Hp}{s:Shared}{a:Addr}{y d:V}{u r:Value}{o:Option V}{A:Around}{E:Value->Shared->Prop}
end
section
variable {X:Cx}{o e f:Expr}{apos cQ:Pos}{td ty tx:TE}
end
section
variable {X:Cx}{pins:List (Addr×Obj)}{σ:St}{H:Hp}{s:Shared}{a:Addr}{kvs:List (Key×V)}{A:Around}{E:Value->Shared->Prop}
end
section
variable {X:Cx}{pins:List (Addr×Obj)}{σ:St}{H:Hp}{s:Shared}{a:Addr}{y:V}{u:Value}{A:Around}{E:Value->Shared->Prop}
end
def gc (cells:List (Str×Addr)):List (Str×NameKind)->List (Str×Addr)->List (Str×Addr)
 | [],acc=>acc
 | (n,k)::r,acc=>gc cells r (if (k == NameKind.free)=true then (match cells.lookup n with | some c=>(n,c)::acc | none=>acc) else acc)
theorem gp {env:Env}:∀ (names:List (Str×NameKind)) (acc:List (Str×Addr)),(∀ y∈names,y.2 = .free->∃ c,env.cells.lookup y.1=some c) ->
  (forIn (m:=Sem) names acc λ(x:Str×NameKind) r=>(match x with | (name,kind)=>if (kind == NameKind.free)=true then (do let a <-cellOf env name;pure (ForInStep.yield ((name,a)::r))) else pure (ForInStep.yield r)))=pure (gc env.cells names acc)
 | [],acc,_=>rfl
 | (n,k)::r,acc,h=>by
  rw [List.forIn_cons];unfold gc;by_cases hk:(k == NameKind.free)=true
  ·obtain ⟨c,e⟩:=h (n,k) N4 (by simpa using hk);simp only [hk,if_true];have e1:cellOf env n=pure c:=by unfold cellOf;rw [show env.cells.lookup n=some c from e]
   rw [e1,show env.cells.lookup n=some c from e];simp only [pure_bind];exact gp r _ λy hy=>h y (NY _ hy)
  ·have hk':(k == NameKind.free)=false:=by simpa using hk
   simp only [hk',Bool.false_eq_true,if_false,pure_bind];exact gp r _ λy hy=>h y (NY _ hy)
theorem nc {env:Env}{scope:Scope} (h:∀ y∈scope.names,y.2 = .free->∃ c,env.cells.lookup y.1=some c):closureFor scope env=pure (gc env.cells scope.names []):=by
 have e:=gp (env:=env) scope.names [] h;unfold closureFor;simp only [bind_pure];exact e
theorem nR {cells:List (Str×Addr)}{x:Str}{c:Addr}:∀ (names:List (Str×NameKind)) (acc:List (Str×Addr)),(∀ y d,acc.lookup y=some d->cells.lookup y=some d)->(gc cells names acc).lookup x=some c->cells.lookup x=some c
 | [],acc,ha,h=>ha _ _ h
 | (n,k)::r,acc,ha,h=>by
  unfold gc at h;refine nR r _ (λy d hy=>?_) h
  split at hy
  ·split at hy
   ·rename_i c' e';rw [List.lookup_cons] at hy;cases hb:y == n with
    | true=>rw [hb] at hy;cases hy;rw [beq_iff_eq.mp hb];exact e'
    | false=>rw [hb] at hy;exact ha _ _ hy
   ·exact ha _ _ hy
  ·exact ha _ _ hy
theorem jB {x n:Str}{c:Addr}{acc:List (Str×Addr)} (h:∃ d,acc.lookup x=some d):∃ d,((n,c)::acc).lookup x=some d:=by
 rw [List.lookup_cons];cases x == n with
 | true=>exact ⟨_,rfl⟩
 | false=>exact h
theorem pL {cells:List (Str×Addr)}{x:Str}:∀ (names:List (Str×NameKind)) (acc:List (Str×Addr)),((∃ d,acc.lookup x=some d)\/((x,NameKind.free)∈names/\∃ d,cells.lookup x=some d))->∃ d,(gc cells names acc).lookup x=some d
 | [],acc,h=>by
  rcases h with h | ⟨h,_⟩
  ·exact h
  ·cases h
 | (n,k)::r,acc,h=>by
  unfold gc;refine pL r _ ?_;rcases h with h | ⟨h,d,hd⟩
  ·refine .inl ?_
   split
   ·split
    ·exact jB h
    ·exact h
   ·exact h
  ·rcases List.mem_cons.mp h with e | h
   ·cases e;refine .inl ?_;rw [if_pos (by decide),hd];exact ⟨d,by rw [List.lookup_cons];simp⟩
   ·exact .inr ⟨h,d,hd⟩
theorem cO:∀ (names:List (Str×NameKind)) (n:Nat) (acc:List (Str×Addr)),cellsFrom n names acc=cellsFrom n names []++acc
 | [],n,acc=>rfl
 | (x,k)::r,n,acc=>by
  unfold cellsFrom
  split
  ·rw [cO r _ ((x,n)::acc),cO r _ [(x,n)]];simp
  ·exact cO r n acc
theorem mX {x:Str}{c:Addr}:∀ {l l':List (Str×Addr)},(l++l').lookup x=some c->l.lookup x=some c\/l'.lookup x=some c
 | [],_,h=>.inr h
 | (n,d)::r,l',h=>by
  rw [List.cons_append,List.lookup_cons] at h;rw [List.lookup_cons];cases hb:x == n with
  | true=>rw [hb] at h;exact .inl h
  | false=>rw [hb] at h;exact mX h
theorem bE {x:Str}:∀ (names:List (Str×NameKind)) (n:Nat) (acc:List (Str×Addr)),((∃ d,acc.lookup x=some d)\/(x,NameKind.cell)∈names)->∃ d,(cellsFrom n names acc).lookup x=some d
 | [],n,acc,h=>by
  rcases h with h | h
  ·exact h
  ·cases h
 | (y,k)::r,n,acc,h=>
  by
  unfold cellsFrom;rcases h with h | h
  ·split
   ·exact bE r _ _ (.inl (jB h))
   ·exact bE r _ _ (.inl h)
  ·rcases List.mem_cons.mp h with e | h
   ·cases e;rw [if_pos (by decide)];exact bE r _ _ (.inl ⟨n,by rw [List.lookup_cons];simp⟩)
   ·split
    ·exact bE r _ _ (.inr h)
    ·exact bE r _ _ (.inr h)
def yb (scope:Scope) (C:Addr) (env:Env):Env:=
 { scope:=relabel scope env,locals:=C,globals:=env.globals,cells:=cellsFrom (C+1) scope.names (gc env.cells scope.names []),qual:=env.qual,func:=none,code:=env.code,frame:=env.frame,builtins:=env.builtins }
theorem qD {scope:Scope}{env:Env}{x:Str}{k:NameKind} (h:(relabel scope env).names.lookup x=some k):∃ k',(x,k')∈scope.names/\(k' = k\/(k' = .free/\k = .cell/\env.kindOf x=some .cell)):=by
 have h':=N5.mp (mem_of_lookup h);obtain ⟨⟨n,q⟩,hm,e⟩:=h';dsimp only at e
 split at e
 ·rename_i hc;injection e with e1 e2;subst e1;refine ⟨q,hm,.inr ?_⟩;simp only [Oa,beq_iff_eq] at hc;exact ⟨hc.1.1,e2.symm,hc.2⟩
 ·injection e with e1 e2;subst e1;exact ⟨q,hm,.inl e2⟩
def bC (X:Cx) (scope:Scope) (N':List Str) (s:Shared) (H:Hp) (fp:List Addr):Cx where
 prog:=X.prog
 w:=X.w
 K:=X.K
 mg:=X.mg
 base:=X.base
 A:=X.A
 N:=N'
 s₀:=s
 H₀:=H
 env:=yb scope s.heap.objs.size X.env
 outer:=X.stack
 stack:=X.stack
 ex:=fp
 calm:=X.calm
 fn:=λx=>decide ((x,NameKind.cell)∈scope.names/\(x,NameKind.free)∉scope.names)
 pn:=[]
 xe:=λ_ _=>False
def sub (n:Nat) (fi:List Nat) (σ:St):St:=List.replicate n none++fi.map λk=>(σ[k]?).join
theorem sub_len (n:Nat) (fi:List Nat) (σ:St):(sub n fi σ).length=n+fi.length:=by simp [sub]
structure i3 (X:Cx) (scope:Scope) (N':List Str) (n:Nat) (fi:List Nat):Prop where
 kind:scope.kind = .function
 names:∀ y∈scope.names,y.2 = .local->scope.names.lookup y.1=some .local
 free:∀ y∈scope.names,y.2 = .free->X.env.kindOf y.1=some .cell\/X.env.kindOf y.1=some .free
 len:N'.length=n+fi.length
 at':∀ (j:Nat) (k:Nat),fi[j]? = some k->∃ x,N'[n+j]? = some x/\X.N[k]? = some x/\scope.names.lookup x=some .free/\(x,NameKind.cell)∉scope.names
theorem Bu {M:Model}{A:Around}{E:Value->Shared->Prop}{s:Shared}{scope:Scope}{globals:Addr}{cl:List (Str×Addr)}{qual:Str}{env:Env}{Q:Env->Shared->Prop}
  (h:∀ h',h'.Ns s.heap.objs.size (λ_=>none)->(∀ b o,s.heap.get? b=some o->h'.get? b=some o)->CellsOk h' (s.heap.objs.size+1) (cellsFrom (s.heap.objs.size+1) scope.names []) ->
   Q { scope,locals:=s.heap.objs.size,globals,cells:=cellsFrom (s.heap.objs.size+1) scope.names cl,qual,func:=none,code:=env.code,frame:=env.frame,builtins:=env.builtins } { s with heap:=h' }) :
  wpAny M A (newFunctionEnv scope globals cl [] qual none .none (some env)) Q E s:=by
 have size:(s.heap.push { cls:=.type "dict",data:=.dict #[] }).objs.size=s.heap.objs.size+1:=Heap.size_push ..;have before:∀ b o,s.heap.get? b=some o->(s.heap.push { cls:=.type "dict",data:=.dict #[] }).get? b=some o:=λb o e=>Heap.get?_push_of_some _ e;have names:=Heap.Ns.new s.heap (.type "dict");simp only [newFunctionEnv,if_true,Option.isSome_some];refine wpAny_bind (wpAny_alloc ?_);generalize s.heap.push { cls:=.type "dict",data:=.dict #[] }=h1 at size before names;have LN:CellsOk h1 (s.heap.objs.size+1) []:=⟨(λ_ _ z=>by cases z),List.Pairwise.nil⟩;have laid:=cellsFrom_ok scope.names h1 _ [] LN (Nat.le_of_eq size.symm);have more:=pushCells_keeps scope.names h1;rw [size] at laid;refine wpAny_bind (wpAny_layCells _ (λ_ kind _=>?_) scope.names cl { s with heap:=h1 } _ (wpAny_bind (wpAny_pure (wpAny_pure ?_))))
 ·cases e:kind == NameKind.cell <;> simp [e]
 ·show Q { scope,locals:=s.heap.objs.size,globals,cells:=cellsFrom h1.objs.size scope.names cl,qual,func:=none,code:=env.code,frame:=env.frame,builtins:=env.builtins } _;rw [size];exact h _ (names.keeps more) (λb o e=>more b o (before b o e)) laid
section
variable {X:Cx}{pins:List (Addr×Obj)}{σ:St}{H:Hp}{s:Shared}{scope:Scope}{N':List Str}{n:Nat}{fi:List Nat}{fp:List Addr}{h':Heap}
theorem i3.CQ (S:i3 X scope N' n fi) (ok:X.Ok):∀ y∈scope.names,y.2 = .free->∃ c,X.env.cells.lookup y.1=some c:=λy hy hk=>ok.has _ (S.free y hy hk)
theorem jq {C:Addr}{x:Str}{c:Addr} (h:(yb scope C X.env).cells.lookup x=some c):(cellsFrom (C+1) scope.names []).lookup x=some c\/X.env.cells.lookup x=some c:=by
 have h1:(cellsFrom (C+1) scope.names (gc X.env.cells scope.names [])).lookup x=some c:=h;rw [cO] at h1;rcases mX h1 with z | z
 ·exact .inl z
 ·exact .inr (nR _ _ (λ_ _ q=>by cases q) z)
theorem cellsFrom_names {x:Str}{c:Addr}:∀ (names:List (Str×NameKind)) (k:Nat) (acc:List (Str×Addr)),(x,c)∈cellsFrom k names acc->(x,NameKind.cell)∈names\/(x,c)∈acc
 | [],_,_,h=>.inr h
 | (y,q)::r,k,acc,h=>by
  unfold cellsFrom at h
  split at h
  ·rename_i hq;have hq':q = .cell:=by simpa using hq
   subst hq';rcases cellsFrom_names r _ _ h with z | z
   ·exact .inl (NY _ z)
   ·rcases List.mem_cons.mp z with e | z
    ·cases e;exact .inl N4
    ·exact .inr z
  ·rcases cellsFrom_names r _ _ h with z | z
   ·exact .inl (NY _ z)
   ·exact .inr z
theorem va (I:Inv X pins σ H s) (S:i3 X scope N' n fi) (hf:∀ b∈fp,b9 X pins H b) (ho:∀ b∈fp,∃ o,s.heap.get? b=some o)
  (hns:h'.Ns s.heap.objs.size (λ_=>none)) (hk:∀ b o,s.heap.get? b=some o->h'.get? b=some o) (hc:CellsOk h' (s.heap.objs.size+1) (cellsFrom (s.heap.objs.size+1) scope.names [])) :
  Inv (bC X scope N' s H fp) [] (sub n fi σ) H { s with heap:=h' }:=by
 have ltC:∀ {b:Addr}{o:Obj},s.heap.get? b=some o->b<s.heap.objs.size:=λe=>Heap.lt_size e;have Bq:∀ {x:Str}{c:Addr},X.env.cells.lookup x=some c->c<s.heap.objs.size:=λ{x c} e=>by
  obtain ⟨v,q⟩:=I.cell x c e;exact q.lt
 have ml:∀ {x:Str}{c:Addr},(cellsFrom (s.heap.objs.size+1) scope.names []).lookup x=some c->h'.IsCell c none/\s.heap.objs.size+1<=c:=λ{x c} e=>hc.empty x c (PySem.mem_of_lookup e);refine ⟨⟨I.ok.mod,S.kind,I.ok.glob,I.ok.blt,NX _,λx y c h1 h2=>?_,λx hx=>?_,λx c hx h=>?_,I.ok.hd,I.ok.frames,.inl rfl,λb hb=>?_,λb o e=>?_,?_,λb o e hb=>?_,λb hb hz=>?_,I.stack,I.Ba⟩,
  rfl,I.bare,Un.kept hk,⟨_,hns,λi x v h1 h2 h3=>?_⟩,λx c h=>?_,I.hok.fresh (NX _),λx c h=>?_,λp hp=>absurd (show p∈([]:List (Addr×Obj)) from hp) (by simp),I.hok.kept hk,?_⟩
 ·rcases jq h1 with z1 | z1 <;> rcases jq h2 with z2 | z2
  ·exact name_of_addr hc.apart (PySem.mem_of_lookup z1) (PySem.mem_of_lookup z2)
  ·exact absurd (Nat.lt_trans (Bq z2) (ml z1).2) (Nat.lt_irrefl _)
  ·exact absurd (Nat.lt_trans (Bq z1) (ml z2).2) (Nat.lt_irrefl _)
  ·exact I.ok.inj x y c z1 z2
 ·have hx:(relabel scope X.env).names.lookup x=some .cell\/(relabel scope X.env).names.lookup x=some .free:=hx;have go:∀ k,(relabel scope X.env).names.lookup x=some k->(k = .cell\/k = .free)->∃ c,(cellsFrom (s.heap.objs.size+1) scope.names (gc X.env.cells scope.names [])).lookup x=some c:=λk e hk=>by
   obtain ⟨k',hm,hkk⟩:=qD e;have:k' = .cell\/k' = .free:=by
    rcases hkk with z | z
    ·rw [z];exact hk
    ·exact .inr z.1
   rcases this with z | z
   ·exact bE _ _ _ (.inr (z ▸ hm))
   ·exact bE _ _ _ (.inl (pL _ _ (.inr ⟨z ▸ hm,S.CQ I.ok (x,k') hm z⟩)))
  rcases hx with z | z
  ·exact go _ z (.inl rfl)
  ·exact go _ z (.inr rfl)
 ·have hx':(x,NameKind.cell)∈scope.names/\(x,NameKind.free)∉scope.names:=of_decide_eq_true hx;have h1:(cellsFrom (s.heap.objs.size+1) scope.names (gc X.env.cells scope.names [])).lookup x=some c:=h;rw [cO] at h1;obtain ⟨d,hd⟩:=bE (x:=x) scope.names (s.heap.objs.size+1) [] (.inr hx'.1);have e2:(cellsFrom (s.heap.objs.size+1) scope.names []++gc X.env.cells scope.names []).lookup x=some d:=by
   have lk:∀ (l l':List (Str×Addr)),l.lookup x=some d->(l++l').lookup x=some d:=by
    intro l
    induction l with
    | nil=>intro l' q;cases q
    | cons p r ih=>
     obtain ⟨n,q⟩:=p;intro l' e;rw [List.cons_append,List.lookup_cons];rw [List.lookup_cons] at e;cases hb:x == n with
     | true=>rw [hb] at e;exact e
     | false=>rw [hb] at e;exact ih l' e
   exact lk _ _ hd
  rw [h1] at e2;cases e2;exact Nat.le_of_lt (ml hd).2
 ·refine ⟨?_,λx c e z=>?_⟩
  ·obtain ⟨o,e⟩:=ho b hb;exact Nat.ne_of_lt (ltC e)
  ·obtain ⟨o,eo⟩:=ho b hb;rcases jq e with q | q
   ·have h1:=(ml q).2;have h2:=ltC eo;rw [z] at h1;exact Nat.lt_irrefl _ (Nat.lt_trans h2 h1)
   ·exact (hf b hb).2.2.2.2.1 x c q z
 ·exact I.bs b o e
 ·exact N2 I.ok.bsz I.sz
 ·rcases (hf b hb).2.2.2.1 with z | z
  ·exact I.ok.D6 b o e z
  ·exact absurd (Nat.lt_of_lt_of_le (Heap.lt_size (I.ok.bs b o e).1) z) (Nat.lt_irrefl _)
 ·rcases List.mem_cons.mp (I.z7 b hz) with z | z
  ·exact (hf b hb).2.1 z
  ·exact (hf b hb).2.2.1 z
 ·have hi:n<=i:=by
   by_cases hi:n<=i
   ·exact hi
   ·unfold sub at h2;rw [List.getElem?_append_left (by simp;lia),List.getElem?_replicate] at h2
    split at h2 <;> cases h2
  have h2':(fi.map λk=>(σ[k]?).join)[i - n]? = some (some v):=by
   unfold sub at h2;rw [List.getElem?_append_right (by simpa using hi)] at h2;simpa using h2
  rw [N1] at h2';cases ek:fi[i - n]? with
  | none=>rw [ek] at h2';cases h2'
  | some k=>
   rw [ek] at h2';have vZ:(σ[k]?).join=some v:=Option.some.inj h2';have hσ:σ[k]? = some (some v):=by
    cases q:σ[k]? with
    | none=>rw [q] at vZ;cases vZ
    | some w'=>rw [q] at vZ;exact congrArg some vZ
   obtain ⟨x',e1,e2,e3,e4⟩:=S.at' (i - n) k ek;have e1':N'[i]? = some x':=by rw [<-e1];congr 1;lia
   have h1':N'[i]? = some x:=h1;rw [e1'] at h1';cases h1';have hm:(x,NameKind.free)∈scope.names:=by
    generalize scope.names=l at e3
    induction l with
    | nil=>cases e3
    | cons p r ih=>
     obtain ⟨n',q⟩:=p;rw [List.lookup_cons] at e3;cases hb:x == n' with
     | true=>rw [hb] at e3;cases e3;rw [beq_iff_eq.mp hb];exact N4
     | false=>rw [hb] at e3;exact NY _ (ih e3)
   have kx:=S.free _ hm rfl;have vis:Vis X.env.scope x:=kx.elim (λz=>.inr (.inl z)) λz=>.inr (.inr z);obtain ⟨m0,hn0,hl0⟩:=I.loc;obtain ⟨u,ru,lk⟩:=hl0 k x v e2 hσ vis;refine ⟨u,ru,.inr ⟨?_,?_⟩⟩
   ·have h3:Vis (relabel scope X.env) x:=h3;rcases h3 with z | z | z
    ·obtain ⟨k',hm',hk'⟩:=qD z;rcases hk' with q | q
     ·exfalso;have:=S.names (x,k') hm' (by rw [q]);rw [show scope.names.lookup x=some .free from e3] at this;cases this
     ·cases q.2.1
    ·exact .inl z
    ·exact .inr z
   ·rcases lk with ⟨kl,_⟩ | ⟨_,c,ec,vk⟩
    ·rcases kx with z | z <;> (rw [show X.env.kindOf x=_ from kl] at z;cases z)
    ·refine ⟨c,?_,vk.keeps hk⟩;show (cellsFrom (s.heap.objs.size+1) scope.names (gc X.env.cells scope.names [])).lookup x=some c;obtain ⟨d,hd⟩:=bE (x:=x) scope.names (s.heap.objs.size+1) (gc X.env.cells scope.names []) (.inl (pL _ _ (.inr ⟨hm,c,ec⟩)));rw [hd];have hd':=hd;rw [cO] at hd';rcases mX hd' with z | z
     ·rcases cellsFrom_names _ _ _ (PySem.mem_of_lookup z) with q | q
      ·exact absurd q e4
      ·cases q
     ·have:=nR _ _ (λ_ _ q=>by cases q) z;rw [ec] at this;exact this.symm
 ·rcases jq h with z | z
  ·exact ⟨none,(ml z).1⟩
  ·obtain ⟨v,q⟩:=I.cell x c z;exact ⟨v,q.keeps hk⟩
 ·rcases jq h with z | z
  ·exact I.hok.fresh (Nat.le_of_lt (ml z).2)
  ·exact I.kP x c z
 ·show (sub n fi σ).length=N'.length;rw [sub_len,S.len]
end
def qm (X:Cx) (ifs:List Expr) (t:TT):Prop:=
 ∀ (pins:List (Addr×Obj)) (s:Shared) (σ:St) (H:Hp) (Q:Bool->Hp->Prop),Inv X pins σ H s->t σ H Q ->
  wpAny (model X.prog X.w) X.A (forIn ifs true λc r=>if r=true then do let ok <-isTrue c X.env (eval c X.env);pure (ForInStep.yield ok) else pure (ForInStep.yield r)) (TP X pins σ Q) X.xe s
def Fx:TT:=λ_ H Q=>Q true H
theorem aO {X:Cx}:qm X [] Fx:=λ_ _ _ H _ I h=>wpAny_tests_nil ⟨H,I,h⟩
theorem dO {X:Cx}{c:Expr}{t:TT} (h:PT X c t):qm X [c] t:=λpins s σ H Q I q=>wpAny_tests_one (h pins s σ H Q I q)
def rV (g:TG) (tt:TT) (te:TE) (J:It) (D:Addr) (Q:VK) (σ:St) (H:Hp):Prop:=
 ∃ W:Nat->Nat->St->Hp->Prop,(∃ m,W 0 m σ H)/\∀ i m σ H,W i m σ H ->
  (J.stop i H/\Q (.ref D) H)\/(J.go i H/\∃ N:St->Hp->Prop,(∀ σ' H',N σ' H'->∃ m',m' < m/\W (i+1) m' σ' H') /\
   ∀ x H',J.yld i H x H'->g x σ H' λσ2 H2=>tt σ2 H2 λb H3=>if b=true then te σ2 H3 λv H4=>∃ xs,H4 D=some (.lst xs)/\xs.length<sizeLine/\N σ2 (upd H4 D (.lst (xs++[v]))) else N σ2 H3)
def C5 (wi:TI) (g:TG) (tt:TT) (te:TE) (n:Nat) (fi:List Nat):TE:=λσ H Q=>
 wi σ H λJ H1=>∀ D,H1 D=none->rV g tt te J D Q (sub n fi σ) (upd H1 D (.lst []))
section
variable {X:Cx}{elt tg iter:Expr}{ifs:List Expr}{scope:Scope}{pos:Pos}
theorem BD {Y:Cx}{g:TG}{tt:TT}{te:TE}{J:It}{D it:Addr}{fp:List Addr}{tn:Nat->Heap->Prop}{Qr:VK}{σ:St}{H:Hp}{s:Shared} (hc:Y.calm=true) (hxe:∀ e s,¬ Y.xe e s)
  (hg:PG Y tg g) (hi:qm Y ifs tt) (he:PE Y elt te) (T:Turn Y.prog Y.w Y.K tg J fp it tn) (I:Inv Y [] σ H s) (st:tn 0 s.heap) (hf:∀ b∈fp,b9 Y [] H b) (hw:rV g tt te J D Qr σ H) :
  codeAny (model Y.prog Y.w) Y.A (.compLoop (.ListComp elt [⟨tg,iter,ifs,0⟩] scope pos) 0 (.ref it) (.ref D) Y.env) (λr s'=>r = .ok .next/\∃ σ' H',Inv Y [] σ' H' s'/\Qr (.ref D) H') s:=by
 obtain ⟨W,⟨m0,w0⟩,turn⟩:=hw;have mU:∀ {H':Hp},(∀ b∈fp,H' b=none)->∀ b∈fp,b9 Y [] H' b:=λhn b hb=>⟨hn b hb,(hf b hb).2⟩;refine codeAny_loop rfl (λn s'=>∃ i σ' H',Inv Y [] σ' H' s'/\tn i s'.heap/\(∀ b∈fp,H' b=none)/\W i n σ' H') ?_ m0 ⟨0,σ,H,I,st,λb hb=>(hf b hb).1,w0⟩;rintro n s3 ⟨i,σ3,H3,I3,st3,fr3,w3⟩;show wpAny _ Y.A ((compTurn (.ListComp elt [⟨tg,iter,ifs,0⟩] scope pos) 0 (.ref it) (.ref D) Y.env).onRaise (λx=>do noteFrame x Y.env;theTreesLotGoes x)) _ _ s3;refine wpAny_noted ?_;rw [compTurn_list]
 (refine wpAny_bind (wpAny_standAt (wpAny_bind ?_)))
 rcases turn i n σ3 H3 w3 with ⟨stop,qn⟩ | ⟨go,N,hN,step⟩
 ·refine thn (T.done Y rfl rfl rfl hc i [] s3 σ3 H3 _ I3 (mU fr3) st3 stop) λr s4 ⟨hr,I4⟩=>?_;subst hr;exact wpAny_pure ⟨rfl,σ3,H3,I4,qn⟩
 ·refine thn (T.item Y rfl rfl rfl hc i [] s3 σ3 H3 _ I3 (mU fr3) st3 go) λr s4 ⟨u,hr,h4⟩=>?_;subst hr;refine wpAny_bind (thn h4 λ_ s5 ⟨x,H5,I5,r5,y5,st5,fr5⟩=>?_);have I5':=I5.pinned (mU fr5) (T.obj _ _ st5);have j3:∀ {σ7:St}{H7:Hp}{s7:Shared},Inv Y ([]++nN fp s5.heap) σ7 H7 s7->N σ7 H7->∃ m,m<n/\∃ i σ' H',Inv Y [] σ' H' s7/\tn i s7.heap/\(∀ b∈fp,H' b=none)/\W i m σ' H':=λ{σ7 H7 s7} I7 n7=>by
   obtain ⟨m',hm,w7⟩:=hN σ7 H7 n7;refine ⟨m',hm,i+1,σ7,H7,I7.eX,T.keep _ _ _ st5 λb hb o e=>(I7.pin (b,o) (Od _ (Od _ (dc hb e)))).1,λb hb=>?_,w7⟩;obtain ⟨o,e,d⟩:=T.obj _ _ st5 b hb;exact (I7.pin (b,o) (Od _ (Od _ (dc hb e)))).2.1
  refine wpAny_bind (wpAny_mono (hg _ s5 σ3 H5 x u _ I5' r5 (step x H5 y5)) (λ_ s6 ⟨σ6,H6,I6,q6⟩=>?_) λe s' z=>(hxe e s' z).elim);refine wpAny_bind (wpAny_mono (hi _ s6 σ6 H6 _ I6 q6) (λok s7 ⟨H7,I7,q7⟩=>?_) λe s' z=>(hxe e s' z).elim);cases ok with
  | false=>
   exact wpAny_pure ⟨rfl,j3 I7 q7⟩
  | true=>
   refine wpAny_bind (wpAny_bind (wpAny_mono (he _ s7 σ6 H7 _ I7 q7) (λu8 s8 ⟨v8,H8,I8,r8,xs,e8,z8,n8⟩=>?_) λe s' z=>(hxe e s' z).elim));refine wpAny_bind (wpAny_mono (eM (X:=Y) _ s8 σ6 H8 (.ref D) [v8] (.ref D) [u8] (λ_ H9=>N σ6 H9) I8 rfl (.cons r8 .nil) ⟨D,xs,v8,rfl,rfl,e8,z8,n8⟩) (λu9 s9 h9=>?_) λe s' z=>(hxe e s' z).elim);obtain ⟨v9,H9,I9,_,n9⟩:=h9;exact wpAny_pure (wpAny_pure ⟨rfl,j3 I9 n9⟩)
theorem Inv.letGo {pins:List (Addr×Obj)}{σ:St}{H:Hp}{s:Shared}{C:Addr}{h':Heap} (I:Inv X pins σ H s) (hs:Heap.SameBut C s.heap h') (hn:H C=none) (hC:X.s₀.heap.objs.size<=C) (hL:C≠X.env.locals)
  (h2:∀ x c,X.env.cells.lookup x=some c->c≠C) (h3:∀ p∈X.pn++pins,p.1≠C):Inv X pins σ H { s with heap:=h' }:=
 I.turned (t':=s.toks) (λb o hb e=>hs.extBut b o hb e) hn hL (.inr hC) h2 h3
theorem uT {N':List Str}{n:Nat}{fi:List Nat}{wi:TI}{g:TG}{tt:TT}{te:TE}{use:Option (Value->Sem Unit)}{Q:Value->Shared->Prop}{Qr:VK}{Jn:Pos}{pins:List (Addr×Obj)}{σ:St}{H:Hp}{s:Shared}
  (oF:X.calm=true) (S:i3 X scope N' n fi) (hit:∀ R,wi σ H R->wpAny (model X.prog X.w) X.A (eval iter X.env) (λv s1=>wpAny (model X.prog X.w) X.A (pyIter v) (PIE X pins σ tg R) X.xe s1) X.xe s)
  (hg:∀ s H fp,PG (bC X scope N' s H fp) tg g) (hi:∀ s H fp,qm (bC X scope N' s H fp) ifs tt) (he:∀ s H fp,PE (bC X scope N' s H fp) elt te)
  (I:Inv X pins σ H s) (hw:C5 wi g tt te n fi σ H Qr) (hs:∀ x,foldedSetIterable iter X.env x=pure x)
  (post:∀ (D C:Addr) (s':Shared) (H':Hp) (m:Str->Option Value),Inv X pins σ H' s'->s'.heap.Ns C m->H' C=none->X.s₀.heap.objs.size<=C->C≠X.env.locals->(∀ x c,X.env.cells.lookup x=some c->c≠C)->(∀ p∈X.pn++pins,p.1≠C)->Qr (.ref D) H' ->
   compPost (model X.prog X.w) X.A X.xe use Q (.ref D) C (.ok .next) s') :
  wpAny (model X.prog X.w) X.A (comprehension (.ListComp elt [⟨tg,iter,ifs,0⟩] scope pos) scope X.env Jn (newList []) false (eval iter X.env) use) Q X.xe s:=by
 refine wpAny_comprehension_free (use:=use) (g:=⟨tg,iter,ifs,0⟩) (gs:=[]) rfl hs (nc (S.CQ I.ok)) S.kind S.names ?_;refine thn (hit _ hw) λv s1 h1=>thn h1 λitv s2 h2=>?_;obtain ⟨it,fp,tn,J,H2,e,I2,T,st2,f2,hw2⟩:=h2;subst e;refine wpAny_newList ?_ (Nat.zero_le _);have hD:H2 s2.heap.objs.size=none:=I2.hok.fresh (NX _);have I3:Inv X pins σ (upd H2 s2.heap.objs.size (.lst [])) { s2 with heap:=s2.heap.push { cls:=.type "list",data:=.seq ([]:List Value).toArray } }:=
  I2.laid (t':=s2.toks) (λb u e=>Heap.get?_push_of_some _ e) (NX _) ⟨Nat.zero_le _,[],0,.nil,Heap.get?_push_size _ rfl⟩
 have hw3:=hw2 _ hD;have u23:Un (frs X.stack) fp H2 (upd H2 s2.heap.objs.size (.lst [])) s2.heap (s2.heap.push { cls:=.type "list",data:=.seq ([]:List Value).toArray }):=
  Un.laid (λb u e=>Heap.get?_push_of_some _ e) (NX _) hD
 generalize hs3:({ s2 with heap:=s2.heap.push { cls:=.type "list",data:=.seq ([]:List Value).toArray } }:Shared)=s3 at I3 ⊢;have hh3:s3.heap=s2.heap.push { cls:=.type "list",data:=.seq ([]:List Value).toArray }:=by rw [<-hs3]
 have ho3:s3.os=s2.os:=by rw [<-hs3]
 have hz3:s3.heap.objs.size=s2.heap.objs.size+1:=by rw [hh3,Heap.size_push]
 rw [<-hh3] at u23;have hH3:∀ b,b≠s2.heap.objs.size->upd H2 s2.heap.objs.size (.lst []) b=H2 b:=λb hb=>ay hb;generalize upd H2 s2.heap.objs.size (.lst [])=H3 at *;have x8:∀ b∈fp,∃ o,s2.heap.get? b=some o:=λb hb=>let ⟨o,e,_⟩:=T.obj _ _ st2 b hb;⟨o,e⟩;have k23:∀ b u,s2.heap.get? b=some u->s3.heap.get? b=some u:=λb u e=>by rw [hh3];exact Heap.get?_push_of_some _ e
 have DM:∀ b∈fp,b9 X pins H3 b:=λb hb=>by
  obtain ⟨o,e⟩:=x8 b hb;exact ⟨(hH3 b (Nat.ne_of_lt (Heap.lt_size e))).trans (f2 b hb).1,(f2 b hb).2⟩
 refine Bu λh4 hns hk hc=>?_;show codeAny _ _ (.compStart _ 0 _ _ (yb scope s3.heap.objs.size X.env)) _ _;have I4:=va I3 S DM (λb hb=>let ⟨o,e⟩:=x8 b hb;⟨o,k23 b o e⟩) hns hk hc;have hfY:∀ b∈fp,b9 (bC X scope N' s3 H3 fp) [] H3 b:=λb hb=>⟨(DM b hb).1,(I4.ok.exf b hb).1,I4.ok.BO b hb,.inl hb,(I4.ok.exf b hb).2,λp hp=>absurd (show p∈([]:List (Addr×Obj)) from hp) (by simp)⟩;have st4:tn 0 h4:=T.keep _ _ _ st2 λb hb o e=>hk b o (k23 b o e);have loop:=BD (Y:=bC X scope N' s3 H3 fp) (elt:=elt) (tg:=tg) (iter:=iter) (ifs:=ifs) (scope:=scope) (pos:=pos) oF (λ_ _ z=>z) (hg s3 H3 fp) (hi s3 H3 fp) (he s3 H3 fp) T I4 st4 hfY hw3;have fin:codeAny (model X.prog X.w) X.A (.compLoop (.ListComp elt [⟨tg,iter,ifs,0⟩] scope pos) 0 (.ref it) (.ref s2.heap.objs.size) (yb scope s3.heap.objs.size X.env)) (compPost (model X.prog X.w) X.A X.xe use Q (.ref s2.heap.objs.size) s3.heap.objs.size) { s3 with heap:=h4 }:=by
  refine codeAny_mono loop λr s' ⟨hr,σ',H',J5,q5⟩=>?_;subst hr;have u5:Un (frs X.stack) fp H3 H' s3.heap s'.heap:=J5.base;have I5:Inv X pins σ H' s':=I2.HD (ch:=fp) (J5.os.trans ho3) (u23.trans u5) J5.hok J5.bare λb hb=>⟨(f2 b hb).2.2.2.1,(f2 b hb).2.1,(f2 b hb).2.2.2.2.1,(f2 b hb).2.2.2.2.2⟩;obtain ⟨m,hm,_⟩:=J5.loc;refine post _ _ s' H' m I5 hm J5.free I3.sz (Nat.ne_of_gt I3.lt) (λx c e=>?_) (λp hp=>?_) q5
  ·obtain ⟨v,q⟩:=I3.cell x c e;exact Nat.ne_of_lt q.lt
  ·exact Nat.ne_of_lt (Heap.lt_size (I3.pin p hp).1)
 exact codeAny_compStart_list fin (T.self _ 0 _ _ _ st4 fin)
theorem aW {N':List Str}{n:Nat}{fi:List Nat}{wi:TI}{g:TG}{tt:TT}{te:TE} (oF:X.calm=true) (S:i3 X scope N' n fi) (hit:PI X tg iter wi)
  (hg:∀ s H fp,PG (bC X scope N' s H fp) tg g) (hi:∀ s H fp,qm (bC X scope N' s H fp) ifs tt) (he:∀ s H fp,PE (bC X scope N' s H fp) elt te)
  (hs:∀ x,foldedSetIterable iter X.env x=pure x:=by intro _;rfl):PE X (.ListComp elt [⟨tg,iter,ifs,0⟩] scope pos) (C5 wi g tt te n fi):=by
 intro pins s σ H Q I h;rw [eval_ListComp];refine uT (use:=none) oF S (λR z=>hit pins s σ H R I z) hg hi he I h hs λD C s' H' m I' hm hn hC hL h2 h3 q=>⟨m,hm,λh' hs'=>?_⟩;exact ⟨.ref D,H',I'.letGo hs' hn hC hL h2 h3,rfl,q⟩
theorem gL {N':List Str}{n i:Nat}{fi:List Nat}{wi:TI}{g:TG}{tt:TT}{te:TE}{x:Str}{pos' FF:Pos} (hN:X.N.Nodup) (hxi:X.N[i]? = some x) (hx:Loc X.env.scope x) (oF:X.calm=true) (S:i3 X scope N' n fi) (hit:PI X tg iter wi)
  (hg:∀ s H fp,PG (bC X scope N' s H fp) tg g) (hi:∀ s H fp,qm (bC X scope N' s H fp) ifs tt) (he:∀ s H fp,PE (bC X scope N' s H fp) elt te)
  (hsw:swapsWith (.ListComp elt [⟨tg,iter,ifs,0⟩] scope pos) (some (.Name x pos')) FF.line X.env=pure true:=by rfl)
  (hs:∀ x,foldedSetIterable iter X.env x=pure x:=by intro _;rfl) (hf:X.fn x=true\/X.env.scope.names.lookup x=some .local:=by first | exact .inl rfl | exact .inr rfl | assumption) :
  PS X (.Assign [.Name x pos'] (.ListComp elt [⟨tg,iter,ifs,0⟩] scope pos) FF) (DB (C5 wi g tt te n fi) (aY i)):=by
 intro pins s σ H D I h
 (rw [exec_Assign_Name_used _ _ _ _ hsw])
 (refine wpAny_bind (wpAny_standAt (wpAny_bind ?_)))
 show wpAny _ X.A (do let _ <-comprehension (.ListComp elt [⟨tg,iter,ifs,0⟩] scope pos) scope X.env _ (newList []) false (eval iter X.env) (some (assign (.Name x pos') X.env))) _ _ s;refine wpAny_bind (thn (uT (use:=some (assign (.Name x pos') X.env)) (Q:=λ_ s'=>SP X pins D .next s') oF S (λR z=>hit pins s σ H R I z) hg hi he I h hs λDa C s' H' m I' hm hn hC hL h2 h3 q=>?_) λ_ s' q=>wpAny_pure (wpAny_pure q));show wpAny _ _ (assign (.Name x pos') X.env (.ref Da)) _ _ s';refine wpAny_assign_Name (qo (v:=.ref Da) I' hN hxi hx rfl (λs2 I2 ⟨a,hsb,ha⟩=>?_) hf);have hCa:C≠a:=by
  rcases ha with z | z
  ·rw [z];exact hL
  ·exact (h2 x a z).symm
 exact ⟨m,hm.sameBut hsb hCa,λh' hs'=>⟨_,H',I2.letGo hs' hn hC hL h2 h3,q⟩⟩
end
section
variable {X:Cx}
theorem Inv.dz {pins:List (Addr×Obj)}{σ:St}{H:Hp}{s:Shared}{h':Heap}{t':Nat}{wr:List Addr} (I:Inv X pins σ H s) (hf:∀ b∈wr,b9 X pins H b) (k:∀ b o,b∉wr->s.heap.get? b=some o->h'.get? b=some o) :
  Inv X pins σ H { s with heap:=h',toks:=t' }:=by
 have nit:∀ b u,H b=some u->b∉wr:=λb u e z=>by rw [(hf b z).1] at e;cases e
 refine I.step (g':=s.gens) (d':=s.drawn) (ch:=wr) (λb hb=>⟨(hf b hb).2.2.2.1,(hf b hb).2.1,(hf b hb).2.2.2.2.1,(hf b hb).2.2.2.2.2⟩) (λb o _ _ hc e _=>k b o hc e) (λb o _ _ hc e _=>⟨o.slots,k b o hc e⟩) (λ_ _ _ _ n=>n)
  (λb o hc e=>⟨o,k b o hc e⟩) (λ_ _ e=>e) (λ_ _ _ e=>e) (λb ps e=>⟨#[],by rw [e];simp⟩) (λm hm=>?_) (λb u e=>?_) I.bare
 ·obtain ⟨o,es,ep,ho,r⟩:=hm;exact ⟨o,es,ep,k _ o (λz=>(hf _ z).2.1 rfl) ho,r⟩
 ·refine (I.hok b u e).vR (λc v hc q=>k c v ?_ q) (λ_ q=>q) λ_ _ q=>q;rcases hc with z | z
  ·rw [z];exact nit b u e
  ·exact nit c _ z
theorem Inv.vc {pins:List (Addr×Obj)}{σ:St}{H:Hp}{s:Shared}{h':Heap}{t':Nat}{wr:List Addr}{a:Addr}{o:HO} (I:Inv X pins σ H s) (hf:∀ b∈wr,b9 X pins H b) (k:∀ b o,b∉wr->s.heap.get? b=some o->h'.get? b=some o)
  (ha:s.heap.objs.size<=a) (new:cm X.prog X.w (upd H a o) h' a o):Inv X pins σ (upd H a o) { s with heap:=h',toks:=t' }:=by
 have nit:∀ b u,H b=some u->b∉wr:=λb u e z=>by rw [(hf b z).1] at e;cases e
 have hfr:H a=none:=I.hok.fresh ha;refine I.step (g':=s.gens) (d':=s.drawn) (ch:=wr) (λb hb=>⟨(hf b hb).2.2.2.1,(hf b hb).2.1,(hf b hb).2.2.2.2.1,(hf b hb).2.2.2.2.2⟩) (λb o _ _ hc e _=>k b o hc e) (λb o _ _ hc e _=>⟨o.slots,k b o hc e⟩)
  (λb ob _ e n=>by rw [ay (Nat.ne_of_lt (Nat.lt_of_lt_of_le (Heap.lt_size e) ha))];exact n)
  (λb o hc e=>⟨o,k b o hc e⟩) (λb xs e=>by rw [ay (ao e hfr)];exact e) (λb ob u e=>by rw [ay (ao e hfr)];exact e) (λb ps e=>⟨#[],by rw [ay (ao e hfr),e];simp⟩) (λm hm=>?_) (λb u e=>?_) I.bare
 ·obtain ⟨o,es,ep,ho,r⟩:=hm;exact ⟨o,es,ep,k _ o (λz=>(hf _ z).2.1 rfl) ho,r⟩
 ·by_cases hb:b=a
  ·subst hb;rw [ab] at e;cases e;exact new
  ·rw [ay hb] at e;refine (I.hok b u e).vR (λc v hc q=>k c v ?_ q) (λc q=>by rw [ay (ao q hfr)];exact q) λc xs q=>by rw [ay (ao q hfr)];exact q
   rcases hc with z | z
   ·rw [z];exact nit b u e
   ·exact nit c _ z
def Its (z:Str):It:=⟨λi _=>i<z.length,λi H x H'=>H' = H/\∃ c,z.cps[i]? = some c/\x = .str ⟨#[c]⟩,λi _=>z.length<=i⟩
theorem yv {P:Program}{w:World}{K:PySem.W.Frag}{tg:Expr}{ty:String} (it:Addr) (z:Str) (t:Tok)
  (hW:∀ A:Around,A.handled=none->Walks P w A it [it] [it] z.cps.size (SignAt z) (λi h=>h.IsStrIter it ty z t i))
  (hty:["enumerate","zip","dict_itemiterator","dict_reverseitemiterator","odict_iterator","itertools.zip_longest","itertools.pairwise"].contains ty=false)
  (Kc:∀ (A:Around) (i:Nat) (s:Shared) (Q:Value->Shared->Prop) (E:Value->Shared->Prop),s.heap.IsStrIter it ty z t i->Q (.ref it) s->wpAny (model P w) A (pyIter (.ref it)) Q E s) :
  Turn P w K tg (Its z) [it] it (λi h=>i<=z.length/\h.IsStrIter it ty z t i) where
 mem:=by simp
 obj:=λi h st b hb=>by
  have e:b=it:=by simpa using hb
  subst e;obtain ⟨_,o,e,c,d⟩:=st;exact ⟨o,e,λv z=>by rw [d] at z;cases z⟩
 keep:=λi h h' st k=>by
  obtain ⟨hi,o,e,c,d⟩:=st;exact ⟨hi,o,k it (by simp) o e,c,d⟩
 item:=by
  intro X hP hw hK hc i pins s σ H E I hf st hg;subst hP hw hK;refine (hW X.A (I.ok.hd hc)).item i s _ _ hg st.2 λv h' tk hv st' kk=>?_;obtain ⟨c,u,ec,rfl⟩:=hv;have I1:Inv X pins σ H { s with heap:=h',toks:=tk }:=I.dz hf kk;obtain ⟨o,e,cl,d⟩:=id st';exact ⟨_,rfl,xO (s:={ s with heap:=h',toks:=tk }) e cl d hty ⟨.str ⟨#[c]⟩,H,I1,⟨u,rfl⟩,⟨rfl,c,ec,rfl⟩,⟨hg,st'⟩,λb hb=>(hf b hb).1⟩⟩
 done:=by
  intro X hP hw hK hc i pins s σ H E I hf st hg;subst hP hw hK;have e:i=z.cps.size:=Nat.le_antisymm st.1 hg;subst e;exact (hW X.A (I.ok.hd hc)).done s _ _ st.2 λh' tk kk=>⟨rfl,I.dz hf kk⟩
 self:=λA i s Q E st h=>Kc A i s Q E st.2 h
def LF (tl:TE):TI:=λσ H R=>tl σ H λx H1=>∃ z,x = .str z/\R (Its z) H1
theorem DU {tg:Expr}{z:Str}{t:Tok}{pins:List (Addr×Obj)}{s:Shared}{σ:St}{H:Hp}{R:It->Hp->Prop} (I:Inv X pins σ H s) (q:R (Its z) H):wpAny (model X.prog X.w) X.A (pyIter (.str z t)) (PIE X pins σ tg R) X.xe s:=by
 have fp:∀ b∈[s.heap.objs.size],b9 X pins H b:=λb hb=>by
  have e:b=s.heap.objs.size:=by simpa using hb
  subst e;exact I.qZ (NX _) (I.hok.fresh (NX _))
 cases ha:z.cps.all (· < 128) with
 | false=>
  refine wpAny_pyIter_wide ha ?_;exact ⟨s.heap.objs.size,[s.heap.objs.size],_,_,H,rfl,I.kept (t':=s.toks) λb o e=>Heap.get?_push_of_some _ e,yv (ty:= "str_iterator") _ z t (λA hA=>Walks.strWide hA _ z t) (by decide) (λA i s Q E st h=>wpAny_pyIter_striter_wide st h),
   ⟨Nat.zero_le _,_,Heap.get?_push_size _ rfl,rfl,rfl⟩,fp,q⟩
 | true=>
  refine wpAny_pyIter_ascii ha ?_;exact ⟨s.heap.objs.size,[s.heap.objs.size],_,_,H,rfl,I.kept (t':=s.toks) λb o e=>Heap.get?_push_of_some _ e,yv (ty:= "str_ascii_iterator") _ z t (λA hA=>Walks.strAscii hA _ z t) (by decide) (λA i s Q E st h=>wpAny_pyIter_striter_ascii st h),
   ⟨Nat.zero_le _,_,Heap.get?_push_size _ rfl,rfl,rfl⟩,fp,q⟩
theorem HZ {tg l:Expr}{tl:TE} (hl:PE X l tl):PI X tg l (LF tl):=by
 intro pins s σ H R I h;refine thn (hl pins s σ H _ I h) λv s1 ⟨x,H1,I1,r1,z,e,q⟩=>?_;subst e;obtain ⟨t,rfl⟩:=r1;exact DU I1 q
def Ite (K:PySem.W.Frag) (a:Addr):It:=
 ⟨λi H=>∃ xs x,SqL K H a xs/\xs[i]? = some x,λi H x H'=>∃ p v,H p=none/\(∀ xs,SqL K H a xs->xs[i]? = some v)/\x = .ref p/\H' = upd H p (.tup [.int i,v]),λi H=>∃ xs,SqL K H a xs/\xs.length<=i⟩
theorem Cz {P:Program}{w:World}{K:PySem.W.Frag}{Aa:List Expr}{k:Nat}{pos:Pos} (a it e:Addr) (hne:e≠it):Turn P w K (.Tuple Aa k pos) (Ite K a) [e,it] e (λi h=>(∃ old,IsEnum h e it i old)/\h.IsListIter it a i) where
 mem:=by simp
 obj:=λi h st b hb=>by
  obtain ⟨⟨old,he⟩,o,eo,c,d⟩:=st;rcases List.mem_cons.mp hb with z | z
  ·subst z;exact ⟨_,he,λv z=>by cases z⟩
  ·have z':b=it:=by simpa using z
   subst z';exact ⟨o,eo,λv z=>by rw [d] at z;cases z⟩
 keep:=λi h h' st kk=>by
  obtain ⟨⟨old,he⟩,o,eo,c,d⟩:=st;exact ⟨⟨old,kk e (by simp) _ he⟩,o,kk it (by simp) o eo,c,d⟩
 item:=by
  intro X hP hw hK hc i pins s σ H E I hf st hg;subst hP hw hK;obtain ⟨xs,x,hq,hx⟩:=hg;obtain ⟨its,rv,p,hz⟩:=I.list hq;obtain ⟨u,hu,ru⟩:=rv.get hx;obtain ⟨⟨old,he⟩,hit⟩:=st;refine wpAny_pyNext_enum_item he hit p.isList (x:=u) (by simpa using hu) hne λh1 ho yQ ht hsz kk=>?_;refine ⟨_,rfl,?_⟩;refine wpAny_letOwnedTupleGo_enum ho λh2 he2 sb=>?_;have ltn:∀ {b:Addr}{o:Obj},s.heap.get? b=some o->b<s.heap.objs.size:=λe=>Heap.lt_size e;have hel:e<s.heap.objs.size:=ltn he;have Nd:=hit;obtain ⟨oi,eoi,_⟩:=Nd;have hil:it<s.heap.objs.size:=ltn eoi;have hfr:H s.heap.objs.size=none:=I.hok.fresh (NX _);have new:h2.get? s.heap.objs.size=some { cls:=.type "tuple",data:=.seq #[.int i s.toks,u] }:=(sb.2 _ (Nat.ne_of_gt hel)).trans ht;have I2:Inv X pins σ (upd H s.heap.objs.size (.tup [.int i,x])) { s with heap:=h2,toks:=s.toks+1 }:=I.vc (wr:=[e,it]) hf (λb o hb eb=>by
    have hb1:b≠e:=λz=>hb (by simp [z]);have hb2:b≠it:=λz=>hb (by simp [z]);exact (sb.2 b hb1).trans (kk b o hb1 hb2 eb)) (NX _) ⟨by show 2<=sizeLine;decide,[.int i s.toks,u],.cons ⟨_,rfl⟩ (.cons ru .nil),⟨_,new,rfl,_,rfl⟩⟩
  refine ⟨.ref s.heap.objs.size,_,I2,rfl,⟨_,x,hfr,λys hy=>by rw [I.ot hy hq];exact hx,rfl,rfl⟩,⟨⟨_,by simpa using he2⟩,?_⟩,λb hb=>?_⟩
  ·obtain ⟨o,eo,c,d⟩:=yQ;exact ⟨o,(sb.2 it (Ne.symm hne)).trans eo,c,d⟩
  ·have hb':b≠s.heap.objs.size:=by
    rcases List.mem_cons.mp hb with z | z
    ·rw [z];exact Nat.ne_of_lt hel
    ·rw [show b=it by simpa using z];exact Nat.ne_of_lt hil
   rw [ay hb'];exact (hf b hb).1
 done:=by
  intro X hP hw hK hc i pins s σ H E I hf st hg;subst hP hw hK;obtain ⟨xs,hq,hx⟩:=hg;obtain ⟨its,rv,p,hz⟩:=I.list hq;have hl:=rv.length;obtain ⟨⟨old,he⟩,hit⟩:=st;exact wpAny_pyNext_enum_end (I.ok.hd hc) he hit p.isList (by simp;lia) λh' eb=>⟨rfl,I.dz (t':=s.toks) (wr:=[e,it]) hf λb o hb e'=>eb b o (λz=>hb (by simp [z])) e'⟩
 self:=λ_ _ _ _ _ st h=>by
  obtain ⟨⟨old,he⟩,_⟩:=st;exact wpAny_pyIter_enum he h
def KP (K:PySem.W.Frag) (ta:TA):TI:=λσ H R=>ta σ H λvs H1=>∃ a,vs=[.ref a]/\(∃ xs,SqL K H1 a xs)/\R (Ite K a) H1
theorem GU {Aa:List Expr}{k:Nat}{Fd:Pos}{a:Expr}{ta:TA}{p pos:Pos} (hg:Gl X "enumerate") (hm:X.mg "enumerate" = none) (ha:PA X [a] ta) (hs:starEach [a] X.env=[(false,eval a X.env)]:=by rfl):PI X (.Tuple Aa k Fd) (.Call (.Name "enumerate" p) [a] [] pos) (KP X.K ta):=by
 intro pins s σ H R I h;refine Call_ (eD I hg hm boot_enumerate (PyProof.Rows.callWith_type1 (thn (ha pos pins s σ H _ I h) λus s1 ⟨vs,H1,I1,r1,q1⟩=>?_) hs rfl));obtain ⟨a,e,⟨xs,hq⟩,q⟩:=q1;subst e;cases r1 with
 | cons r rr=>
  cases rr;cases r;obtain ⟨its,rv,pl,hz⟩:=I1.list hq;refine call_enumerate_list pl.isList λh' he hit hsz hk=>wpAny_pyIter_enum he ?_;refine ⟨s1.heap.objs.size+1,[s1.heap.objs.size+1,s1.heap.objs.size],_,_,H1,rfl,I1.kept (t':=s1.toks) hk,Cz a s1.heap.objs.size (s1.heap.objs.size+1) (Nat.succ_ne_self _),⟨⟨_,by simpa using he⟩,hit⟩,λb hb=>?_,q⟩;have hb':s1.heap.objs.size<=b:=by
   rcases List.mem_cons.mp hb with z | z
   ·rw [z];exact Nat.le_succ _
   ·rw [show b=s1.heap.objs.size by simpa using z];exact NX _
  exact I1.qZ hb' (I1.hok.fresh hb')
end
mutual
inductive Den (K:PySem.W.Frag) (H:Hp):V->PyData->Prop
 | non:Den K H .non .none
 | bl (b:Bool):Den K H (.bl b) (.bool b)
 | int (i:Int):Den K H (.int i) (.int i)
 | str {x:Str} (h:PyData.strOk x=true):Den K H (.str x) (.str x)
 | lst {a:Addr}{xs:List V}{ds:List PyData} (h:SqL K H a xs) (t:aI K H xs ds):Den K H (.ref a) (.list ds)
 | tup {a:Addr}{xs:List V}{ds:List PyData} (h:SqT K H a xs) (t:aI K H xs ds):Den K H (.ref a) (.tuple ds)
inductive aI (K:PySem.W.Frag) (H:Hp):List V->List PyData->Prop
 | nil:aI K H [] []
 | cons {x:V}{xs:List V}{d:PyData}{ds:List PyData} (h:Den K H x d) (t:aI K H xs ds):aI K H (x::xs) (d::ds)
end
section
variable {K:PySem.W.Frag}{H H':Hp}
theorem aI.length:∀ {xs:List V}{ds:List PyData},aI K H xs ds->xs.length=ds.length
 | _,_,.nil=>rfl
 | _,_,.cons _ t=>by rw [List.length_cons,List.length_cons,t.length]
theorem aI.append:∀ {xs ys:List V}{ds es:List PyData},aI K H xs ds->aI K H ys es->aI K H (xs++ys) (ds++es)
 | _,_,_,_,.nil,s=>s
 | _,_,_,_,.cons r t,s=>.cons r (t.append s)
theorem aI.get:∀ {xs:List V}{ds:List PyData}{i:Nat}{x:V},aI K H xs ds->xs[i]? = some x->∃ d,ds[i]? = some d/\Den K H x d
 | _,_,_,_,.nil,e=>by simp at e
 | _,_,0,_,.cons r _,e=>by simp at e;subst e;exact ⟨_,rfl,r⟩
 | _,_,i+1,x,.cons _ t,e=>by
  obtain ⟨u,h1,h2⟩:=aI.get (i:=i) (x:=x) t (by simpa using e);exact ⟨u,by simpa using h1,h2⟩
theorem aI.getD:∀ {xs:List V}{ds:List PyData}{i:Nat}{d:PyData},aI K H xs ds->ds[i]? = some d->∃ x,xs[i]? = some x/\Den K H x d
 | _,_,_,_,.nil,e=>by simp at e
 | _,_,0,_,.cons r _,e=>by simp at e;subst e;exact ⟨_,rfl,r⟩
 | _,_,i+1,x,.cons _ t,e=>by
  obtain ⟨u,h1,h2⟩:=aI.getD (i:=i) t (by simpa using e);exact ⟨u,by simpa using h1,h2⟩
mutual
theorem Den.keep (h1:∀ a xs,SqL K H a xs->SqL K H' a xs) (h2:∀ a xs,SqT K H a xs->SqT K H' a xs):∀ {v:V}{d:PyData},Den K H v d->Den K H' v d
 | _,_,.non=>.non
 | _,_,.bl b=>.bl b
 | _,_,.int i=>.int i
 | _,_,.str h=>.str h
 | _,_,.lst h t=>.lst (h1 _ _ h) (aI.keep h1 h2 t)
 | _,_,.tup h t=>.tup (h2 _ _ h) (aI.keep h1 h2 t)
theorem aI.keep (h1:∀ a xs,SqL K H a xs->SqL K H' a xs) (h2:∀ a xs,SqT K H a xs->SqT K H' a xs):∀ {v:List V}{d:List PyData},aI K H v d->aI K H' v d
 | _,_,.nil=>.nil
 | _,_,.cons r t=>.cons (Den.keep h1 h2 r) (aI.keep h1 h2 t)
end
theorem af.su {a:Addr}{xs:List V} (e:af H H') (h:SqT K H a xs):SqT K H' a xs:=by
 rcases h with (h | ⟨o,h⟩) | h
 ·exact .inl (.inl (e _ _ h))
 ·exact .inl (.inr ⟨o,e _ _ h⟩)
 ·exact .inr h
theorem Den.same {v:V}{d:PyData} (e:af H H') (h:Den K H v d):Den K H' v d:=h.keep (λ_ _ q=>e.seq q) λ_ _ q=>e.su q
theorem aI.same {v:List V}{d:List PyData} (e:af H H') (h:aI K H v d):aI K H' v d:=h.keep (λ_ _ q=>e.seq q) λ_ _ q=>e.su q
mutual
theorem Den.lay:∀ {v:V}{d:PyData},Den K H v d->d.canLay0=true
 | _,_,.non=>rfl
 | _,_,.bl b=>rfl
 | _,_,.int i=>rfl
 | _,_,.str h=>h
 | _,_,.lst h t=>aI.lay t
 | _,_,.tup h t=>aI.lay t
theorem aI.lay:∀ {v:List V}{d:List PyData},aI K H v d->PyData.canLayAll0 d=true
 | _,_,.nil=>rfl
 | _,_,.cons r t=>by rw [PyData.canLayAll0,Den.lay r,aI.lay t];rfl
end
end
section
variable {X:Cx}{pins:List (Addr×Obj)}{σ:St}{H:Hp}{s:Shared}
mutual
theorem Inv.reads (I:Inv X pins σ H s):∀ {v:V}{d:PyData}{u:Value},Den X.K H v d->RelV v u->∃ as,Reads s.heap u d as
 | _,_,_,.non,r=>by cases r;exact ⟨_,.none⟩
 | _,_,_,.bl b,r=>by cases r;exact ⟨_,.bool b⟩
 | _,_,_,.int i,r=>by obtain ⟨t,rfl⟩:=r;exact ⟨_,.int i t⟩
 | _,_,_,.str (x:=x) h,r=>by obtain ⟨t,rfl⟩:=r;exact ⟨_,.str x t⟩
 | _,_,_,.lst h t,r=>by
  cases r;obtain ⟨its,rv,⟨o,n,e,c,_,d⟩,_⟩:=I.list h;obtain ⟨as,ra⟩:=I.readsAll t rv;exact ⟨_,.list e c d (by simpa using ra)⟩
 | _,_,_,.tup h t,r=>by
  cases r;obtain ⟨its,rv,⟨o,e,c,n,d⟩,_⟩:=I.tuple h;obtain ⟨as,ra⟩:=I.readsAll t rv;exact ⟨_,.tuple e c d (by simpa using ra)⟩
theorem Inv.readsAll (I:Inv X pins σ H s):∀ {vs:List V}{ds:List PyData}{us:List Value},aI X.K H vs ds->aV vs us->∃ as,ReadsAll s.heap us ds as
 | _,_,_,.nil,.nil=>⟨_,.nil⟩
 | _,_,_,.cons h t,.cons r rr=>by
  obtain ⟨as,ra⟩:=I.reads h r;obtain ⟨bs,rb⟩:=I.readsAll t rr;exact ⟨_,.cons ra rb⟩
end
def DK (K:PySem.W.Frag):R2:=λx y H Q=>∃ d e,Den K H x d/\Den K H y e/\d.depth<=100/\Q (.bl (PyData.eqv d e)) H
def zw (K:PySem.W.Frag):R2:=λx y H Q=>∃ d e,Den K H x d/\Den K H y e/\d.depth<=100/\Q (.bl (!PyData.eqv d e)) H
theorem qO {k a b:Nat}{A:Around} (hr:cC k A) (h:a<=100):A.units+min a b<cLine:=by
 have:=hr.un;have:min a b<=a:=Nat.min_le_left _ _;lia
theorem vW {k:Nat} (hr:cC k X.A):OpR X (compareOp .Eq) (DK X.K):=by
 intro pins s σ H x y v u Q I rx ry h;obtain ⟨d,e,hd,he,hl,q⟩:=h;obtain ⟨as,ra⟩:=I.reads hd rx;obtain ⟨bs,rb⟩:=I.reads he ry;exact SeqAt.compareEq_reads ra rb hd.lay he.lay (qO hr hl) ⟨.bl _,H,I,rfl,q⟩
theorem qz {k:Nat} (hr:cC k X.A):OpR X (compareOp .NotEq) (zw X.K):=by
 intro pins s σ H x y v u Q I rx ry h;obtain ⟨d,e,hd,he,hl,q⟩:=h;obtain ⟨as,ra⟩:=I.reads hd rx;obtain ⟨bs,rb⟩:=I.reads he ry;exact SeqAt.compareNe_reads ra rb hd.lay he.lay (qO hr hl) ⟨.bl _,H,I,rfl,q⟩
def KR:V->Option Int->Option Int->Hp->VK->Prop:=λx lo hi H Q=>∃ z,x = .str z/\z.length<=sizeLine/\Q (.str (Txt.slice z lo hi)) H
theorem Jm:SlR X KR:=by
 intro pins s σ H x v vl vu lo hi sl Q I rx hs pl pu h;obtain ⟨z,rfl,hz,q⟩:=h;obtain ⟨t,rfl⟩:=rx;refine ⟨"str",_,F.slot_str_getitem.lookup,typeIs_str _ _ _,?_⟩;have fin:∀ t' k,EP X pins σ Q (.str (Txt.slice z lo hi) t') { s with toks:=k }:=λt' k=>⟨.str _,H,I.tok _,⟨_,rfl⟩,q⟩;cases pl with
 | none=>
  cases pu with
  | none=>exact wpAny_getItem_str_slice (l:=none) (u:=none) (st:=none) hs rfl (post_val_or_str ⟨N2 (Txt.slice_le z _ _) hz,fin⟩)
  | int j u=>exact wpAny_getItem_str_slice (l:=none) (u:=some (j,u)) (st:=none) hs rfl (post_val_or_str ⟨N2 (Txt.slice_le z _ _) hz,fin⟩)
 | int i t1=>
  cases pu with
  | none=>exact wpAny_getItem_str_slice (l:=some (i,t1)) (u:=none) (st:=none) hs rfl (post_val_or_str ⟨N2 (Txt.slice_le z _ _) hz,fin⟩)
  | int j u=>exact wpAny_getItem_str_slice (l:=some (i,t1)) (u:=some (j,u)) (st:=none) hs rfl (post_val_or_str ⟨N2 (Txt.slice_le z _ _) hz,fin⟩)
theorem vC:∀ (l:List (Str×Tok)),aV ((l.map (·.1)).map V.str) (strValues l)
 | []=>.nil
 | p::r=>.cons ⟨p.2,rfl⟩ (vC r)
def JL:V->List V->Hp->VK->Prop:=λx vs H Q=>∃ z y,x = .str z/\vs=[.str y]/\y.length≠0/\z.length+2<=sizeLine/\∀ l,H l=none->Q (.ref l) (upd H l (.lst ((Txt.split z y).map V.str)))
theorem split_len (z y:Str) (hz:z.length+2<=sizeLine):(Builtin.Str.partsBetween z (Builtin.Str.occurrences z y 0 z.length (z.length+1)) y.length).length<=sizeLine:=by
 have e1:=StrLaws.occ_length_le z y 0 z.length (z.length+1)
 (rw [length_partsBetween];lia)
theorem sZ:MtR X "str.split" JL:=by
 intro pins s σ H x vs v us Q I rx rv h;obtain ⟨z,y,rfl,rfl,hy,hz,q⟩:=h;obtain ⟨t,rfl⟩:=rx;obtain ⟨u,rfl,ru⟩:=rv.one;obtain ⟨t',rfl⟩:=ru;have hn:=split_len z y hz;have fin:∀ (l:List (Str×Tok)) (tk:Nat),l.map (·.1)=Txt.split z y->EP X pins σ Q (.ref s.heap.objs.size) { s with heap:=s.heap.push { cls:=.type "list",data:=.seq (strValues l).toArray },toks:=tk }:=λl tk e=>by
  have hl:((Txt.split z y).map V.str).length<=sizeLine:=by
   rw [NU];unfold Txt.split
   split
   ·show 1<=sizeLine;lia
   ·split
    ·show 1<=sizeLine;lia
    ·exact hn
  refine ⟨.ref s.heap.objs.size,_,I.laid (o:=.lst ((Txt.split z y).map V.str)) (λb ob e=>Heap.get?_push_of_some _ e) (NX _) ⟨hl,strValues l,0,?_,Heap.get?_push_size _ rfl⟩,rfl,q _ (I.hok.fresh (NX _))⟩;rw [<-e];exact vC l
 have hy':(y.length == 0)=false:=by simpa using hy
 cases h1:(decide (z.length<y.length) || decide (Builtin.Str.strKind z<Builtin.Str.strKind y))
 ·cases hf:(Builtin.Str.occurrences z y 0 z.length (z.length+1)).isEmpty
  ·refine call_meets F.slot_str_split (typeIs_str _ _ _) F.entry_str_split (F.args_str_split_2 _ _) (meets_str_split_sep z y t t' h1 hy' hf (by lia) hn) ?_;show wants (EP X pins σ Q) X.xe _ { s with toks:=_,heap:=s.heap.push { cls:=.type "list",data:=.seq (strsFrom s.toks (Builtin.Str.partsBetween z (Builtin.Str.occurrences z y 0 z.length (z.length+1)) y.length)).toArray } };rw [strsFrom_eq];exact fin (numbered s.toks _) _ ((numbered_texts _ _).trans ((if_neg (ne_true_of_eq_false h1)).trans (if_neg (ne_true_of_eq_false hf))).symm)
  ·exact call_meets F.slot_str_split (typeIs_str _ _ _) F.entry_str_split (F.args_str_split_2 _ _) (meets_str_split_not_found z y t t' h1 hy' hf)
    (fin [(z,t)] s.toks ((if_neg (ne_true_of_eq_false h1)).trans (if_pos hf)).symm)
 ·exact call_meets F.slot_str_split (typeIs_str _ _ _) F.entry_str_split (F.args_str_split_2 _ _) (meets_str_split_cannot_occur z y t t' h1)
   (fin [(z,t)] s.toks (if_pos h1).symm)
theorem AM:∀ {ys:List Str}{us:List Value},aV (ys.map V.str) us->∃ l:List (Str×Tok),us=strValues l/\l.map (·.1)=ys
 | [],_,.nil=>⟨[],rfl,rfl⟩
 | y::ys,_,.cons r t=>by
  obtain ⟨tk,rfl⟩:=r;obtain ⟨l,rfl,rfl⟩:=AM t;exact ⟨(y,tk)::l,rfl,rfl⟩
def rJoin (K:PySem.W.Frag):V->List V->Hp->VK->Prop:=λx vs H Q=>∃ z l ys,x = .str z/\vs=[.ref l]/\SqL K H l (ys.map V.str)/\JoinOk z ys=true/\Q (.str (Txt.join z ys)) H
theorem my:MtR X "str.join" (rJoin X.K):=by
 intro pins s σ H x vs v us Q I rx rv h;obtain ⟨z,l,ys,rfl,rfl,hl,hok,q⟩:=h;obtain ⟨t,rfl⟩:=rx;obtain ⟨u,rfl,ru⟩:=rv.one;cases ru;obtain ⟨its,r,pl,_⟩:=I.list hl;obtain ⟨l',rfl,e⟩:=AM r;exact SC.join pl.isList e hok λt' k=>⟨.str _,H,I.tok _,⟨_,rfl⟩,q⟩
end
mutual
def ltv:PyData->PyData->Bool
 | .int a,.int b=>decide (a<b)
 | .str x,.str y=>decide (x.cps.toList<y.cps.toList)
 | .list xs,.list ys=>aL xs ys
 | .tuple xs,.tuple ys=>aL xs ys
 | _,_=>false
def aL:List PyData->List PyData->Bool
 | [],[]=>false
 | [],_::_=>true
 | _::_,[]=>false
 | x::xs,y::ys=>if PyData.eqv x y=true then aL xs ys else ltv x y
end
mutual
def nU:PyData->PyData->Bool
 | .int _,.int _=>true
 | .str _,.str _=>true
 | .list xs,.list ys=>cE xs ys
 | .tuple xs,.tuple ys=>cE xs ys
 | _,_=>false
def cE:List PyData->List PyData->Bool
 | [],_=>true
 | _::_,[]=>true
 | x::xs,y::ys=>if PyData.eqv x y=true then cE xs ys else nU x y
end
theorem aZ (x y:PyData) (xs ys:List PyData):aL (x::xs) (y::ys)=if PyData.eqv x y=true then aL xs ys else ltv x y:=by rw [aL]
theorem fW (x y:PyData) (xs ys:List PyData):cE (x::xs) (y::ys)=if PyData.eqv x y=true then cE xs ys else nU x y:=by rw [cE]
def zp (A:Around) (s:Shared) (y x:Value) (b:Bool):Prop:=
 ∀ (prog:Program) (w:World) (E:Value->Shared->Prop) (Q:Value->Shared->Prop),Q (.bool b) s->wpAny (model prog w) A (richCompare .Lt y x) Q E s
def o6 (xs ys:List PyData):Prop:=∀ x y,x∈xs->y∈ys->nU x y=true->∀ (A:Around) (s:Shared) (a b:Value) (as bs:List Addr),Reads s.heap a x as->Reads s.heap b y bs->x.canLay0=true->y.canLay0=true->A.units+x.depth<cLine->zp A s a b (ltv x y)
theorem o6.tail {x y:PyData}{xs ys:List PyData} (h:o6 (x::xs) (y::ys)):o6 xs ys:=λa b ha hb=>h a b (NY _ ha) (NY _ hb)
section
open PySem.SeqAt
open PySem.AutoSeq1 (wpAny_loadPart')
open PySem.MeetsSeq PySem.MeetsSeq2 PySem.MeetsSeq3
theorem fF {x:PyData}{xs:List PyData}{k:Nat} (h:k+PyData.depthAll (x::xs)<cLine):k+x.depth<cLine:=by
 rw [PyData.depthAll] at h;have:=Nat.le_max_left x.depth (PyData.depthAll xs);lia
theorem nq {x:PyData}{xs:List PyData}{k:Nat} (h:k+PyData.depthAll (x::xs)<cLine):k+PyData.depthAll xs<cLine:=by
 rw [PyData.depthAll] at h;have:=Nat.le_max_right x.depth (PyData.depthAll xs);lia
theorem wM {k a b:Nat} (h:k+a<cLine):k+min a b<cLine:=by
 have:=Nat.min_le_left a b;lia
def Sq (T:String) (hp:Heap) (a:Addr) (its:Array Value):Prop:=∃ n dd sl,hp.get? a=some { cls:=.type T,dict:=dd,data:=.seq its n,slots:=sl }
structure Sqs (hp:Heap) (i:Nat) (its iC:Array Value) (xs ys:List PyData):Prop where
 in1:i<=its.size
 in2:i<=iC.size
 r1:∃ as,ReadsAll hp (its.toList.drop i) xs as
 r2:∃ bs,ReadsAll hp (iC.toList.drop i) ys bs
theorem Bw {its:Array Value}{i:Nat} (h:its.size<=i):its[((i:Nat):Int).toNat]? = none:=by
 rw [Int.toNat_natCast];exact Array.getElem?_eq_none h
theorem some_at {its:Array Value}{i:Nat} (h:i<its.size):its[((i:Nat):Int).toNat]? = some its[i]:=by
 rw [Int.toNat_natCast];exact Array.getElem?_eq_getElem h
theorem Ef (i:Nat):((i:Int)+1)=((i+1:Nat):Int):=rfl
theorem Sqs.JX {hp:Heap}{i:Nat}{its iC:Array Value}{xs ys:List PyData} (q:Sqs hp i its iC xs ys):xs.length=its.size - i:=by
 obtain ⟨as,r⟩:=q.r1;have:=ReadsAll.length _ _ _ r;rw [List.length_drop,Array.length_toList] at this;exact this.symm
theorem Sqs.Kk {hp:Heap}{i:Nat}{its iC:Array Value}{xs ys:List PyData} (q:Sqs hp i its iC xs ys):ys.length=iC.size - i:=by
 obtain ⟨bs,r⟩:=q.r2;have:=ReadsAll.length _ _ _ r;rw [List.length_drop,Array.length_toList] at this;exact this.symm
theorem Sqs.over {hp:Heap}{i:Nat}{its iC:Array Value}{xs ys:List PyData} (q:Sqs hp i its iC xs ys) (h:its.size<=i\/iC.size<=i):aL xs ys=decide (its.size<iC.size)/\aL ys xs=decide (its.size > iC.size):=by
 have z1:=q.JX;have z2:=q.Kk;have i1:=q.in1;have i2:=q.in2;cases xs with
 | nil=>
  rw [List.length_nil] at z1;cases ys with
  | nil=>
   rw [List.length_nil] at z2;rw [aL];exact ⟨(decide_eq_false (by lia)).symm,(decide_eq_false (by lia)).symm⟩
  | cons y ys=>
   rw [List.length_cons] at z2;rw [aL,aL];exact ⟨(decide_eq_true (by lia)).symm,(decide_eq_false (by lia)).symm⟩
 | cons x xs=>
  rw [List.length_cons] at z1;cases ys with
  | nil=>
   rw [List.length_nil] at z2;rw [aL,aL];exact ⟨(decide_eq_false (by lia)).symm,(decide_eq_true (by lia)).symm⟩
  | cons y ys=>
   rw [List.length_cons] at z2;lia
theorem Sqs.next {hp:Heap}{i:Nat}{its iC:Array Value}{xs ys:List PyData} (q:Sqs hp i its iC xs ys) (h1:i<its.size) (h2:i<iC.size):∃ x xs' y ys',xs=x::xs'/\ys=y::ys'/\(∃ as,Reads hp its[i] x as)/\(∃ bs,Reads hp iC[i] y bs)/\Sqs hp (i+1) its iC xs' ys':=by
 obtain ⟨_,_,⟨as,ra⟩,bs,rb⟩:=q;rw [List.drop_eq_getElem_cons (by rw [Array.length_toList];exact h1),Array.getElem_toList] at ra;rw [List.drop_eq_getElem_cons (by rw [Array.length_toList];exact h2),Array.getElem_toList] at rb;cases ra with
 | cons r1 t1=>
  cases rb with
  | cons r2 t2=>exact ⟨_,_,_,_,rfl,rfl,⟨_,r1⟩,⟨_,r2⟩,h1,h2,⟨_,t1⟩,⟨_,t2⟩⟩
theorem xj {x:PyData}{xs:List PyData} (h:PyData.canLayAll0 (x::xs)=true):x.canLay0=true/\PyData.canLayAll0 xs=true:=by simpa [PyData.canLayAll0] using h
theorem uc (l b:Addr) (items d9:Array Value) (xs ys:List PyData) (ih:o6 xs ys) (b8:cE xs ys=true) (hlx:PyData.canLayAll0 xs=true) (hly:PyData.canLayAll0 ys=true) :
  Meets (Builtin.«tuple.__lt__» ⟨[.ref l,.ref b],[]⟩)
   (λA R s=>Sq "tuple" s.heap l items/\Sq "tuple" s.heap b d9/\Sqs s.heap 0 items d9 xs ys/\A.in1.units+PyData.depthAll xs<cLine/\R (.ok (.ret (.bool (aL xs ys)))) s):=
 .of_wp λprog w A R s h=>by
  obtain ⟨hp,g,d,tk,os⟩:=s;obtain ⟨⟨n,dd,sl,hl⟩,⟨n2,dd2,sl2,hb⟩,⟨_,_,⟨as,hra⟩,bs,hrb⟩,hu,h⟩:=h;rw [List.drop_zero] at hra hrb;have f2:=AutoSeq1.sub_tuple_tuple;have z1:items.size=xs.length:=by rw [<-ReadsAll.length _ _ _ hra];simp
  have z2:d9.size=ys.length:=by rw [<-ReadsAll.length _ _ _ hrb];simp
  wp_walk using wpAny_loadPart' hl,wpAny_loadPart' hb,wpAny_forIn_list _ (λrest b s'=>b.1=none/\s' = ⟨hp,g,d,tk,os⟩/\∃ (vs ws:List Value) (xs' ys':List PyData) (as bs:List Addr),rest=vs.zip ws /\
   ReadsAll hp vs xs' as/\ReadsAll hp ws ys' bs/\o6 xs' ys'/\cE xs' ys' = true/\PyData.canLayAll0 xs' = true/\PyData.canLayAll0 ys' = true/\A.in1.units+PyData.depthAll xs' < cLine/\xs'.length+d9.size=ys'.length+items.size/\R (.ok (.ret (.bool (aL xs' ys')))) ⟨hp,g,d,tk,os⟩) _
  case turn=>
   rintro ⟨y,x⟩ rest b s' ⟨hb',rfl,vs,ws,xs',ys',as,bs,hz,hvi,hwi,iht,hct,MT,Mn,hu',hlen,hR⟩;cases hvi with
   | nil=>rw [List.zip_nil_left] at hz;cases hz
   | @cons v0 vs0 d0 ds0 as0 as1 r1 hvi'=>
    cases hwi with
    | nil=>rw [List.zip_nil_right] at hz;cases hz
    | @cons w0 ws0 e0 es0 bs0 bs1 r2 hwi'=>
     rw [List.zip_cons_cons] at hz;injection hz with hyx hrest;injection hyx with hy hx;subst hy hx;rw [aZ] at hR;rw [fW] at hct;have IF:d0.canLay0=true/\PyData.canLayAll0 ds0=true:=by simpa [PyData.canLayAll0] using MT
     have JE:e0.canLay0=true/\PyData.canLayAll0 es0=true:=by simpa [PyData.canLayAll0] using Mn
     simp only [List.length_cons] at hlen;have he:=eqAt_reads d0 e0 A.in1 ⟨hp,g,d,tk,os⟩ y x as0 bs0 r1 r2 IF.1 JE.1 (wM (fF hu'));refine wpAny_bind (he prog w _ _ ?_);cases hq:PyData.eqv d0 e0 with
     | true=>
      rw [hq,if_pos rfl] at hR hct
      wp_walk
      exact ⟨rfl,rfl,_,_,_,_,_,_,hrest,hvi',hwi',iht.tail,hct,IF.2,JE.2,nq hu',by lia,hR⟩
     | false=>
      rw [hq,if_neg N6] at hR hct;have hri:=iht d0 e0 N4 N4 hct A.in1 ⟨hp,g,d,tk,os⟩ y x as0 bs0 r1 r2 IF.1 JE.1 (fF hu') prog w
      wp_walk using hri
      exact ⟨_,rfl,by simpa using hR⟩
  case fin=>
   rintro ⟨b1,b2⟩ s' ⟨hb',rfl,vs,ws,xs',ys',as,bs,hz,hvi,hwi,_,_,_,_,_,hlen,hR⟩;simp only at hb';subst hb';have hv:aL xs' ys' = decide (items.size<d9.size):=by
    cases hvi with
    | nil=>
     cases hwi with
     | nil=>
      simp only [List.length_nil] at hlen;rw [aL];exact (decide_eq_false (by lia)).symm
     | cons _ _=>
      simp only [List.length_nil,List.length_cons] at hlen;rw [aL];exact (decide_eq_true (by lia)).symm
    | cons _ _=>
     cases hwi with
     | nil=>
      simp only [List.length_nil,List.length_cons] at hlen;rw [aL];exact (decide_eq_false (by lia)).symm
     | cons _ _=>
      rw [List.zip_cons_cons] at hz;cases hz
   rw [hv] at hR
   wp_walk
   exact ⟨_,rfl,by simpa [Builtin.Tuple.tupleCompareSizes] using hR⟩
  case h=>
   exact ⟨rfl,rfl,items.toList,d9.toList,xs,ys,as,bs,rfl,hra,hrb,ih,b8,hlx,hly,hu,by lia,h⟩
theorem vP (l b:Addr) (items d9:Array Value) (k:Nat):∀ (i:Nat) (xs ys:List PyData),items.size - i=k->o6 xs ys->cE xs ys=true->PyData.canLayAll0 xs=true->PyData.canLayAll0 ys=true ->
  Meets (Builtin.«list.__eq__.loop» ⟨[.ref l,.ref b,rawInt i,rawInt 0],[]⟩)
   (λA R s=>Sq "list" s.heap l items/\Sq "list" s.heap b d9/\Sqs s.heap i items d9 xs ys/\A.in1.units+PyData.depthAll xs<cLine/\R (.ok (.ret (.bool (aL xs ys)))) s):=by
 induction k with
 | zero=>
  intro i xs ys hk _ _ _ _ prog w A R s h;obtain ⟨hp,g,d,tk,os⟩:=s;obtain ⟨⟨n,dd,sl,hl⟩,⟨n2,dd2,sl2,hb⟩,sq,_,h⟩:=h;rw [(sq.over (.inl (by lia))).1] at h
  wp_walk using wpAny_loadPart' hl,wpAny_loadPart' hb
  rw [Bw (its:=items) (i:=i) (by lia)]
  wp_walk using wpAny_loadPart' hl,wpAny_loadPart' hb
  exact h
 | succ k ihk=>
  intro i xs ys hk ih b8 hlx hly prog w A R s h;obtain ⟨hp,g,d,tk,os⟩:=s;obtain ⟨L1,L2,sq,hu,h⟩:=h;obtain ⟨n,dd,sl,hl⟩:=id L1;obtain ⟨n2,dd2,sl2,hb⟩:=id L2;have lt1:i<items.size:=by lia
  wp_walk using wpAny_loadPart' hl,wpAny_loadPart' hb
  rw [some_at lt1];rcases Nat.lt_or_ge i d9.size with lt2 | ge2
  ·obtain ⟨x,xs,y,ys,rfl,rfl,⟨as,rx⟩,⟨bs,ry⟩,sq'⟩:=sq.next lt1 lt2;obtain ⟨lx,lxs⟩:=xj hlx;obtain ⟨ly,lys⟩:=xj hly;rw [aZ] at h;rw [fW] at b8;rw [some_at lt2];refine wpAny_bind (eqAt_reads x y A.in1 _ _ _ as bs rx ry lx ly (wM (fF hu)) prog w _ _ ?_);cases hq:PyData.eqv x y
   ·simp only [hq,Bool.false_eq_true,if_false] at h b8;have less:=ih x y N4 N4 b8 A.in1 ⟨hp,g,d,tk,os⟩ _ _ as bs rx ry lx ly (fF hu) prog w
    wp_walk using wpAny_loadPart' hl,wpAny_loadPart' hb
    rw [some_at lt1,some_at lt2]
    wp_walk using less
    exact h
   ·simp only [hq,if_true] at h b8
    wp_walk
    rw [Ef];have on:=ihk (i+1) xs ys (by lia) ih.tail b8 lxs lys prog w A R _ ⟨L1,L2,sq',nq hu,h⟩;exact ⟨plainId_quiet plain_eq_loop _,codeAny_builtin entry_eq_loop (by rw [Around.under_plainId plain_eq_loop];exact on)⟩
  ·rw [(sq.over (.inr ge2)).1] at h;rw [Bw (its:=d9) (i:=i) ge2]
   wp_walk using wpAny_loadPart' hl,wpAny_loadPart' hb
   exact h
theorem wc (l b:Addr) (items d9:Array Value) (xs ys:List PyData) (ih:o6 xs ys) (b8:cE xs ys=true) (hlx:PyData.canLayAll0 xs=true) (hly:PyData.canLayAll0 ys=true) :
  Meets (Builtin.«list.__lt__» ⟨[.ref l,.ref b],[]⟩)
   (λA R s=>Sq "list" s.heap l items/\Sq "list" s.heap b d9/\Sqs s.heap 0 items d9 xs ys/\A.in1.units+PyData.depthAll xs<cLine/\R (.ok (.ret (.bool (aL xs ys)))) s):=by
 intro prog w A R s h;have on:=vP l b items d9 _ 0 xs ys rfl ih b8 hlx hly prog w A R s h;obtain ⟨hp,g,d,tk,os⟩:=s;obtain ⟨⟨n,dd,sl,hl⟩,⟨n2,dd2,sl2,hb⟩,_⟩:=h;have both:=AutoSeq1.sub_list_list
 wp_walk using wpAny_loadPart' hl,wpAny_loadPart' hb
 exact ⟨plainId_quiet plain_eq_loop _,codeAny_builtin entry_eq_loop (by rw [Around.under_plainId plain_eq_loop];exact on)⟩
theorem pT {x:PyData}:∀ {xs:List PyData},x∈xs->x.depth<=PyData.depthAll xs
 | y::ys,h=>by
  rw [PyData.depthAll]
  (rcases List.mem_cons.mp h with e | h)
  ·subst e;exact Nat.le_max_left _ _
  ·exact N2 (pT h) (Nat.le_max_right _ _)
end
section
open PySem.SeqAt
open PySem.MeetsSeq PySem.MeetsSeq2 PySem.MeetsSeq3
theorem zq {A:Around}{s:Shared}{l b:Addr}{o o2:Obj}{vs ws:Array Value}{n n2:Nat}{xs ys:List PyData}{as bs:List Addr} (h1:s.heap.get? l=some o) (c1:o.cls = .type "list") (d1:o.data = .seq vs n) (h2:s.heap.get? b=some o2) (c2:o2.cls = .type "list") (d2:o2.data = .seq ws n2)
  (ra:ReadsAll s.heap vs.toList xs as) (rb:ReadsAll s.heap ws.toList ys bs) (ih:o6 xs ys) (b8:cE xs ys=true) (hlx:PyData.canLayAll0 xs=true) (hly:PyData.canLayAll0 ys=true) (hu:A.units+(PyData.depthAll xs+1)<cLine):zp A s (.ref l) (.ref b) (aL xs ys):=λprog w E Q h=>by
 obtain ⟨cls,dd,data,sl⟩:=o;obtain ⟨Lb,dd2,data2,sl2⟩:=o2;simp only at c1 d1 c2 d2;subst c1 d1 c2 d2;exact richCompare_meets_room (op:=.Lt) ⟨_,h1,rfl⟩ ⟨_,h2,rfl⟩ F.slot_list_lt F.entry_list_lt (F.args_list_lt_2 _ _) (wc l b vs ws xs ys ih b8 hlx hly)
  ⟨⟨_,_,_,h1⟩,⟨_,_,_,h2⟩,⟨Nat.zero_le _,Nat.zero_le _,⟨_,ra⟩,⟨_,rb⟩⟩,by show A.units+1+PyData.depthAll xs<cLine;lia,show Value.bool (aL xs ys)≠Value.notImplemented/\Q (.bool (aL xs ys)) s from ⟨(λx=>nomatch x),h⟩⟩ (by lia)
theorem yF {A:Around}{s:Shared}{l b:Addr}{o o2:Obj}{vs ws:Array Value}{n n2:Nat}{xs ys:List PyData}{as bs:List Addr} (h1:s.heap.get? l=some o) (c1:o.cls = .type "tuple") (d1:o.data = .seq vs n) (h2:s.heap.get? b=some o2) (c2:o2.cls = .type "tuple") (d2:o2.data = .seq ws n2)
  (ra:ReadsAll s.heap vs.toList xs as) (rb:ReadsAll s.heap ws.toList ys bs) (ih:o6 xs ys) (b8:cE xs ys=true) (hlx:PyData.canLayAll0 xs=true) (hly:PyData.canLayAll0 ys=true) (hu:A.units+(PyData.depthAll xs+1)<cLine):zp A s (.ref l) (.ref b) (aL xs ys):=λprog w E Q h=>by
 obtain ⟨cls,dd,data,sl⟩:=o;obtain ⟨Lb,dd2,data2,sl2⟩:=o2;simp only at c1 d1 c2 d2;subst c1 d1 c2 d2;exact richCompare_meets_room (op:=.Lt) ⟨_,h1,rfl⟩ ⟨_,h2,rfl⟩ F.slot_tuple_lt F.entry_tuple_lt (F.args_tuple_lt_2 _ _) (uc l b vs ws xs ys ih b8 hlx hly)
  ⟨⟨_,_,_,h1⟩,⟨_,_,_,h2⟩,⟨Nat.zero_le _,Nat.zero_le _,⟨_,ra⟩,⟨_,rb⟩⟩,by show A.units+1+PyData.depthAll xs<cLine;lia,show Value.bool (aL xs ys)≠Value.notImplemented/\Q (.bool (aL xs ys)) s from ⟨(λx=>nomatch x),h⟩⟩ (by lia)
theorem xy {A:Around}{s:Shared}{a b:Value}{i j:Int}{as bs:List Addr} (ra:Reads s.heap a (.int i) as) (rb:Reads s.heap b (.int j) bs):zp A s a b (ltv (.int i) (.int j)):=by
 cases ra with
 | int i t=>
  cases rb with
  | int j u=>intro prog w E Q h;exact HT.EZ A s i t j u prog w E Q (by rw [ltv] at h;exact h)
theorem xp {A:Around}{s:Shared}{a b:Value}{x y:Str}{as bs:List Addr} (ra:Reads s.heap a (.str x) as) (rb:Reads s.heap b (.str y) bs):zp A s a b (ltv (.str x) (.str y)):=by
 cases ra with
 | str x t=>
  cases rb with
  | str y u=>intro prog w E Q h;exact (PyProof.Rows.lt_str (by rw [ltv] at h;exact h):wpAny (model prog w) A (compareOp .Lt (.str x t) (.str y u)) Q E s)
theorem vb {da db:PyData} (h:nU da db=true):(∃ i j,da = .int i/\db = .int j)\/(∃ x y,da = .str x/\db = .str y)\/(∃ xs ys,da = .list xs/\db = .list ys/\cE xs ys=true)\/∃ xs ys,da = .tuple xs/\db = .tuple ys/\cE xs ys=true:=by
 unfold nU at h
 split at h
 ·exact .inl ⟨_,_,rfl,rfl⟩
 ·exact .inr (.inl ⟨_,_,rfl,rfl⟩)
 ·exact .inr (.inr (.inl ⟨_,_,rfl,rfl,h⟩))
 ·exact .inr (.inr (.inr ⟨_,_,rfl,rfl,h⟩))
 ·cases h
theorem tW:∀ (n:Nat) (da db:PyData),da.depth<=n->nU da db=true->∀ (A:Around) (s:Shared) (a b:Value) (as bs:List Addr),Reads s.heap a da as->Reads s.heap b db bs->da.canLay0=true->db.canLay0=true->A.units+da.depth<cLine->zp A s a b (ltv da db):=by
 intro n
 induction n with
 | zero=>
  intro da db hd hc A s a b as bs ra rb ha hb hu;rcases vb hc with ⟨i,j,rfl,rfl⟩ | ⟨x,y,rfl,rfl⟩ | ⟨xs,ys,rfl,rfl,hc⟩ | ⟨xs,ys,rfl,rfl,hc⟩
  ·exact xy ra rb
  ·exact xp ra rb
  ·rw [PyData.depth] at hd;lia
  ·rw [PyData.depth] at hd;lia
 | succ n ih=>
  intro da db hd hc A s a b as bs ra rb ha hb hu;rcases vb hc with ⟨i,j,rfl,rfl⟩ | ⟨x,y,rfl,rfl⟩ | ⟨xs,ys,rfl,rfl,hc⟩ | ⟨xs,ys,rfl,rfl,hc⟩
  ·exact xy ra rb
  ·exact xp ra rb
  ·rw [PyData.depth] at hd hu;cases ra with
   | @list a o vs k xs as1 h1 c1 d1 r1=>
    cases rb with
    | @list b o2 ws k2 ys bs1 h2 c2 d2 r2=>
     rw [ltv];exact zq h1 c1 d1 h2 c2 d2 r1 r2 (λx y hx hy hxy A' s' a' b' as' bs' ra' rb' la lb hu'=>ih x y (by have:=pT hx;lia) hxy A' s' a' b' as' bs' ra' rb' la lb hu') hc ha hb hu
  ·rw [PyData.depth] at hd hu;cases ra with
   | @tuple a o vs k xs as1 h1 c1 d1 r1=>
    cases rb with
    | @tuple b o2 ws k2 ys bs1 h2 c2 d2 r2=>
     rw [ltv];exact yF h1 c1 d1 h2 c2 d2 r1 r2 (λx y hx hy hxy A' s' a' b' as' bs' ra' rb' la lb hu'=>ih x y (by have:=pT hx;lia) hxy A' s' a' b' as' bs' ra' rb' la lb hu') hc ha hb hu
variable {prog:Program}{w:World}{A:Around}{E:Value->Shared->Prop}{s:Shared}
theorem BJ {x y:Value}{b:Bool}{Q:Bool->Shared->Prop} (h:zp A s x y b) (q:Q b s):wpAny (model prog w) A (oneLt' false x y) Q E s:=
 PySem.W.kat_one x y (h prog w E _ q)
theorem oneLt_str {x y:Str}{t u:Tok}{Q:Bool->Shared->Prop} (q:Q (decide (x.cps.toList<y.cps.toList)) s):wpAny (model prog w) A (oneLt' true (.str x t) (.str y u)) Q E s:=by
 have:=PySem.W.kas_lt_str (prog:=prog) (w:=w) (A:=A) (E:=E) (s:=s) (a:=x) (c:=y) (t:=t) (u:=u) (Q:=Q) q
 rwa [keyLt'_oneType] at this
theorem zL {b:Bool}{x y:Addr}{ox oy:Obj}{vx vy:Array Value}{n k:Nat}{xs ys:List PyData}{as bs:List Addr}{Q:Bool->Shared->Prop} (hx:s.heap.get? x=some ox) (dx:ox.data = .seq vx n) (hy:s.heap.get? y=some oy) (dy:oy.data = .seq vy k)
  (ra:ReadsAll s.heap vx.toList xs as) (rb:ReadsAll s.heap vy.toList ys bs) (ha:PyData.canLayAll0 xs=true) (hb:PyData.canLayAll0 ys=true) (hc:cE xs ys=true) (hf:∀ d e,xs.head? = some d->ys.head? = some e->(b=true->(∃ i j,d = .int i/\e = .int j)\/∃ i j,d = .str i/\e = .str j))
  (hu:A.units+PyData.depthAll xs<cLine) (q:Q (aL xs ys) s):wpAny (model prog w) A (keyLt' (tuples' b) (.ref x) (.ref y)) Q E s:=by
 refine PySem.W.kat_lt hx dx hy dy ?_;have z1:vx.size=xs.length:=by rw [<-ReadsAll.length _ _ _ ra];simp
 have z2:vy.size=ys.length:=by rw [<-ReadsAll.length _ _ _ rb];simp
 have key:∀ (vs ws:List Value) (xs' ys':List PyData) (as bs:List Addr) (i:Nat),ReadsAll s.heap vs xs' as->ReadsAll s.heap ws ys' bs->PyData.canLayAll0 xs' = true->PyData.canLayAll0 ys' = true->cE xs' ys' = true->A.units+PyData.depthAll xs' < cLine ->
   xs'.length+vy.size=ys'.length+vx.size->(i=0->xs' = xs/\ys' = ys)->Q (aL xs' ys') s->PySem.W.KatLex prog w A b (decide (vx.size<vy.size)) Q (vs.zip ws) i s:=by
  intro vs
  induction vs with
  | nil=>
   intro ws xs' ys' as bs i r1 r2 l1 l2 c u hl h0 hq;cases r1;rw [List.zip_nil_left];refine PySem.W.kat_nil ?_;cases r2 with
   | nil=>
    rw [aL] at hq;simp only [List.length_nil] at hl;rw [decide_eq_false (by lia)];exact hq
   | cons _ _=>
    rw [aL] at hq;simp only [List.length_nil,List.length_cons] at hl;rw [decide_eq_true (by lia)];exact hq
  | cons v vs ihv=>
   intro ws xs' ys' as bs i r1 r2 l1 l2 c u hl h0 hq;cases r1 with
   | @cons _ _ d0 ds0 as0 as1 r1 r1'=>
   cases r2 with
   | nil=>
    rw [List.zip_nil_right];refine PySem.W.kat_nil ?_;rw [aL] at hq;simp only [List.length_nil,List.length_cons] at hl;rw [decide_eq_false (by lia)];exact hq
   | @cons w0 ws0 e0 es0 bs0 bs1 r2 r2'=>
    rw [List.zip_cons_cons];rw [aZ] at hq;rw [fW] at c;have l1':d0.canLay0=true/\PyData.canLayAll0 ds0=true:=by simpa [PyData.canLayAll0] using l1
    have l2':e0.canLay0=true/\PyData.canLayAll0 es0=true:=by simpa [PyData.canLayAll0] using l2
    refine PySem.W.kat_cons (eqAt_reads d0 e0 A s v w0 as0 bs0 r1 r2 l1'.1 l2'.1 (wM (fF u)) prog w _ _ ?_);cases hq':PyData.eqv d0 e0 with
    | true=>
     rw [hq',if_pos rfl] at hq c;refine PySem.W.kat_yes (ihv ws0 ds0 es0 _ _ (i+1) r1' r2' l1'.2 l2'.2 c (nq u) ?_ (λz=>by lia) hq);simp only [List.length_cons] at hl;lia
    | false=>
     rw [hq',if_neg N6] at hq c;refine PySem.W.kat_no ?_;by_cases hbi:(b && i == 0)=true
     ·have hb1:b=true:=by simp at hbi;exact hbi.1
      have hi0:i=0:=by simp at hbi;exact hbi.2
      obtain ⟨e1,e2⟩:=h0 hi0;rw [hbi];rcases hf d0 e0 (by rw [<-e1];rfl) (by rw [<-e2];rfl) hb1 with ⟨p,q',rfl,rfl⟩ | ⟨p,q',rfl,rfl⟩
      ·cases r1;cases r2;rw [ltv] at hq;exact oneLt_int hq
      ·cases r1;cases r2;rw [ltv] at hq;exact oneLt_str hq
     ·have:(b && i == 0)=false:=by simpa using hbi
      rw [this];exact BJ (tW _ d0 e0 (NX _) c A s v w0 as0 bs0 r1 r2 l1'.1 l2'.1 (fF u)) hq
 exact key vx.toList vy.toList xs ys as bs 0 ra rb ha hb hc hu (by lia) (λ_=>⟨rfl,rfl⟩) q
end
end L2
namespace L2
open PySem PySem.Spec PyProof.Rows PySem.W
structure q9 (n:Nat) (lt:Nat->Nat->Bool):Prop where
 irrefl:∀ a,a<n->lt a a=false
 negTrans:∀ a b c,a<n->b<n->c<n->lt a c=true->lt a b=true\/lt b c=true
 asymm:∀ a b,a<n->b<n->lt a b=true->lt b a=false
def AllLt (n:Nat) (p:Array Nat):Prop:=∀ i,p.getD i 0<n
def qf (lt:Nat->Nat->Bool) (p:Array Nat) (k:Nat):Prop:=∀ i j,i<=j->j<k->lt (p.getD j 0) (p.getD i 0)=false
def lH (lt:Nat->Nat->Bool) (p:Array Nat) (k:Nat):Prop:=∀ i j,i<=j->j<k->lt (p.getD i 0) (p.getD j 0)=false
theorem AllLt.perm {n:Nat}{p q:Array Nat} (h:AllLt n p) (hn:0<n) (r:q.Perm p):AllLt n q:=by
 intro i;by_cases hi:i<q.size
 ·have e:q.getD i 0=q[i]:=by simp [Array.getD,hi]
  rw [e];have hm:q[i]∈p.toList:=(Array.perm_iff_toList_perm.mp r).mem_iff.mp (by simp);obtain ⟨j,hj,e2⟩:=List.mem_iff_getElem.mp hm;have:=h j;have e3:p.getD j 0=q[i]:=by
   have hj':j<p.size:=by simpa using hj
   have:p.getD j 0=p[j]:=by simp [Array.getD,hj']
   rw [this,<-e2];simp
  rw [<-e3];exact this
 ·have e:q.getD i 0=0:=by simp [Array.getD,hi]
  rw [e];exact hn
section
variable {n:Nat}{lt:Nat->Nat->Bool}{cmp:Nat->Nat->(Bool->Shared->Prop)->Shared->Prop}{P:Shared->Prop}
theorem q9.trans (W:q9 n lt) {a b c:Nat} (ha:a<n) (hb:b<n) (hc:c<n) (h1:lt b a=false) (h2:lt c b=false):lt c a=false:=by
 cases q:lt c a with
 | false=>rfl
 | true=>
  rcases W.negTrans c b a hc hb ha q with z | z
  ·rw [h2] at z;cases z
  ·rw [h1] at z;cases z
theorem qf.A0 (W:q9 n lt) {p:Array Nat} (hp:AllLt n p) {k m:Nat} (h:qf lt p k) (hk:1<=k) (hs:∀ i,k<=i->i<m->lt (p.getD i 0) (p.getD (i - 1) 0)=false):qf lt p m:=by
 have key:∀ d i j,j=i+d->j<m->lt (p.getD j 0) (p.getD i 0)=false:=by
  intro d
  induction d with
  | zero=>intro i j e hj;rw [e];exact W.irrefl _ (hp _)
  | succ d ih=>
   intro i j e hj;by_cases hjk:j<k
   ·exact h i j (by lia) hjk
   ·exact W.trans (hp _) (hp (j - 1)) (hp _) (ih i (j - 1) (by lia) (by lia)) (hs j (by lia) hj)
 intro i j hij hj;exact key (j - i) i j (by lia) hj
theorem qE {p:Array Nat}{k l:Nat} (hk:k<p.size) (hl:l<=k) (i:Nat):(bubble p k (k - l)).getD i 0=if i<l then p.getD i 0 else if i=l then p.getD k 0 else if i<=k then p.getD (i - 1) 0 else p.getD i 0:=by
 have h:=getElem?_bubble (xs:=p) hk (k - l) (by lia) i;rw [Array.getD_eq_getD_getElem?,h];rw [show k - (k - l)=l by lia];simp only [Array.getD_eq_getD_getElem?]
 repeat' split
 all_goals first | rfl | (exfalso;lia) | skip
theorem dZ {p:Array Nat}{i j:Nat} (hj:j<=p.size) (k:Nat):(kas_rev p i j).getD k 0=if i<=k/\k<j then p.getD (i+j - 1 - k) 0 else p.getD k 0:=by
 have h:=getElem?_mirror_all (xs:=p) (i:=i) hj k;unfold kas_rev;rw [Array.getD_eq_getD_getElem?,h];simp only [Array.getD_eq_getD_getElem?]
 repeat' split
 all_goals first | rfl | (exfalso;lia) | skip
theorem zg (b8:∀ i j C s,i<n->j<n->P s->(∀ s',P s'->C (lt i j) s')->cmp i j C s) {p:Array Nat} (hp:AllLt n p) {Q:Nat->Shared->Prop}:∀ (f k:Nat) (s:Shared),P s ->
  (∀ m s',P s'->k<=m->m<=k+f->(∀ i,k<=i->i<m->lt (p.getD i 0) (p.getD (i - 1) 0)=false)->(m<k+f->lt (p.getD m 0) (p.getD (m - 1) 0)=true)->Q m s')->(kas_asc p f k).kasWp cmp Q s
 | 0,k,s,hs,h=>h k s hs (NX _) (NX _) (λi h1 h2=>by lia) λh1=>by lia
 | f+1,k,s,hs,h=>by
  refine b8 _ _ _ s (hp _) (hp _) hs λs' hs'=>?_;cases hc:lt (p.getD k 0) (p.getD (k - 1) 0) with
  | true=>
   show KasT.kasWp cmp (if true=true then KasT.ret k else kas_asc p f (k+1)) Q s';rw [if_pos rfl];exact h k s' hs' (NX _) (by lia) (λi h1 h2=>by lia) λ_=>hc
  | false=>
   show KasT.kasWp cmp (if false=true then KasT.ret k else kas_asc p f (k+1)) Q s';rw [if_neg N6];refine (zg b8 hp f (k+1) s' hs' λm s'' MF h1 h2 h3 h4=>h m s'' MF (by lia) (by lia) (λi h5 h6=>?_) λh5=>h4 (by lia));by_cases e:i=k
   ·rw [e];exact hc
   ·exact h3 i (by lia) h6
def Alike (lt:Nat->Nat->Bool) (p:Array Nat) (k q:Nat):Prop:=∀ i,k - (q+1)<=i->i<k->lt (p.getD (k - 1) 0) (p.getD i 0)=false
theorem uF (W:q9 n lt) {p:Array Nat}{k q:Nat} (hp:AllLt n p) (hk:k<=p.size) (hq:q+1<=k) (hd:lH lt p k) (ha:Alike lt p k q):lH lt (kas_rev p (k - (q+1)) k) k:=by
 intro i j hij hj;rw [dZ hk,dZ hk];have eqv:∀ a b,k - (q+1)<=a->a<k->k - (q+1)<=b->b<k->lt (p.getD a 0) (p.getD b 0)=false:=λa b h1 h2 h3 h4=>
  W.trans (hp b) (hp (k - 1)) (hp a) (ha b h3 h4) (hd a (k - 1) (by lia) (by lia))
 by_cases hi:k - (q+1)<=i
 ·rw [if_pos ⟨hi,by lia⟩,if_pos ⟨by lia,hj⟩];exact eqv _ _ (by lia) (by lia) (by lia) (by lia)
 ·rw [if_neg (by lia)];by_cases hj2:k - (q+1)<=j
  ·rw [if_pos ⟨hj2,hj⟩];exact hd _ _ (by lia) (by lia)
  ·rw [if_neg (by lia)];exact hd i j hij hj
theorem jG (W:q9 n lt) {p:Array Nat}{k:Nat} (hp:AllLt n p) (h1:1<=k) (hd:lH lt p k) (h:lt (p.getD (k - 1) 0) (p.getD k 0)=false):lH lt p (k+1):=by
 intro i j hij hj;by_cases e:j=k
 ·subst e;by_cases e2:i=j
  ·subst e2;exact W.irrefl _ (hp _)
  ·exact W.trans (hp _) (hp (j - 1)) (hp _) h (hd i (j - 1) (by lia) (by lia))
 ·exact hd i j hij (by lia)
theorem rF (W:q9 n lt) (b8:∀ i j C s,i<n->j<n->P s->(∀ s',P s'->C (lt i j) s')->cmp i j C s) (hn:0<n) {Q:Array Nat×Nat×Nat->Shared->Prop}:∀ (f:Nat) (p:Array Nat) (k q:Nat) (s:Shared),P s->AllLt n p->k+f<=p.size->q+1<=k->lH lt p k->Alike lt p k q ->
  (∀ p' k' q' s',P s'->p'.Perm p->k<=k'->k'<=k+f->q' + 1<=k'->lH lt p' k'->Alike lt p' k' q'->Q (p',k',q') s')->(kas_desc f p k q).kasWp cmp Q s
 | 0,p,k,q,s,hs,hp,hz,hq,hd,ha,h=>h p k q s hs (Array.Perm.refl _) (NX _) (NX _) hq hd ha
 | f+1,p,k,q,s,hs,hp,hz,hq,hd,ha,h=>by
  refine b8 _ _ _ s (hp _) (hp _) hs λs' hs'=>?_;cases hc:lt (p.getD k 0) (p.getD (k - 1) 0) with
  | true=>
   have hlt:lt (p.getD (k - 1) 0) (p.getD k 0)=false:=W.asymm _ _ (hp _) (hp _) hc;show KasT.kasWp cmp (if true=true then (if q > 0 then kas_desc f (kas_rev p (k - (q+1)) k) (k+1) 0 else kas_desc f p (k+1) 0) else _) Q s';rw [if_pos rfl]
   split
   ·have a7:(kas_rev p (k - (q+1)) k).Perm p:=mirror_perm _ _ _ _;have hp2:=hp.perm hn a7;have hsz:(kas_rev p (k - (q+1)) k).size=p.size:=mirror_size _ _ _ _;have hd2:=uF W hp (by lia) hq hd ha;refine rF W b8 hn f _ (k+1) 0 s' hs' hp2 (by rw [hsz];lia) (by lia) (jG W hp2 (by lia) hd2 ?_) (λi h1 h2=>?_) λp' k' q' s'' a b c d e=>h p' k' q' s'' a (b.trans a7) (by lia) (by lia) e
    ·rw [dZ (by lia),dZ (by lia),if_pos ⟨by lia,by lia⟩,if_neg (by lia)];refine W.trans (hp _) (hp (k - 1)) (hp _) hlt ?_;exact hd _ _ (by lia) (by lia)
    ·have:i=k+1 - 1:=by lia
     rw [this];exact W.irrefl _ (hp2 _)
   ·refine rF W b8 hn f _ (k+1) 0 s' hs' hp (by lia) (by lia) (jG W hp (by lia) hd hlt) (λi h1 h2=>?_) λp' k' q' s'' a b c d e=>h p' k' q' s'' a b (by lia) (by lia) e;have:i=k+1 - 1:=by lia
    rw [this];exact W.irrefl _ (hp _)
  | false=>
   show KasT.kasWp cmp (if false=true then _ else KasT.ask (p.getD (k - 1) 0) (p.getD k 0) λd=>if d=true then KasT.ret (p,k,q) else kas_desc f p (k+1) (q+1)) Q s';rw [if_neg N6];refine b8 _ _ _ s' (hp _) (hp _) hs' λs2 hs2=>?_;cases hc2:lt (p.getD (k - 1) 0) (p.getD k 0) with
   | true=>
    show KasT.kasWp cmp (if true=true then KasT.ret (p,k,q) else _) Q s2;rw [if_pos rfl];exact h p k q s2 hs2 (Array.Perm.refl _) (NX _) (by lia) hq hd ha
   | false=>
    show KasT.kasWp cmp (if false=true then _ else kas_desc f p (k+1) (q+1)) Q s2;rw [if_neg N6];refine rF W b8 hn f _ (k+1) (q+1) s2 hs2 hp (by lia) (by lia) (jG W hp (by lia) hd hc2) (λi h1 h2=>?_) λp' k' q' s'' a b c d e=>h p' k' q' s'' a b (by lia) (by lia) e;rw [show k+1 - 1=k by lia];by_cases e:i=k
    ·rw [e];exact W.irrefl _ (hp _)
    ·exact W.trans (hp _) (hp (k - 1)) (hp _) (ha i (by lia) (by lia)) hc
theorem xZ (W:q9 n lt) (b8:∀ i j C s,i<n->j<n->P s->(∀ s',P s'->C (lt i j) s')->cmp i j C s) (hn:0<n) {p:Array Nat}{k mK:Nat}{s:Shared}{Q:Nat×Array Nat->Shared->Prop} (hs:P s) (hp:AllLt n p) (hk:k<=mK) (h1:1<=k) (hz:mK<=p.size) (hd:lH lt p k)
  (h:∀ m p' s',P s'->p'.Perm p->1<=m->m<=mK->qf lt p' m->Q (m,p') s'):(kas_tail3 k mK p).kasWp cmp Q s:=by
 unfold kas_tail3;rw [KasT.kasWp_bind];have a7:(kas_rev p 0 k).Perm p:=mirror_perm _ _ _ _;have hp2:=hp.perm hn a7;have up:qf lt (kas_rev p 0 k) k:=λi j hij hj=>by
  rw [dZ (by lia),dZ (by lia),if_pos ⟨by lia,hj⟩,if_pos ⟨by lia,by lia⟩];exact hd _ _ (by lia) (by lia)
 refine zg b8 hp2 _ _ s hs λm s' hs' a b c d=>?_;exact h m _ s' hs' a7 (by lia) (by lia) (up.A0 W hp2 h1 c)
theorem qF (W:q9 n lt) (b8:∀ i j C s,i<n->j<n->P s->(∀ s',P s'->C (lt i j) s')->cmp i j C s) (hn:0<n) {p:Array Nat}{k mK:Nat}{s:Shared}{Q:Nat×Array Nat->Shared->Prop} (hs:P s) (hp:AllLt n p) (hk:k+1<=mK) (h1:1<=k) (hz:mK<=p.size) (hd:lH lt p (k+1))
  (h:∀ m p' s',P s'->p'.Perm p->1<=m->m<=mK->qf lt p' m->Q (m,p') s'):(kas_descPart k mK p).kasWp cmp Q s:=by
 unfold kas_descPart;rw [KasT.kasWp_bind];refine rF W b8 hn _ p (k+1) 0 s hs hp (by lia) (by lia) hd (λi h2 h3=>?_) λp' k' q' s' hs' a7 a b c d e=>?_
 ·have:i=k+1 - 1:=by lia
  rw [this];exact W.irrefl _ (hp _)
 ·have hsz:p'.size=p.size:=a7.size_eq;have hp':=hp.perm hn a7;dsimp only
  split
  ·have DG:(kas_rev p' (k' - (q' + 1)) k').Perm p':=mirror_perm _ _ _ _;have NQ:(kas_rev p' (k' - (q' + 1)) k').size=p'.size:=mirror_size _ _ _ _;exact xZ W b8 hn hs' (hp'.perm hn DG) (by lia) (by lia) (by lia) (uF W hp' (by lia) c d e) λm p2 s2 x y z w v=>h m p2 s2 x (y.trans (DG.trans a7)) z w v
  ·exact xZ W b8 hn hs' hp' (by lia) (by lia) (by lia) d λm p2 s2 x y z w v=>h m p2 s2 x (y.trans a7) z w v
theorem DE (W:q9 n lt) (b8:∀ i j C s,i<n->j<n->P s->(∀ s',P s'->C (lt i j) s')->cmp i j C s) (hn:0<n) {p:Array Nat}{mK:Nat}{s:Shared}{Q:Nat×Array Nat->Shared->Prop} (hs:P s) (hp:AllLt n p) (h1:1<=mK) (hz:mK<=p.size)
  (h:∀ m p' s',P s'->p'.Perm p->1<=m->m<=mK->qf lt p' m->Q (m,p') s'):(kas_count mK p).kasWp cmp Q s:=by
 unfold kas_count;rw [KasT.kasWp_bind];refine zg b8 hp _ _ s hs λm s' hs' a b c d=>?_;have up1:qf lt p 1:=λi j hij hj=>by
  have:i=0:=by lia
  have:j=0:=by lia
  subst_vars;exact W.irrefl _ (hp _)
 have up:qf lt p m:=up1.A0 W hp (NX _) c;by_cases e:m=mK
 ·rw [if_pos (by simpa using e)];exact h m p s' hs' (Array.Perm.refl _) a (by lia) up
 ·rw [if_neg (by simpa using e)];have hlt:lt (p.getD m 0) (p.getD (m - 1) 0)=true:=d (by lia);have hle:lt (p.getD (m - 1) 0) (p.getD m 0)=false:=W.asymm _ _ (hp _) (hp _) hlt
  split
  ·refine b8 _ _ _ s' (hp _) (hp _) hs' λs2 hs2=>?_;cases hc:lt (p.getD 0 0) (p.getD (m - 1) 0) with
   | true=>
    show KasT.kasWp cmp (if true=true then KasT.ret (m,p) else _) Q s2;rw [if_pos rfl];exact h m p s2 hs2 (Array.Perm.refl _) a (by lia) up
   | false=>
    show KasT.kasWp cmp (if false=true then _ else kas_descPart m mK (kas_rev p 0 m)) Q s2;rw [if_neg N6];have a7:(kas_rev p 0 m).Perm p:=mirror_perm _ _ _ _;have hsz:(kas_rev p 0 m).size=p.size:=mirror_size _ _ _ _;have hp2:=hp.perm hn a7;have al:∀ i j,i<m->j<m->lt (p.getD i 0) (p.getD j 0)=false:=λi j hi hj=>by
     have x1:lt (p.getD i 0) (p.getD (m - 1) 0)=false:=W.trans (hp _) (hp 0) (hp _) hc (by
      have y1:lt (p.getD (m - 1) 0) (p.getD i 0)=false:=up i (m - 1) (by lia) (by lia);cases q:lt (p.getD i 0) (p.getD 0 0) with
      | false=>rfl
      | true=>
       have y2:=up 0 i (Nat.zero_le _) hi;rw [y2] at q;cases q)
     exact W.trans (hp _) (hp (m - 1)) (hp _) (up j (m - 1) (by lia) (by lia)) x1
    refine qF W b8 hn hs2 hp2 (by lia) a (by lia) (jG W hp2 a (λi j hij hj=>?_) ?_) λm' p2 s3 x y z w v=>h m' p2 s3 x (y.trans a7) z w v
    ·rw [dZ (by lia),dZ (by lia),if_pos ⟨by lia,by lia⟩,if_pos ⟨by lia,by lia⟩];exact al _ _ (by lia) (by lia)
    ·rw [dZ (by lia),dZ (by lia),if_pos ⟨by lia,by lia⟩,if_neg (by lia)];exact W.trans (hp _) (hp (m - 1)) (hp _) hle (al _ _ (by lia) (by lia))
  ·have hm:m=1:=by lia
   refine qF W b8 hn hs' hp (by lia) a hz (jG W hp a (λi j hij hj=>?_) hle) h;have:i=0:=by lia
   have:j=0:=by lia
   subst_vars;exact W.irrefl _ (hp _)
theorem rR (W:q9 n lt) (b8:∀ i j C s,i<n->j<n->P s->(∀ s',P s'->C (lt i j) s')->cmp i j C s) {p:Array Nat} (hp:AllLt n p) {k:Nat} (up:qf lt p k) {Q:Nat->Shared->Prop}:∀ (f l r:Nat) (s:Shared),P s->l<=r->r<=k->r - l<=f ->
  (∀ i,i<l->lt (p.getD k 0) (p.getD i 0)=false)->(∀ i,r<=i->i<k->lt (p.getD k 0) (p.getD i 0)=true) ->
  (∀ m s',P s'->m<=k->(∀ i,i<m->lt (p.getD k 0) (p.getD i 0)=false)->(∀ i,m<=i->i<k->lt (p.getD k 0) (p.getD i 0)=true)->Q m s')->(kas_place p k f l r).kasWp cmp Q s
 | 0,l,r,s,hs,h1,h2,h3,h4,h5,h=>h l s hs (by lia) h4 λi a b=>h5 i (by lia) b
 | f+1,l,r,s,hs,h1,h2,h3,h4,h5,h=>by
  unfold kas_place;by_cases e:l ≥ r
  ·rw [if_pos e];exact h l s hs (by lia) h4 λi a b=>h5 i (by lia) b
  ·rw [if_neg e];refine b8 _ _ _ s (hp _) (hp _) hs λs' hs'=>?_;cases hc:lt (p.getD k 0) (p.getD ((l+r) / 2) 0) with
   | true=>
    show KasT.kasWp cmp (if true=true then kas_place p k f l ((l+r) / 2) else _) Q s';rw [if_pos rfl];refine rR W b8 hp up f l ((l+r) / 2) s' hs' (by lia) (by lia) (by lia) h4 (λi a b=>?_) h;rcases W.negTrans _ (p.getD i 0) _ (hp _) (hp _) (hp _) hc with z | z
    ·exact z
    ·have:=up ((l+r) / 2) i a b;rw [this] at z;cases z
   | false=>
    show KasT.kasWp cmp (if false=true then _ else kas_place p k f ((l+r) / 2+1) r) Q s';rw [if_neg N6];refine rR W b8 hp up f ((l+r) / 2+1) r s' hs' (by lia) (by lia) (by lia) (λi a=>?_) h5 h;exact W.trans (hp _) (hp ((l+r) / 2)) (hp _) (up i ((l+r) / 2) (by lia) (by lia)) hc
theorem Ds (W:q9 n lt) (b8:∀ i j C s,i<n->j<n->P s->(∀ s',P s'->C (lt i j) s')->cmp i j C s) (hn:0<n) {Q:Array Nat->Shared->Prop}:∀ (f:Nat) (p:Array Nat) (k:Nat) (s:Shared),P s->AllLt n p->k+f<=p.size->qf lt p k ->
  (∀ p' s',P s'->p'.Perm p->qf lt p' (k+f)->Q p' s')->(kas_bin f p k).kasWp cmp Q s
 | 0,p,k,s,hs,hp,hz,up,h=>h p s hs (Array.Perm.refl _) up
 | f+1,p,k,s,hs,hp,hz,up,h=>by
  unfold kas_bin;rw [KasT.kasWp_bind];refine rR W b8 hp up k 0 k s hs (Nat.zero_le _) (NX _) (by lia) (λi a=>by lia) (λi a b=>by lia) λl s' hs' hl lo hi=>?_;have a7:(bubble p k (k - l)).Perm p:=bubble_perm _ _ _;have hsz:(bubble p k (k - l)).size=p.size:=bubble_size _ _ _;refine Ds W b8 hn f _ (k+1) s' hs' (hp.perm hn a7) (by rw [hsz];lia) (λi j hij hj=>?_) λp' s2 a b c=>h p' s2 a (b.trans a7) (by rw [show k+(f+1)=k+1+f by lia];exact c);rw [qE (by lia) hl,qE (by lia) hl];by_cases i1:i<l
  ·rw [if_pos i1];by_cases j1:j<l
   ·rw [if_pos j1];exact up i j hij (by lia)
   ·rw [if_neg j1];by_cases j2:j=l
    ·rw [if_pos j2];exact lo i i1
    ·rw [if_neg j2,if_pos (by lia)];exact up i (j - 1) (by lia) (by lia)
  ·rw [if_neg i1,if_neg (show ¬ j<l by lia)];by_cases i2:i=l
   ·rw [if_pos i2];by_cases j2:j=l
    ·rw [if_pos j2];exact W.irrefl _ (hp _)
    ·rw [if_neg j2,if_pos (by lia)];exact W.asymm _ _ (hp _) (hp _) (hi (j - 1) (by lia) (by lia))
   ·rw [if_neg i2,if_pos (show i<=k by lia),if_neg (show ¬ j=l by lia),if_pos (show j<=k by lia)];exact up (i - 1) (j - 1) (by lia) (by lia)
theorem AW (W:q9 n lt) (b8:∀ i j C s,i<n->j<n->P s->(∀ s',P s'->C (lt i j) s')->cmp i j C s) (hn:0<n) {s:Shared}{Q:Array Nat->Shared->Prop} (hs:P s)
  (h:∀ p s',P s'->p.toList.Perm (List.range n)->qf lt p n->Q p s'):(kas_sort n).kasWp cmp Q s:=by
 unfold kas_sort;rw [KasT.kasWp_bind];have hp:AllLt n (List.toArray (List.range n)):=λi=>by
  by_cases hi:i<n
  ·simp [Array.getD,hi]
  ·simp [Array.getD,hi];exact hn
 have hz:(List.toArray (List.range n)).size=n:=by simp
 refine DE W b8 hn hs hp (by lia) (by rw [hz];exact NX _) λm p' s' hs' a7 a b up=>?_;have hsz:p'.size=n:=by rw [a7.size_eq];exact hz
 have toL:∀ {q:Array Nat},q.Perm (List.toArray (List.range n))->q.toList.Perm (List.range n):=λr=>by simpa using Array.perm_iff_toList_perm.mp r
 dsimp only
 split
 ·rw [show max m 1=m by lia];exact Ds W b8 hn _ p' m s' hs' (hp.perm hn a7) (by lia) up λp2 s2 x y z=>h p2 s2 x (toL (y.trans a7)) (by rw [show m+(n - m)=n by lia] at z;exact z)
 ·have:m=n:=by lia
  subst this;exact h p' s' hs' (toL a7) up
end
inductive Sh where
 | int | str | list (e:Sh) | pZ | cw (a r:Sh)
def Sh.has:Sh->PyData->Prop
 | .int,d=>∃ i,d = .int i
 | .str,d=>∃ x,d = .str x
 | .list e,d=>∃ ds,d = .list ds/\∀ x∈ds,Sh.has e x
 | .pZ,d=>d = .tuple []
 | .cw a r,d=>∃ x ds,d = .tuple (x::ds)/\Sh.has a x/\Sh.has r (.tuple ds)
structure rc (S:PyData->Prop):Prop where
 cmp:∀ d e,S d->S e->nU d e=true
 eqv:∀ d e,S d->S e->(PyData.eqv d e=true↔d=e)
 irr:∀ d,S d->ltv d d=false
 tot:∀ d e,S d->S e->ltv d e=false->ltv e d=false->d=e
 trans:∀ d e f,S d->S e->S f->ltv d e=true->ltv e f=true->ltv d f=true
theorem rc.asymm {S:PyData->Prop} (o:rc S) {d e:PyData} (hd:S d) (he:S e) (h:ltv d e=true):ltv e d=false:=by
 cases q:ltv e d with
 | false=>rfl
 | true=>
  have:=o.trans d e d hd he hd h q;rw [o.irr d hd] at this;cases this
theorem rc.neg {S:PyData->Prop} (o:rc S) {a b c:PyData} (ha:S a) (hb:S b) (hc:S c) (h:ltv a c=true):ltv a b=true\/ltv b c=true:=by
 cases q:ltv a b with
 | true=>exact .inl rfl
 | false=>
  cases q2:ltv b a with
  | true=>exact .inr (o.trans b a c hb ha hc q2 h)
  | false=>
   have:=o.tot a b ha hb q q2;subst this;exact .inr h
structure Lw (S:PyData->Prop) (L:List PyData->Prop):Prop where
 cmp:∀ d e,L d->L e->cE d e=true
 eqv:∀ d e,L d->L e->(PyData.eqvAll d e=true↔d=e)
 irr:∀ d,L d->aL d d=false
 tot:∀ d e,L d->L e->aL d e=false->aL e d=false->d=e
 trans:∀ d e f,L d->L e->L f->aL d e=true->aL e f=true->aL d f=true
theorem Ej {a b:PyData}{S:PyData->Prop} (o:rc S):Lw S (λl=>∀ x∈l,S x) where
 cmp:=by
  intro d
  induction d with
  | nil=>intro e _ _;rw [cE]
  | cons x xs ih=>
   intro e hd he;cases e with
   | nil=>rw [cE]
   | cons y ys=>
    rw [fW]
    split
    ·exact ih ys (λz hz=>hd z (NY _ hz)) λz hz=>he z (NY _ hz)
    ·exact o.cmp x y (hd x N4) (he y N4)
 eqv:=by
  intro d
  induction d with
  | nil=>
   intro e _ _;cases e with
   | nil=>simp [PyData.eqvAll]
   | cons y ys=>simp [PyData.eqvAll]
  | cons x xs ih=>
   intro e hd he;cases e with
   | nil=>simp [PyData.eqvAll]
   | cons y ys=>
    rw [PyData.eqvAll,Oa,o.eqv x y (hd x N4) (he y N4),ih ys (λz hz=>hd z (NY _ hz)) λz hz=>he z (NY _ hz)];simp
 irr:=by
  intro d
  induction d with
  | nil=>intro _;rw [aL]
  | cons x xs ih=>
   intro hd;rw [aZ,if_pos ((o.eqv x x (hd x N4) (hd x N4)).mpr rfl)];exact ih λz hz=>hd z (NY _ hz)
 tot:=by
  intro d
  induction d with
  | nil=>
   intro e _ _ h1 h2;cases e with
   | nil=>rfl
   | cons y ys=>rw [aL] at h1;cases h1
  | cons x xs ih=>
   intro e hd he h1 h2;cases e with
   | nil=>rw [aL] at h2;cases h2
   | cons y ys=>
    have sx:=hd x N4;have sy:=he y N4;rw [aZ] at h1 h2;by_cases e1:x=y
    ·subst e1;rw [if_pos ((o.eqv x x sx sx).mpr rfl)] at h1 h2;rw [ih ys (λz hz=>hd z (NY _ hz)) (λz hz=>he z (NY _ hz)) h1 h2]
    ·rw [if_neg (λz=>e1 ((o.eqv x y sx sy).mp z))] at h1;rw [if_neg (λz=>e1 ((o.eqv y x sy sx).mp z).symm)] at h2;exact absurd (o.tot x y sx sy h1 h2) e1
 trans:=by
  intro d
  induction d with
  | nil=>
   intro e f _ _ _ h1 h2;cases f with
   | nil=>cases e <;> (rw [aL] at h2;cases h2)
   | cons z zs=>rw [aL]
  | cons x xs ih=>
   intro e f hd he hf h1 h2;cases e with
   | nil=>rw [aL] at h1;cases h1
   | cons y ys=>
    cases f with
    | nil=>rw [aL] at h2;cases h2
    | cons z zs=>
     have sx:=hd x N4;have sy:=he y N4;have sz:=hf z N4;rw [aZ] at h1 h2 ⊢;by_cases e1:x=y
     ·subst e1;rw [if_pos ((o.eqv x x sx sx).mpr rfl)] at h1;by_cases e2:x=z
      ·subst e2;rw [if_pos ((o.eqv x x sx sx).mpr rfl)] at h2 ⊢;exact ih ys zs (λw hw=>hd w (NY _ hw)) (λw hw=>he w (NY _ hw)) (λw hw=>hf w (NY _ hw)) h1 h2
      ·rw [if_neg (λw=>e2 ((o.eqv x z sx sz).mp w))] at h2 ⊢;exact h2
     ·rw [if_neg (λw=>e1 ((o.eqv x y sx sy).mp w))] at h1;by_cases e2:y=z
      ·subst e2;rw [if_neg (λw=>e1 ((o.eqv x y sx sy).mp w))];exact h1
      ·rw [if_neg (λw=>e2 ((o.eqv y z sy sz).mp w))] at h2;by_cases e3:x=z
       ·subst e3;have:=o.asymm sx sy h1;rw [this] at h2;cases h2
       ·rw [if_neg (λw=>e3 ((o.eqv x z sx sz).mp w))];exact o.trans x y z sx sy sz h1 h2
theorem zd {x y:Str} (h1:decide (x.cps.toList<y.cps.toList)=false) (h2:decide (y.cps.toList<x.cps.toList)=false):x=y:=by
 have e:x.cps.toList=y.cps.toList:=List.le_antisymm (by simpa using h2) (by simpa using h1);cases x;cases y;simp only [Str.mk.injEq];exact Array.toList_inj.mp e
theorem Sh.ok:∀ sh:Sh,rc sh.has
 | .int=>by
  refine ⟨?_,?_,?_,?_,?_⟩
  ·rintro _ _ ⟨i,rfl⟩ ⟨j,rfl⟩;rw [nU]
  ·rintro _ _ ⟨i,rfl⟩ ⟨j,rfl⟩;simp [PyData.eqv]
  ·rintro _ ⟨i,rfl⟩;rw [ltv];simp
  ·rintro _ _ ⟨i,rfl⟩ ⟨j,rfl⟩ h1 h2;rw [ltv] at h1 h2;have:i=j:=by simp at h1 h2;lia
   rw [this]
  ·rintro _ _ _ ⟨i,rfl⟩ ⟨j,rfl⟩ ⟨k,rfl⟩ h1 h2;rw [ltv] at h1 h2 ⊢;simp at h1 h2 ⊢;lia
 | .str=>by
  refine ⟨?_,?_,?_,?_,?_⟩
  ·rintro _ _ ⟨i,rfl⟩ ⟨j,rfl⟩;rw [nU]
  ·rintro _ _ ⟨i,rfl⟩ ⟨j,rfl⟩;simp [PyData.eqv]
  ·rintro _ ⟨i,rfl⟩;rw [ltv];exact decide_eq_false (List.lt_irrefl _)
  ·rintro _ _ ⟨i,rfl⟩ ⟨j,rfl⟩ h1 h2;rw [ltv] at h1 h2;rw [zd h1 h2]
  ·rintro _ _ _ ⟨i,rfl⟩ ⟨j,rfl⟩ ⟨k,rfl⟩ h1 h2;rw [ltv] at h1 h2 ⊢;exact decide_eq_true (List.lt_trans (of_decide_eq_true h1) (of_decide_eq_true h2))
 | .list e=>by
  have L:=Ej (a:=.none) (b:=.none) (Sh.ok e);refine ⟨?_,?_,?_,?_,?_⟩
  ·rintro _ _ ⟨i,rfl,hi⟩ ⟨j,rfl,hj⟩;rw [nU];exact L.cmp i j hi hj
  ·rintro _ _ ⟨i,rfl,hi⟩ ⟨j,rfl,hj⟩;rw [PyData.eqv,L.eqv i j hi hj];simp
  ·rintro _ ⟨i,rfl,hi⟩;rw [ltv];exact L.irr i hi
  ·rintro _ _ ⟨i,rfl,hi⟩ ⟨j,rfl,hj⟩ h1 h2;rw [ltv] at h1 h2;rw [L.tot i j hi hj h1 h2]
  ·rintro _ _ _ ⟨i,rfl,hi⟩ ⟨j,rfl,hj⟩ ⟨k,rfl,hk⟩ h1 h2;rw [ltv] at h1 h2 ⊢;exact L.trans i j k hi hj hk h1 h2
 | .pZ=>by
  refine ⟨?_,?_,?_,?_,?_⟩
  ·rintro _ _ rfl rfl;rw [nU,cE]
  ·rintro _ _ rfl rfl;simp [PyData.eqv,PyData.eqvAll]
  ·rintro _ rfl;rw [ltv,aL]
  ·rintro _ _ rfl rfl _ _;rfl
  ·rintro _ _ _ rfl rfl rfl h1 h2;rw [ltv,aL] at h1;cases h1
 | .cw a r=>by
  have oa:=Sh.ok a;have or:=Sh.ok r;refine ⟨?_,?_,?_,?_,?_⟩
  ·rintro _ _ ⟨x,xs,rfl,hx,hxs⟩ ⟨y,ys,rfl,hy,hys⟩;have:=or.cmp _ _ hxs hys;rw [nU] at this ⊢;rw [fW]
   split
   ·exact this
   ·exact oa.cmp x y hx hy
  ·rintro _ _ ⟨x,xs,rfl,hx,hxs⟩ ⟨y,ys,rfl,hy,hys⟩;have:=or.eqv _ _ hxs hys;rw [PyData.eqv] at this ⊢;rw [PyData.eqvAll,Oa,oa.eqv x y hx hy,this];simp
  ·rintro _ ⟨x,xs,rfl,hx,hxs⟩;have:=or.irr _ hxs;rw [ltv] at this ⊢;rw [aZ,if_pos ((oa.eqv x x hx hx).mpr rfl)];exact this
  ·rintro _ _ ⟨x,xs,rfl,hx,hxs⟩ ⟨y,ys,rfl,hy,hys⟩ h1 h2;have ih:=or.tot _ _ hxs hys;rw [ltv] at h1 h2 ih;rw [ltv] at ih;rw [aZ] at h1 h2;by_cases e1:x=y
   ·subst e1;rw [if_pos ((oa.eqv x x hx hx).mpr rfl)] at h1 h2;have:=ih h1 h2;injection this with this;rw [this]
   ·rw [if_neg (λw=>e1 ((oa.eqv x y hx hy).mp w))] at h1;rw [if_neg (λw=>e1 ((oa.eqv y x hy hx).mp w).symm)] at h2;exact absurd (oa.tot x y hx hy h1 h2) e1
  ·rintro _ _ _ ⟨x,xs,rfl,hx,hxs⟩ ⟨y,ys,rfl,hy,hys⟩ ⟨z,zs,rfl,hz,hzs⟩ h1 h2;have ih:=or.trans _ _ _ hxs hys hzs;rw [ltv,ltv,ltv] at ih;rw [ltv] at h1 h2 ⊢;rw [aZ] at h1 h2 ⊢;by_cases e1:x=y
   ·subst e1;rw [if_pos ((oa.eqv x x hx hx).mpr rfl)] at h1;by_cases e2:x=z
    ·subst e2;rw [if_pos ((oa.eqv x x hx hx).mpr rfl)] at h2 ⊢;exact ih h1 h2
    ·rw [if_neg (λw=>e2 ((oa.eqv x z hx hz).mp w))] at h2 ⊢;exact h2
   ·rw [if_neg (λw=>e1 ((oa.eqv x y hx hy).mp w))] at h1;by_cases e2:y=z
    ·subst e2;rw [if_neg (λw=>e1 ((oa.eqv x y hx hy).mp w))];exact h1
    ·rw [if_neg (λw=>e2 ((oa.eqv y z hy hz).mp w))] at h2;by_cases e3:x=z
     ·subst e3;have:=oa.asymm hx hy h1;rw [this] at h2;cases h2
     ·rw [if_neg (λw=>e3 ((oa.eqv x z hx hz).mp w))];exact oa.trans x y z hx hy hz h1 h2
theorem ur {S:PyData->Prop} (o:rc S):∀ {l l':List PyData},(∀ x∈l,S x)->l.Perm l'->l.Pairwise (λa b=>ltv b a=false)->l'.Pairwise (λa b=>ltv b a=false)->l=l':=by
 intro l l' hS hp h1 h2;refine List.Perm.eq_of_pairwise (le:=λa b=>ltv b a=false) ?_ h1 h2 hp;intro a b ha hb x y;exact o.tot a b (hS a ha) (hS b (hp.mem_iff.mpr hb)) y x
inductive j8:Sh->Bool->Prop
 | int:j8 .int true
 | str:j8 .str true
 | pZ:j8 .pZ false
 | cw (a r:Sh):j8 (.cw a r) false
section
variable {X:Cx}{pins:List (Addr×Obj)}{σ:St}{H:Hp}{s:Shared}
theorem jr {xs:List V}{us:List Value} (r:aV xs us) (i:Nat):RelV (xs.getD i .non) (us.getD i .none):=by
 rw [N9,N9];cases e:xs[i]? with
 | none=>rw [r.none_of e];rfl
 | some x=>
  obtain ⟨u,hu,ru⟩:=r.get e;rw [hu];exact ru
theorem aI.EL {K:PySem.W.Frag}{xs:List V}{ds:List PyData} (h:aI K H xs ds) (i:Nat) (hi:i<ds.length):Den K H (xs.getD i .non) (ds.getD i .none):=by
 have e:ds[i]? = some ds[i]:=by simp [hi]
 obtain ⟨x,hx,hd⟩:=h.getD e;rw [N9,N9,hx,e];exact hd
theorem E7 {a r:Sh}:∀ {ks:List V}{us:List Value}{kds:List PyData},Inv X pins σ H s->aV ks us->aI X.K H ks kds->(∀ d∈kds,(Sh.cw a r).has d) ->
  ∃ fs:List Value,KatTups s.heap us fs/\fs.length=us.length/\∀ f∈fs,∃ d as,a.has d/\Reads s.heap f d as
 | _,_,_,I,.nil,.nil,_=>⟨[],.nil,rfl,λ_ h=>by cases h⟩
 | _,_,_,I,.cons rv rr,.cons hd ht,hs=>by
  obtain ⟨fs,h1,h2,h3⟩:=E7 I rr ht λd hd=>hs d (NY _ hd);obtain ⟨x,ds,e,hx,_⟩:=hs _ N4;subst e;cases hd with
  | tup hq t=>
   cases rv;obtain ⟨its,rv',⟨o,eo,c,n,dt⟩,_⟩:=I.tuple hq;cases t with
   | cons hd0 t0=>
    cases rv' with
    | @cons v0 u0 vs0 us0 r0 rr0=>
     obtain ⟨as,ra⟩:=I.reads hd0 r0;refine ⟨u0::fs,.cons eo c dt (by simp) h1,by simp [h2],λf hf=>?_⟩;rcases List.mem_cons.mp hf with e | hf
     ·subst e;exact ⟨x,as,hx,ra⟩
     ·exact h3 f hf
theorem yd {a:Sh}{b:Bool} (hf:j8 a b):∃ T:Value,(T == T)=true/\(T != Value.type "tuple")=b/\∀ (M:Model) (h:Heap) (f:Value) (d:PyData) (as:List Addr),a.has d->Reads h f d as->Looks M h (typeOf f) T:=by
 cases hf with
 | int=>exact ⟨.type "int",by decide,by decide,λM h f d as hd r=>by obtain ⟨i,rfl⟩:=hd;cases r;exact .of_pure rfl⟩
 | str=>exact ⟨.type "str",by decide,by decide,λM h f d as hd r=>by obtain ⟨i,rfl⟩:=hd;cases r;exact .of_pure rfl⟩
 | pZ=>exact ⟨.type "tuple",by decide,by decide,λM h f d as hd r=>by
   have e:d = .tuple []:=hd;subst e;cases r with
   | tuple h1 h2 h3 h4=>rw [<-h2];exact (Looks.ld h1).andThen .now⟩
 | cw a r=>exact ⟨.type "tuple",by decide,by decide,λM h f d as hd r=>by
   obtain ⟨x,ds,rfl,_,_⟩:=hd;cases r with
   | tuple h1 h2 h3 h4=>rw [<-h2];exact (Looks.ld h1).andThen .now⟩
theorem xH {a r:Sh}{b:Bool}{A:Around} (hf:j8 a b) {ks:List V}{us:List Value}{kds:List PyData} (I:Inv X pins σ H s) (hv:aV ks us) (hd:aI X.K H ks kds) (hs:∀ d∈kds,(Sh.cw a r).has d) (zT:∀ d∈kds,d.depth<=100)
  (h2:2<=us.length) (hu:A.units+101<cLine) {G:Array Nat->Shared->Prop}
  (h:∀ p:Array Nat,p.toList.Perm (List.range us.length)->(∀ i j,i<=j->j<us.length->ltv (kds.getD (p.getD j 0) .none) (kds.getD (p.getD i 0) .none)=false)->G p s) :
  wpAny (model X.prog X.w) A (keyKind' us.toArray) (λκ s'=>(kas_sort us.length).kasWp (kas_ask X.prog X.w A κ us) G s') (λ_ _=>False) s:=by
 obtain ⟨fs,t1,t2,t3⟩:=E7 I hv hd hs;obtain ⟨T,hT1,hT2,hT3⟩:=yd hf;refine kat_kind t1 (by lia) (λf hf=>?_) hT1 ?_
 ·obtain ⟨d,as,x,y⟩:=t3 f hf;exact hT3 _ _ f d as x y
 rw [hT2];have l1:us.length=kds.length:=by rw [<-hv.length];exact hd.length
 have o:=Sh.ok (.cw a r);have pJ:∀ i,i<us.length->(Sh.cw a r).has (kds.getD i .none):=λi hi=>by
  have e:kds[i]? = some kds[i]:=by simp [<-l1,hi]
  (rw [N9,e])
  exact hs _ (List.getElem_mem _)
 have hdp:∀ i,i<us.length->(kds.getD i .none).depth<=100:=λi hi=>by
  have e:kds[i]? = some kds[i]:=by simp [<-l1,hi]
  (rw [N9,e])
  exact zT _ (List.getElem_mem _)
 refine AW (n:=us.length) (lt:=λi j=>ltv (kds.getD i .none) (kds.getD j .none)) (P:=λs'=>s' = s) ⟨λi hi=>o.irr _ (pJ i hi),λi j k hi hj hk q=>o.neg (pJ i hi) (pJ j hj) (pJ k hk) q,λi j hi hj q=>o.asymm (pJ i hi) (pJ j hj) q⟩
  (λi j C s' hi hj e q=>?_) (by lia) rfl λp s' e hp up=>by subst e;exact h p hp up
 subst e;show wpAny (model X.prog X.w) A (keyLt' (tuples' b) (us.getD i .none) (us.getD j .none)) C (λ_ _=>False) s';have di:=hd.EL i (by lia);have dj:=hd.EL j (by lia);have ri:=jr hv i;have rj:=jr hv j;have hi':=pJ i hi;have hj':=pJ j hj;have pi:=hdp i hi;have qq:=q s' rfl;have cc:=o.cmp _ _ hi' hj';have lyi:=di.lay;have lyj:=dj.lay;revert di dj hi' hj' pi qq cc lyi lyj;generalize kds.getD i .none=d;generalize kds.getD j .none=e;intro di dj hi' hj' pi qq cc lyi lyj;obtain ⟨x,ds,rfl,hx,_⟩:=hi';obtain ⟨y,es,rfl,hy,_⟩:=hj';revert di dj ri rj;generalize ks.getD i .non=vi;generalize ks.getD j .non=vj;generalize us.getD i .none=ui;generalize us.getD j .none=uj;intro ri rj di dj;cases di with
 | tup qi ti=>
  cases dj with
  | tup qj tj=>
   cases ri;cases rj;obtain ⟨its,rv,⟨oi,ei,ci,ni,dti⟩,_⟩:=I.tuple qi;obtain ⟨jts,rw',⟨oj,ej,cj,nj,dtj⟩,_⟩:=I.tuple qj;obtain ⟨as,ra⟩:=I.readsAll ti rv;obtain ⟨bs,rb⟩:=I.readsAll tj rw';rw [ltv] at qq;rw [nU] at cc;rw [PyData.depth] at pi;refine zL ei dti ej dtj (by simpa using ra) (by simpa using rb) lyi lyj cc (λd0 e0 h1 h3 hb=>?_) (by lia) qq;have e1:x=d0:=by simpa using h1
   have e2:y=e0:=by simpa using h3
   subst e1 e2;cases hf with
   | int=>obtain ⟨p,rfl⟩:=hx;obtain ⟨q,rfl⟩:=hy;exact .inl ⟨p,q,rfl,rfl⟩
   | str=>obtain ⟨p,rfl⟩:=hx;obtain ⟨q,rfl⟩:=hy;exact .inr ⟨p,q,rfl,rfl⟩
   | pZ=>cases hb
   | cw _ _=>cases hb
theorem Inv.adopt {h':Heap}{t':Nat}{wr:List Addr}{a:Addr}{o:HO} (I:Inv X pins σ H s) (hf:∀ b∈wr,b9 X pins H b) (ha:a∈wr) (k:∀ b o,b∉wr->s.heap.get? b=some o->h'.get? b=some o)
  (new:cm X.prog X.w (upd H a o) h' a o):Inv X pins σ (upd H a o) { s with heap:=h',toks:=t' }:=by
 have nit:∀ b u,H b=some u->b∉wr:=λb u e z=>by rw [(hf b z).1] at e;cases e
 have hfr:H a=none:=(hf a ha).1;refine I.step (g':=s.gens) (d':=s.drawn) (ch:=wr) (λb hb=>⟨(hf b hb).2.2.2.1,(hf b hb).2.1,(hf b hb).2.2.2.2.1,(hf b hb).2.2.2.2.2⟩) (λb o _ _ hc e _=>k b o hc e) (λb o _ _ hc e _=>⟨o.slots,k b o hc e⟩)
  (λb ob hc e n=>by rw [ay (show b≠a from λz=>hc (by rw [z];exact ha))];exact n)
  (λb o hc e=>⟨o,k b o hc e⟩) (λb xs e=>by rw [ay (ao e hfr)];exact e) (λb ob u e=>by rw [ay (ao e hfr)];exact e) (λb ps e=>⟨#[],by rw [ay (ao e hfr),e];simp⟩) (λm hm=>?_) (λb u e=>?_) I.bare
 ·obtain ⟨o,es,ep,ho,r⟩:=hm;exact ⟨o,es,ep,k _ o (λz=>(hf _ z).2.1 rfl) ho,r⟩
 ·by_cases hb:b=a
  ·subst hb;rw [ab] at e;cases e;exact new
  ·rw [ay hb] at e;refine (I.hok b u e).vR (λc v hc q=>k c v ?_ q) (λc q=>by rw [ay (ao q hfr)];exact q) λc xs q=>by rw [ay (ao q hfr)];exact q
   rcases hc with z | z
   ·rw [z];exact nit b u e
   ·exact nit c _ z
def picked (xs:List V) (p:List Nat):List V:=p.map λi=>xs.getD i .non
theorem lO {xs:List V}{us:List Value} (r:aV xs us):∀ p:List Nat,aV (picked xs p) (p.map λi=>us.getD i .none)
 | []=>.nil
 | i::p=>.cons (jr r i) (lO r p)
theorem m3 (xs:List V) (p:List Nat):(picked xs p).length=p.length:=by simp [picked]
theorem eU {α:Type} (us:List α) (d:α):(List.range us.length).map (λi=>us.getD i d)=us:=by
 apply List.ext_getElem
 ·simp
 ·intro i h1 h2;simp [h2]
def fZ (kds:List PyData) (p:List Nat):Prop:=(p.map λi=>kds.getD i .none).Pairwise λa b=>ltv b a=false
theorem xF {kds:List PyData}{p:Array Nat}{n:Nat} (hn:p.toList.length=n) (h:∀ i j,i<=j->j<n->ltv (kds.getD (p.getD j 0) .none) (kds.getD (p.getD i 0) .none)=false):fZ kds p.toList:=by
 unfold fZ
 (rw [List.pairwise_iff_getElem])
 intro i j hi hj hij;simp only [List.getElem_map];have hi':i<p.size:=by simpa using hi
 have hj':j<p.size:=by simpa using hj
 have:=h i j (by lia) (by simp at hn;lia);have e1:p.getD i 0=p[i]:=by simp [Array.getD,hi']
 have e2:p.getD j 0=p[j]:=by simp [Array.getD,hj']
 rw [e1,e2] at this;simpa using this
theorem qX {kds:List PyData}{n:Nat} (hn:n<2):fZ kds (List.range n):=by
 unfold fZ
 match n,hn with
 | 0,_=>simp
 | 1,_=>simp
theorem qG {D:Addr}{n0:Nat}{vs:List Value} (I:Inv X pins σ H s) (ho:s.heap.get? D=some (seqObj "list" vs.toArray n0)) (fD:b9 X pins H D) :
  ∃ e1,(s.heap.update D (Obj.mapSeq λ_=>(#[]:Array Value))).get? D=some (seqObj "list" #[] e1) /\
   ∀ h3,h3=((s.heap.update D (Obj.mapSeq λ_=>(#[]:Array Value))).push (seqObj "tuple" vs.toArray 0)).push (seqObj "list" #[] 0)->h3.get? D=some (seqObj "list" #[] e1)/\Inv X pins σ H { s with heap:=h3 }:=by
 have gone:=get?_update_seq ho λ_=>(#[]:Array Value);have rest:=(Heap.SameBut.update s.heap D (Obj.mapSeq λ_=>(#[]:Array Value))).2;generalize s.heap.update D (Obj.mapSeq λ_=>(#[]:Array Value))=h1 at gone rest;refine ⟨_,gone,λh3 e3=>?_⟩;have up:∀ c o,h1.get? c=some o->h3.get? c=some o:=λc o e=>e3 ▸ Heap.get?_push_of_some _ (Heap.get?_push_of_some _ e);refine ⟨up D _ gone,I.dz (t':=s.toks) (wr:=[D]) (λc hc=>?_) λc o hc e=>up c o ((rest c λz=>hc (z ▸ N3.mpr rfl)).trans e)⟩;rw [N3.mp hc];exact fD
theorem Dt {A:Around}{D:Addr}{n0:Nat}{xs:List V}{vs:List Value}{ds:List PyData}{P:PySem.Fin->Shared->Prop}{E:Value->Shared->Prop} (I:Inv X pins σ H s) (ho:s.heap.get? D=some (seqObj "list" vs.toArray n0)) (fD:b9 X pins H D)
  (hv:aV xs vs) (eng:∀ (s':Shared) (G:Array Nat->Shared->Prop),Inv X pins σ H s'->2<=vs.length->(∀ p:Array Nat,p.toList.Perm (List.range vs.length)->(∀ i j,i<=j->j<vs.length->ltv (ds.getD (p.getD j 0) .none) (ds.getD (p.getD i 0) .none)=false)->G p s')->wpAny (model X.prog X.w) A (keyKind' vs.toArray) (λκ s''=>(kas_sort vs.length).kasWp (kas_ask X.prog X.w A κ vs) G s'') (λ_ _=>False) s') (h64:vs.length<64)
  (h:∀ (p:List Nat) (h':Heap),p.Perm (List.range xs.length)->fZ ds p->Inv X pins σ (upd H D (.lst (picked xs p))) { s with heap:=h' }->P (.done (.ret .none)) { s with heap:=h' }) :
  wpAny (model X.prog X.w) A (Builtin.«list.sort» ⟨[.ref D],[]⟩) P E s:=by
 have hlen:=hv.length;obtain ⟨e1,ho1,at3⟩:=qG I ho fD;rw [list_sort_plain];refine wpAny_bind (listItems_at ho rfl (wpAny_bind (listUpdate_at ho rfl (wpAny_bind (seqEpoch_at ho1 rfl (wpAny_bind (wpAny_newTuple (wpAny_bind (wpAny_newList (wpAny_holding ?main) (Nat.zero_le _))) ?short)))) ?few (Nat.zero_le _))))
 case short=>show vs.length<=_;rw [sizeLine_eq];lia
 case few=>rw [Ob,sizeLine_eq];lia
 case main=>
 show wpAny (model X.prog X.w) A _ P E { s with heap:=((s.heap.update D (Obj.mapSeq λ_=>(#[]:Array Value))).push (seqObj "tuple" vs.toArray 0)).push (seqObj "list" #[] 0) };generalize hh3:((s.heap.update D (Obj.mapSeq λ_=>(#[]:Array Value))).push (seqObj "tuple" vs.toArray 0)).push (seqObj "list" #[] 0)=h3;obtain ⟨hD3,I3⟩:=at3 h3 hh3.symm;have fin:∀ (p:List Nat) (out:Array Value),p.Perm (List.range xs.length)->fZ ds p->out=List.toArray (p.map λi=>vs.getD i Value.none) ->
   P (.done (.ret .none)) { s with heap:=h3.update D (Obj.mapSeq λ_=>out) }:=λp out hp gu eo=>by
  have sb:=Heap.SameBut.update h3 D (Obj.mapSeq λ_=>out);obtain ⟨c2,hc2⟩:∃ c2,(h3.update D (Obj.mapSeq λ_=>out)).get? D=some (seqObj "list" out c2):=⟨_,get?_update_seq hD3 λ_=>out⟩;have pl:p.length=xs.length:=by rw [hp.length_eq];simp
  refine h p _ hp gu (I3.adopt (t':=s.toks) (wr:=[D]) (a:=D) (λc hc=>by rw [show c=D by simpa using hc];exact fD) (by simp) (λc o hc e=>(sb.2 c (by simpa using hc)).trans e) ?_);refine ⟨by rw [m3,pl,sizeLine_eq];lia,p.map λi=>vs.getD i Value.none,c2,lO hv p,?_⟩;rw [hc2,eo]
 dsimp only;by_cases hn2:vs.toArray.size<2
 ·rw [if_pos hn2,if_pos hn2];refine wpAny_bind (wpAny_pure ?_);refine wpAny_bind ?_;show wpAny _ _ ((pure ():StateT SortSt Sem Unit).run _) _ _ _;rw [StateT.run_pure];refine wpAny_pure ?_;dsimp only;refine wpAny_bind (seqEpoch_at hD3 rfl ?_);have Ec:(arrOf (SortSt.mk' general' (vs.toArray.zip vs.toArray) #[] 7 none)).map (·.2)=vs.toArray:=by
   show (vs.toArray.zip vs.toArray).map (·.2)=vs.toArray
   apply Array.toList_inj.mp;simp [List.map_snd_zip]
  rw [Ec];refine wpAny_bind (listUpdate_at hD3 rfl ?_ (Nat.zero_le _) (by show vs.toArray.size<=_;rw [Ob,sizeLine_eq];lia))
  (simp only [bne_self_eq_false,Bool.false_eq_true,if_false])
  refine wpAny_pure (fin (List.range xs.length) _ (List.Perm.refl _) (qX (by rw [Ob] at hn2;lia)) ?_);rw [hlen,eU]
 ·rw [if_neg hn2,if_neg hn2];have h2:2<=vs.length:=by rw [Ob] at hn2;lia
  refine wpAny_bind (wpAny_mono (eng _ (λp s'=>s' = { s with heap:=h3 }/\p.toList.Perm (List.range vs.length)/\fZ ds p.toList) I3 h2 λp hp up=>⟨rfl,hp,xF (by rw [hp.length_eq];simp) up⟩) (λκ s0 hk=>?_) λ_ _ x=>x.elim);refine wpAny_bind (wpAny_mono (kat_run (Q:=λst' s'=>∃ p:Array Nat,arrOf st' = p.map (kas_item (vs.toArray.zip vs.toArray))/\failedOf st' = none/\s' = { s with heap:=h3 }/\p.toList.Perm (List.range vs.length)/\fZ ds p.toList)
   rfl h2 h64 (λp' st' s' a1 a2 a3 a4=>⟨p',a2,a3,a4⟩) hk) ?_ λ_ _ e=>e)
  rintro ⟨⟨⟩,st'⟩ s' ⟨p,har,hfl,rfl,hp,gu⟩;dsimp only;have Ec:=kat_snds rfl har;rw [Ec];refine wpAny_bind (seqEpoch_at hD3 rfl ?_);refine wpAny_bind (listUpdate_at hD3 rfl ?_ (Nat.zero_le _) (by rw [Ob,NU,hp.length_eq,List.length_range,sizeLine_eq];lia));rw [hfl]
  (simp only [bne_self_eq_false,Bool.false_eq_true,if_false])
  exact wpAny_pure (fin p.toList _ (by rw [hlen];exact hp) gu rfl)
def k9 (h:Heap) (vs:List Value):Heap:=(h.push (seqObj "list" #[] 0)).update h.objs.size (Obj.mapSeq (· ++ vs.toArray))
theorem qH (h:Heap) (vs:List Value):(k9 h vs).objs.size=h.objs.size+1:=(Heap.size_update ..).trans (size_push' _ _)
theorem Cr (h:Heap) (vs:List Value):((k9 h vs).push (seqObj "list" vs.toArray 0)).get? (h.objs.size+1)=some (seqObj "list" vs.toArray 0):=by
 have q:((k9 h vs).push (seqObj "list" vs.toArray 0)).get? (k9 h vs).objs.size=some (seqObj "list" vs.toArray 0):=Heap.get?_push_size _ rfl
 rwa [qH] at q
theorem xX (h:Heap) (vs:List Value):∀ b o,h.get? b=some o->((k9 h vs).push (seqObj "list" vs.toArray 0)).get? b=some o:=λb o q=>
 Heap.get?_push_of_some _ (((Heap.SameBut.update (h.push (seqObj "list" #[] 0)) h.objs.size (Obj.mapSeq (· ++ vs.toArray))).2 b (Nat.ne_of_lt (Heap.lt_size q))).trans (Heap.get?_push_of_some _ q))
def rN (sp:Sp):List V->List V->Hp->(List V->Hp->Prop)->Prop
 | [],ks,H,Q=>Q ks H
 | x::r,ks,H,Q=>sp [x] H (λk H'=>rN sp r (ks++[k]) H' Q) E0
theorem zj {k:Nat}{f D kS:Addr}{fd:FuncData}{ps:List Str}{sp:Sp}{oD:Obj}{xs:List V}{vs:List Value}{Qk:List V->Hp->Prop}{e0:Nat}{body:Value->PUnit->Sem (ForInStep PUnit)}{E:Value->Shared->Prop}{R:PUnit->Shared->Prop}
  (F:au X.prog X.w X.K X.mg X.base CX0 k f fd ps sp) (hr:cC (k+2) X.A) (hb:Binds X.K fd ps []) (hne:D≠kS) (hD:∀ v,oD.data ≠ .cell v)
  (jy:∀ x (us:List Value) e (s:Shared) (C:Value->Shared->Prop),us.length<64->s.heap.get? kS=some (seqObj "list" us.toArray e)->wpAny (model X.prog X.w) X.A.in1.in1 (call (.ref f) [x]) (λk s'=>∃ (us':List Value) (e':Nat),us'.length<64/\s'.heap.get? kS=some (seqObj "list" us'.toArray e')/\C k s') (λ_ _=>False) s ->
   wpAny (model X.prog X.w) X.A.in1.in1 (body x ⟨⟩) (λr s'=>r = .yield ⟨⟩/\∃ k s1,C k s1/\s' = { s1 with heap:=s1.heap.update kS (Obj.mapSeq (·.push k)) }) E s)
  (hv:aV xs vs) (h64:vs.length<64) (I:Inv X pins σ H s) (fD:b9 X pins H D) (fK:b9 X pins H kS) (gD:s.heap.get? D=some oD) (gK:s.heap.get? kS=some (seqObj "list" ([]:List Value).toArray e0)) (hk:rN sp xs [] H Qk)
  (done:∀ s' H' ks us e,Inv X pins σ H' s'->b9 X pins H' D->b9 X pins H' kS->s'.heap.get? D=some oD->s'.heap.get? kS=some (seqObj "list" us.toArray e)->aV ks us->ks.length=xs.length->Qk ks H'->R ⟨⟩ s') :
  wpAny (model X.prog X.w) X.A.in1.in1 (forIn vs PUnit.unit body) R E s:=by
 have hlen:=hv.length;refine ksk_fold (λj s'=>∃ H' ks us e,Inv X pins σ H' s'/\b9 X pins H' D/\b9 X pins H' kS/\s'.heap.get? D=some oD/\s'.heap.get? kS=some (seqObj "list" us.toArray e)/\aV ks us/\ks.length=j/\rN sp (xs.drop j) ks H' Qk) vs 0 s
  ⟨H,[],[],e0,I,fD,fK,gD,gK,.nil,rfl,hk⟩ (λj x s' hx ⟨H',ks,us,e,I',fD',fK',gD',gK',rk,lk,tk⟩=>?_) λs' ⟨H',ks,us,e,I',fD',fK',gD',gK',rk,lk,tk⟩=>?_
 ·rw [Nat.zero_add] at tk lk
  (have hj:j<vs.length:=(List.getElem?_eq_some_iff.mp hx).1)
  have hjx:j<xs.length:=by lia
  have ex:xs[j]? = some xs[j]:=by simp [hjx]
  obtain ⟨u,hu,ru⟩:=hv.get ex;rw [hx] at hu;cases hu;rw [List.drop_eq_getElem_cons hjx] at tk;have hl:=rk.length;have Ip:Inv X (pins++[(D,oD),(kS,seqObj "list" us.toArray e)]) σ H' s':=I'.px λp hp=>by
   (rcases List.mem_append.mp hp with z | z)
   ·exact I'.pin p (Od _ z)
   ·rcases List.mem_cons.mp z with z | z
    ·subst z;exact ⟨gD',fD'.1,fD'.2.1,fD'.2.2.1,hD⟩
    ·have z':p=(kS,seqObj "list" us.toArray e):=by simpa using z
     subst z';exact ⟨gK',fK'.1,fK'.2.1,fK'.2.2.1,λv q=>by cases q⟩
  have hlp:[x].length=ps.length:=F.len _ _ _ _ tk;have run:=F.run X.A.in1.in1 X.stack s' H' ⟨[x],[]⟩ [x] [xs[j]] _ E0 (hr.in1.in1) (Ip.Gu.in1.in1) (by have:=hb s' [x] I'.kIn (by simpa using hlp);simpa using this) (.cons ru .nil) tk;refine wpAny_mono (jy x us e s' (λkv s1=>∃ v H1,Inv X (pins++[(D,oD),(kS,seqObj "list" us.toArray e)]) σ H1 s1/\RelV v kv/\rN sp (xs.drop (j+1)) (ks++[v]) H1 Qk) (by lia) gK' (wpAny_call (codeAny_mono run λr s1 hq=>?_))) (λr s2 hr2=>?_) λ_ _ z=>z
  ·cases r with
   | error er=>exact hq.elim
   | ok fl=>
    cases fl with
    | ret kv=>
     obtain ⟨v,H1,I1,r1,q1⟩:=Ip.after hq;refine ⟨us,e,by lia,(I1.pin (kS,seqObj "list" us.toArray e) (by simp)).1,v,H1,I1,r1,q1⟩
    | next=>exact False.elim hq
    | brk=>exact False.elim hq
    | cont=>exact False.elim hq
  ·obtain ⟨er,kv,s1,⟨v,H1,I1,r1,q1⟩,es⟩:=hr2;refine ⟨er,?_⟩;subst es;have pD:=I1.pin (D,oD) (by simp);have pK:=I1.pin (kS,seqObj "list" us.toArray e) (by simp);have I1':Inv X pins σ H1 s1:=I1.eX;have fD1:b9 X pins H1 D:=⟨pD.2.1,fD'.2⟩;have fK1:b9 X pins H1 kS:=⟨pK.2.1,fK'.2⟩;have sb:=Heap.SameBut.update s1.heap kS (Obj.mapSeq (·.push kv))
   have ea:us.toArray.push kv=(us++[kv]).toArray:=by simp
   obtain ⟨c2,hc2⟩:∃ c2,(s1.heap.update kS (Obj.mapSeq (·.push kv))).get? kS=some (seqObj "list" (us++[kv]).toArray c2):=⟨_,by rw [<-ea];exact get?_update_seq pK.1 (·.push kv)⟩
   have I2:Inv X pins σ H1 { s1 with heap:=s1.heap.update kS (Obj.mapSeq (·.push kv)) }:=I1'.dz (t':=s1.toks) (wr:=[kS]) (λc hc=>by rw [show c=kS by simpa using hc];exact fK1) λc o hc e=>(sb.2 c (by simpa using hc)).trans e
   refine ⟨H1,ks++[v],us++[kv],c2,I2,fD1,fK1,(sb.2 D hne).trans pD.1,hc2,rk.append (.cons r1 .nil),by simp [lk],?_⟩;rw [Nat.zero_add];exact q1
 ·rw [Nat.zero_add] at tk lk;rw [List.drop_of_length_le (by lia)] at tk;exact done s' H' ks us e I' fD' fK' gD' gK' rk (by lia) tk
theorem zf {a r:Sh}{b:Bool}{k:Nat}{f D:Addr}{fd:FuncData}{ps:List Str}{sp:Sp}{n0:Nat} (hf:j8 a b) {xs:List V}{vs:List Value}{P:PySem.Fin->Shared->Prop}{E:Value->Shared->Prop}
  (F:au X.prog X.w X.K X.mg X.base CX0 k f fd ps sp) (hr:cC (k+2) X.A) (hb:Binds X.K fd ps []) (I:Inv X pins σ H s) (ho:s.heap.get? D=some (seqObj "list" vs.toArray n0)) (fD:b9 X pins H D)
  (hv:aV xs vs) (h64:vs.length<64)
  {Qk:List V->Hp->Prop} (h:rN sp xs [] H Qk) (hQ:∀ ks H1,Qk ks H1->∃ kds,aI X.K H1 ks kds/\(∀ d∈kds,(Sh.cw a r).has d)/\(∀ d∈kds,d.depth<=100) /\
   ∀ (p:List Nat) (s':Shared),p.Perm (List.range xs.length)->fZ kds p->H1 D=none->Inv X pins σ (upd H1 D (.lst (picked xs p))) s'->P (.done (.ret .none)) s') :
  wpAny (model X.prog X.w) X.A.in1.in1 (ksk_tree D (.ref f) false) P E s:=by
 have hu:X.A.in1.in1.units+101<cLine:=by show X.A.units+1+1+101<cLine;have:=hr.un;lia
 have hlen:=hv.length;obtain ⟨e1,ho1,at3⟩:=qG I ho fD;unfold ksk_tree;refine wpAny_bind (listItems_at ho rfl (wpAny_bind (listUpdate_at ho rfl (wpAny_bind (seqEpoch_at ho1 rfl (wpAny_bind (wpAny_newTuple (wpAny_bind (wpAny_newList (wpAny_holding ?main) (Nat.zero_le _))) ?short)))) ?few (Nat.zero_le _))))
 case short=>show vs.length<=_;rw [sizeLine_eq];lia
 case few=>rw [Ob,sizeLine_eq];lia
 case main=>
 show wpAny (model X.prog X.w) X.A.in1.in1 (ksk_rest D (.ref f) false vs.toArray e1 (.ref ((s.heap.update D (Obj.mapSeq λ_=>(#[]:Array Value))).push (seqObj "tuple" vs.toArray 0)).objs.size)) P E { s with heap:=((s.heap.update D (Obj.mapSeq λ_=>(#[]:Array Value))).push (seqObj "tuple" vs.toArray 0)).push (seqObj "list" #[] 0) };have hsz:((s.heap.update D (Obj.mapSeq λ_=>(#[]:Array Value))).push (seqObj "tuple" vs.toArray 0)).objs.size=s.heap.objs.size+1:=by rw [size_push',Heap.size_update]
 have gK:(((s.heap.update D (Obj.mapSeq λ_=>(#[]:Array Value))).push (seqObj "tuple" vs.toArray 0)).push (seqObj "list" #[] 0)).get? (s.heap.objs.size+1)=some (seqObj "list" ([]:List Value).toArray 0):=by
  (rw [<-hsz];exact Heap.get?_push_size _ rfl)
 rw [hsz];generalize hh3:((s.heap.update D (Obj.mapSeq λ_=>(#[]:Array Value))).push (seqObj "tuple" vs.toArray 0)).push (seqObj "list" #[] 0)=h3 at gK;obtain ⟨hD3,I3⟩:=at3 h3 hh3.symm;have Nj:D<s.heap.objs.size:=Heap.lt_size ho;have hne:D≠s.heap.objs.size+1:=Nat.ne_of_lt (Nat.lt_succ_of_lt Nj);have fK:b9 X pins H (s.heap.objs.size+1):=I.qZ (Nat.le_succ _) (I.hok.fresh (Nat.le_succ _));generalize s.heap.objs.size+1=kS at *;unfold ksk_rest;refine wpAny_bind (wpAny_rule ?_)
 first | rw [List.forIn_toArray] | (rw [<-Array.forIn_toList];simp only [List.toList_toArray])
 refine wpAny_bind (zj (R:=λ_ s'=>wpAny (model X.prog X.w) X.A.in1.in1 (Builtin.List.listItems (.ref kS) >>= λkeys=>ksk_end D false vs.toArray e1 (.ref kS) keys) P E s') F hr hb hne (λv z=>by cases z) (λx us e s' C hz gk hx=>?_) hv h64 I3 fD fK hD3 gK h λs' H' ks us e I' fD' fK' gD' gK' rk lk qk=>?_)
 ·refine wpAny_bind (wpAny_attempt (wpAny_mono hx (λkv s'' hk=>?_) λ_ _ hF=>hF.elim));obtain ⟨us',e',hz',gk',c⟩:=hk
  try dsimp only
  refine wpAny_bind (listUpdate_at gk' rfl ?_ (by rw [Ob,sizeLine_eq];lia) (N2 (Nat.le_of_eq (Array.size_push ..)) (by rw [Ob,sizeLine_eq];lia)));exact wpAny_pure ⟨rfl,kv,s'',c,rfl⟩
 ·obtain ⟨kds,hd,hs,zT,q⟩:=hQ _ _ qk;refine wpAny_bind (listItems_at gK' rfl ?_);have hl2:us.length=vs.length:=by rw [<-rk.length];lia
  have LU:∀ (st:SortSt) (p:List Nat),(arrOf st).map (·.2)=List.toArray (p.map λi=>vs.getD i Value.none)->failedOf st=none->p.Perm (List.range xs.length)->fZ kds p->wpAny (model X.prog X.w) X.A.in1.in1 (ksk_tail D false e1 (.ref kS) st) P E s':=λst p Ec hfl hp gu=>by
   have sk:=Heap.SameBut.update s'.heap kS (Obj.mapSeq λ_=>(#[]:Array Value));have gD2:(s'.heap.update kS (Obj.mapSeq λ_=>(#[]:Array Value))).get? D=some (seqObj "list" #[] e1):=(sk.2 D hne).trans gD';have pl:p.length=xs.length:=by rw [hp.length_eq];simp
   unfold ksk_tail
   try dsimp only
   rw [Ec];refine wpAny_bind (listUpdate_at gK' rfl ?_ (by rw [Ob,sizeLine_eq];lia) (Nat.zero_le _));refine wpAny_bind (wpAny_letGo ?_);refine wpAny_bind (seqEpoch_at gD2 rfl ?_);refine wpAny_bind (listUpdate_at gD2 rfl ?_ (Nat.zero_le _) (by simp only [Bool.false_eq_true,if_false];rw [Ob,NU,pl,sizeLine_eq];lia));rw [hfl]
   (simp only [bne_self_eq_false,Bool.false_eq_true,if_false])
   refine wpAny_pure ?_;have sd:=Heap.SameBut.update (s'.heap.update kS (Obj.mapSeq λ_=>(#[]:Array Value))) D (Obj.mapSeq λ_=>List.toArray (p.map λi=>vs.getD i Value.none));obtain ⟨c2,hc2⟩:∃ c2,((s'.heap.update kS (Obj.mapSeq λ_=>(#[]:Array Value))).update D (Obj.mapSeq λ_=>List.toArray (p.map λi=>vs.getD i Value.none))).get? D=some (seqObj "list" (List.toArray (p.map λi=>vs.getD i Value.none)) c2):=⟨_,get?_update_seq gD2 λ_=>List.toArray (p.map λi=>vs.getD i Value.none)⟩;refine q p _ hp gu fD'.1 (I'.adopt (t':=s'.toks) (wr:=[D,kS]) (a:=D) (λc hc=>?_) (by simp) (λc o hc e=>?_) ⟨by rw [m3,pl,sizeLine_eq];lia,p.map λi=>vs.getD i Value.none,c2,lO hv p,hc2⟩)
   ·rcases List.mem_cons.mp hc with z | z
    ·rw [z];exact fD'
    ·rw [show c=kS by simpa using z];exact fK'
   ·exact (sd.2 c (λz=>hc (by simp [z]))).trans ((sk.2 c (λz=>hc (by simp [z]))).trans e)
  unfold ksk_end
  try dsimp only
  (simp only [Bool.false_eq_true,if_false])
  by_cases hn2:vs.toArray.size<2
  ·rw [if_pos hn2,if_pos hn2];refine wpAny_bind (wpAny_pure ?_);refine wpAny_bind ?_;show wpAny _ _ ((pure ():StateT SortSt Sem Unit).run _) _ _ _;rw [StateT.run_pure];refine wpAny_pure ?_;dsimp only;refine LU _ (List.range xs.length) ?_ rfl (List.Perm.refl _) (qX (by rw [Ob] at hn2;lia));show (us.toArray.zip vs.toArray).map (·.2)=_
   rw [hlen,eU];apply Array.toList_inj.mp;simp [List.map_snd_zip,hl2]
  ·rw [if_neg hn2,if_neg hn2];have h2:2<=us.length:=by rw [Ob] at hn2;lia
   refine wpAny_bind (wpAny_mono (xH (A:=X.A.in1.in1) (G:=λp s2=>s2=s'/\p.toList.Perm (List.range us.length)/\fZ kds p.toList) hf I' rk hd hs zT h2 hu λp hp up=>⟨rfl,hp,xF (by rw [hp.length_eq];simp) up⟩) (λκ s0 hk=>?_) λ_ _ x=>x.elim);rw [hl2] at hk;refine wpAny_bind (wpAny_mono (kat_run (ks:=us) (vs:=vs) (Q:=λst' s2=>∃ p:Array Nat,arrOf st' = p.map (kas_item (us.toArray.zip vs.toArray))/\failedOf st' = none/\s2=s'/\p.toList.Perm (List.range vs.length)/\fZ kds p.toList)
    hl2 (by lia) h64 (λp' st' s2 a1 a2 a3 a4=>⟨p',a2,a3,a4⟩) hk) ?_ λ_ _ e=>e)
   rintro ⟨⟨⟩,st'⟩ s2 ⟨p,har,hfl,rfl,hp,gu⟩;dsimp only;exact LU st' p.toList (kat_snds hl2 har) hfl (by rw [hlen];exact hp) gu
def DJ (K:PySem.W.Frag) (a r:Sh) (sp:Sp):V->Hp->VK->Prop:=λx H Q=>∃ l xs,x = .ref l/\SqL K H l xs/\xs.length<64/\rN sp xs [] H λks H1=>
 ∃ kds,aI K H1 ks kds/\(∀ d∈kds,(Sh.cw a r).has d)/\(∀ d∈kds,d.depth<=100)/\∀ (D:Addr) (p:List Nat),H1 D=none->p.Perm (List.range xs.length)->fZ kds p->Q (.ref D) (upd H1 D (.lst (picked xs p)))
theorem AD {a r:Sh}{b:Bool}{k:Nat}{f:Addr}{fd:FuncData}{ps:List Str}{sp:Sp}{x:V}{u:Value}{Q:VK} (hf:j8 a b) (F:au X.prog X.w X.K X.mg X.base CX0 k f fd ps sp) (hr:cC (k+2) X.A) (hb:Binds X.K fd ps []) (I:Inv X pins σ H s) (rx:RelV x u) (h:DJ X.K a r sp x H Q) :
  wpAny (model X.prog X.w) X.A (call (.builtin "sorted") [u] [(Str.ofString "key",.ref f)]) (EP X pins σ Q) X.xe s:=by
 obtain ⟨l,ys,rfl,hq,h64,q⟩:=h;cases rx;obtain ⟨vs,r,pl,_⟩:=I.list hq;have hlen:=r.length;refine call_function_entry_kw kind_sorted plain_sorted entry_sorted (ksk_s1 _ _) ?_;unfold Builtin.«sorted»
 (refine wpAny_bind (m:=checkCount "sorted" 1 1 _) (wpAny_pure ?_))
 refine wpAny_bind (collect_list pl.isList ?_ (by rw [sizeLine_eq];lia))
 (refine wpAny_bind (wpAny_newList ?_ (by rw [sizeLine_eq];lia)))
 have hsz:=qH s.heap vs;have hoL:=Cr s.heap vs;have keep:=xX s.heap vs;show wpAny _ _ _ _ _ { s with heap:=(k9 s.heap vs).push (seqObj "list" vs.toArray 0) };show wpAny _ _ (_ >>= λ_=>_) _ _ { s with heap:=(k9 s.heap vs).push (seqObj "list" vs.toArray 0) };rw [show ((s.heap.push (seqObj "list" #[] 0)).update s.heap.objs.size (Obj.mapSeq (· ++ vs.toArray))).objs.size=s.heap.objs.size+1 from hsz]
 generalize (k9 s.heap vs).push (seqObj "list" vs.toArray 0)=h2 at hoL keep ⊢;have I2:Inv X pins σ H { s with heap:=h2 }:=I.kept (t':=s.toks) keep;have hDn:H (s.heap.objs.size+1)=none:=I.hok.fresh (Nat.le_succ _);have fD:b9 X pins H (s.heap.objs.size+1):=I.qZ (Nat.le_succ _) hDn;refine wpAny_bind (wpAny_holding (wpAny_call_entry_kw slot_list_sort ⟨_,hoL,rfl⟩ entry_list_sort ?body (ksk_l1 _ _)))
 case body=>
  show wpAny (model X.prog X.w) X.A.in1.in1 (Builtin.«list.sort» ⟨[.ref (s.heap.objs.size+1)],[(Str.ofString "key",.ref f)]⟩) _ _ _;rw [ksk_t1];refine zf (s:={ s with heap:=h2 }) hf F hr hb I2 hoL fD r (by lia) q λks H1 ⟨kds,hd,hs,zT,q2⟩=>⟨kds,hd,hs,zT,λp s' hp gu hn I'=>?_⟩;refine ⟨_,rfl,wpAny_pure ⟨_,rfl,?_⟩⟩;exact ⟨.ref _,_,I',rfl,q2 _ p hn hp gu⟩
def Jk (K:PySem.W.Frag) (a r:Sh) (sp:Sp) (ta:TA):TE:=λσ H Q=>ta σ H λvs H1=>∃ x,vs=[x]/\DJ K a r sp x H1 Q
theorem y4 {a r:Sh}{b:Bool}{k:Nat}{f:Addr}{fd:FuncData}{ps:List Str}{sp:Sp}{e:Expr}{ta:TA}{y:Str}{p py pos kp:Pos} (hf:j8 a b) (F:au X.prog X.w X.K X.mg X.base CX0 k f fd ps sp) (hr:cC (k+2) X.A) (hb:Binds X.K fd ps [])
  (hg:Gl X "sorted") (hm:X.mg "sorted" = none) (hgf:Gl X y) (hmf:X.mg y=some (.ref f)) (ha:PA X [e] ta) (hdb:(y == ("__debug__" : Str))=false:=by decide)
  (he:backTo pos (starEach [e] X.env)=(false,eval e X.env)::backTo pos (starEach [] X.env):=by rfl) (il:(backTo pos (starEach [e] X.env)).any (·.1)=false:=by rfl)
  (fc:(backToKw pos (keywordEach [⟨some "key",.Name y py,kp⟩] X.env)).all (·.1.isSome)=true:=by rfl) (hkw:(backToKw pos (keywordEach [⟨some "key",.Name y py,kp⟩] X.env)).any (·.1.isNone)=false:=by rfl) :
  PE X (.Call (.Name "sorted" p) [e] [⟨some "key",.Name y py,kp⟩] pos) (Jk X.K a r sp ta):=by
 intro pins s σ H Q I h;refine wpAny_Call_Name_kw (eD I hg hm boot_sorted ?_);refine callWith_kw (thn (ha pos pins s σ H _ I h) λus s1 ⟨vs,H1,I1,r1,q1⟩=>?_) he il fc hkw;obtain ⟨x,rfl,q⟩:=q1;obtain ⟨u,rfl,ru⟩:=r1.one;refine kws_cons (md I1 hgf hmf (kws_nil ?_) hdb);exact AD hf F hr hb I1 ru q
end
section
open PySem.SeqAt
open PySem.AutoSeq1 (wpAny_loadPart')
open PySem.MeetsSeq PySem.MeetsSeq2 PySem.MeetsSeq3
theorem index_loop {prog:Program}{w:World}{A:Around}{E:Value->Shared->Prop}{s:Shared}{items:Array Value}{x:Value}{e:Nat->Bool}{j:Nat} (hj:j<items.size) (hit:e j=true) (hno:∀ m,m<j->e m=false) (he:∀ i (h:i<items.size),EqAt A s items[i] x (e i))
  {body:Nat->Option PySem.Fin×PUnit->Sem (ForInStep (Option PySem.Fin×PUnit))} (hb:∀ i u,body i u=(match items[i]? with
   | some y=>do
    let c <-eqBool y x
    if c=true then do
     let r <-retInt i
     pure (ForInStep.done (some r,⟨⟩))
    else pure (ForInStep.yield (none,⟨⟩))
   | _=>pure (ForInStep.yield (none,⟨⟩)))) {Q:Option PySem.Fin×PUnit->Shared->Prop} (q:Q (some (.done (.ret (.int j s.toks))),⟨⟩) { s with toks:=s.toks+1 }) :
  ∀ (k i:Nat) (u:Option PySem.Fin×PUnit),i<=j->k=items.size - i->wpAny (model prog w) A (forIn (List.range' i k 1) u body) Q E s:=by
 intro k
 induction k with
 | zero=>intro i u hi hk;lia
 | succ k ih=>
  intro i u hi hk;rw [List.range'_succ,List.forIn_cons,hb]
  (have hlt:i<items.size:=by lia)
  have hi1:items[i]? = some items[i]:=by simp [hlt]
  rw [hi1];refine wpAny_bind (wpAny_bind (he i hlt prog w _ _ ?_));cases hei:e i with
  | true=>
   have:i=j:=by
    by_cases z:i<j
    ·rw [hno i z] at hei;cases hei
    ·lia
   subst this;rw [if_pos rfl];refine wpAny_bind ?_;show wpAny _ _ (retInt (i:Int)) _ _ s;unfold retInt
   (refine wpAny_bind (wpAny_mkInt ?_))
   (exact wpAny_pure (wpAny_pure (wpAny_pure q)))
  | false=>
   have:i≠j:=λz=>by rw [z,hit] at hei;cases hei
   rw [if_neg N6];refine wpAny_pure ?_;exact ih (i+1) _ (by lia) (by lia)
end
section
variable {X:Cx}
def Ek (K:PySem.W.Frag):V->List V->Hp->VK->Prop:=λx vs H Q=>∃ p xs y j,x = .ref p/\vs=[y]/\SqT K H p xs/\gy y=true/\xs.all gy=true/\j<xs.length/\eqV (xs.getD j .non) y=true/\(∀ m,m<j->eqV (xs.getD m .non) y=false)/\Q (.int j) H
theorem CW:MtR X "tuple.index" (Ek X.K):=by
 intro pins s σ H x vs v us Q I rx rv h;obtain ⟨p,xs,y,j,rfl,rfl,hq,fy,fx,hj,e1,e2,q⟩:=h;cases rx;obtain ⟨u,rfl,ru⟩:=rv.one;obtain ⟨its,r,⟨⟨cls,dd,data,sl⟩,eo,c,n,d⟩,_⟩:=I.tuple hq;simp only at c d;subst c d;have hl:=r.length;have eqs:∀ i (hi:i<its.toArray.size) (A:Around),SeqAt.EqAt A s its.toArray[i] u (eqV (xs.getD i .non) y):=λi hi A=>by
  have hi':i<its.length:=by simpa using hi
  have hx:xs[i]? = some xs[i]:=by simp [hl,hi']
  obtain ⟨w,hw,rw'⟩:=r.get hx;have e3:its.toArray[i]=w:=by
   have:its[i]? = some its[i]:=by simp [hi']
   rw [hw] at this;simpa using (Option.some.inj this).symm
  have e4:xs.getD i .non=xs[i]:=by rw [N9,hx];rfl
  rw [e3,e4];exact FH rw' ru (List.all_eq_true.mp fx _ (List.getElem_mem _)) fy
 refine wpAny_call_entry F.slot_tuple_index ⟨_,eo,rfl⟩ F.entry_tuple_index ?_ (F.args_tuple_index_2 _ _);show wpAny _ _ (Builtin.Tuple.tupleItemsOf (.ref p) >>= _) _ _ s;refine wpAny_bind ?_
 (unfold Builtin.Tuple.tupleItemsOf)
 refine wpAny_bind (wpAny_seqItems eo rfl (wpAny_pure ?_));show wpAny _ _ (forIn [0:min its.toArray.size its.toArray.size] ((none:Option PySem.Fin),PUnit.unit) _ >>= _) _ _ s;rw [Std.Legacy.Range.forIn_eq_forIn_range'];have hsz:([0:min its.toArray.size its.toArray.size]:Std.Legacy.Range).size=its.toArray.size:=by simp [Std.Legacy.Range.size]
 rw [hsz];refine wpAny_bind (index_loop (items:=its.toArray) (x:=u) (e:=λi=>eqV (xs.getD i .non) y) (j:=j) (by rw [Ob];lia) e1 e2 (λi hi=>eqs i hi _) (λi u=>?_) ?_ _ 0 _ (Nat.zero_le _) rfl)
 ·rfl
 ·refine wpAny_pure ⟨_,rfl,?_⟩;exact ⟨.int j,H,I.tok _,⟨_,rfl⟩,q⟩
def Gb (K:PySem.W.Frag):List V->Hp->VK->Prop:=λvs H Q=>∃ x n t b,vs=[x,.ty n]/\qA K H x t/\kitOne K t (.type n)=some b/\Q (.bl b) H
theorem sj:mO X (.builtin "isinstance") (Gb X.K):=by
 intro pins s σ H xs us Q I rv h;obtain ⟨x,n,t,b,rfl,ty,e,q⟩:=h;obtain ⟨u,w',rfl,r1,r2⟩:=vals2 rv;obtain rfl:w' = Value.type n:=r2;exact CI I r1 ty e λtk=>⟨.bl b,H,I.tok _,rfl,q⟩
end
end L2
namespace L2
open PySem PySem.Spec PyProof.Rows
structure a8 (K:PySem.W.Frag) (mg:Str->Option Value) (x:Str) (st:Stmt) (ps:List Str) (f:Addr) (fd:FuncData):Prop where
 fn:Fun K x x st f fd
 bd:Binds K fd ps []
 mg:mg x=some (.ref f)
theorem af.new {H:Hp}{p:Addr}{o:HO} (h:H p=none):af H (upd H p o):=λb u e=>by rw [ay (ao e h)];exact e
def CN (D:Addr) (Pv:List V->St->Hp->Prop):St->Hp->Prop:=λσ H=>∃ acc,H D=some (.lst acc)/\Pv acc σ H
section
variable {K:PySem.W.Frag}{g:TG}{tt:TT}{te:TE}{D:Addr}{Q:VK}{σ:St}{H:Hp}
theorem oO {J:It} (n:Nat) (Pv:Nat->List V->St->Hp->Prop) (hD:H D=some (.lst [])) (h0:Pv 0 [] σ H)
  (hgo:∀ i acc σ H,i<n->H D=some (.lst acc)->Pv i acc σ H->J.go i H) (K9:∀ acc σ H,H D=some (.lst acc)->Pv n acc σ H->J.stop n H)
  (hs:∀ i acc σ H x H',i<n->H D=some (.lst acc)->Pv i acc σ H->J.yld i H x H'->g x σ H' λσ2 H2=>tt σ2 H2 λb H3=>if b=true then te σ2 H3 λv H4=>∃ ys,H4 D=some (.lst ys)/\ys.length<sizeLine/\CN D (Pv (i+1)) σ2 (upd H4 D (.lst (ys++[v]))) else CN D (Pv (i+1)) σ2 H3)
  (hd:∀ acc σ H,H D=some (.lst acc)->Pv n acc σ H->Q (.ref D) H):rV g tt te J D Q σ H:=by
 refine ⟨λi m σ H=>m=n - i/\i<=n/\CN D (Pv i) σ H,⟨n,by simp,Nat.zero_le _,[],hD,h0⟩,?_⟩;rintro i m σ H ⟨rfl,hi,acc,cZ,p⟩;by_cases hlt:i<n
 ·exact .inr ⟨hgo i acc σ H hlt cZ p,CN D (Pv (i+1)),λσ' H' p'=>⟨n - (i+1),by lia,rfl,hlt,p'⟩,λx H' y=>hs i acc σ H x H' hlt cZ p y⟩
 ·have e:i=n:=by lia
  subst e;exact .inl ⟨K9 acc σ H cZ p,hd acc σ H cZ p⟩
theorem aE {a:Addr}{xs:List V} (Pv:Nat->List V->St->Hp->Prop) (hD:H D=some (.lst [])) (h0:Pv 0 [] σ H) (hl:∀ i acc σ H,i<=xs.length->H D=some (.lst acc)->Pv i acc σ H->SqL K H a xs)
  (hs:∀ i x acc σ H,xs[i]? = some x->H D=some (.lst acc)->Pv i acc σ H->g x σ H λσ2 H2=>tt σ2 H2 λb H3=>if b=true then te σ2 H3 λv H4=>∃ ys,H4 D=some (.lst ys)/\ys.length<sizeLine/\CN D (Pv (i+1)) σ2 (upd H4 D (.lst (ys++[v]))) else CN D (Pv (i+1)) σ2 H3)
  (hd:∀ acc σ H,H D=some (.lst acc)->Pv xs.length acc σ H->Q (.ref D) H):rV g tt te (Itl K a) D Q σ H:=by
 refine oO xs.length Pv hD h0 (λi acc σ H hi cZ p=>⟨xs,xs[i],hl i acc σ H (Nat.le_of_lt hi) cZ p,by simp [hi]⟩) (λacc σ H cZ p=>⟨xs,hl _ acc σ H (NX _) cZ p,NX _⟩) (λi acc σ H x H' hi cZ p y=>?_) hd;obtain ⟨e,y⟩:=y;subst e;exact hs i x acc σ _ (y xs (hl i acc σ _ (Nat.le_of_lt hi) cZ p)) cZ p
theorem ia {lo:Int}{n:Nat} (Pv:Nat->List V->St->Hp->Prop) (hD:H D=some (.lst [])) (h0:Pv 0 [] σ H)
  (hs:∀ i acc σ H,i<n->H D=some (.lst acc)->Pv i acc σ H->g (.int (lo+i)) σ H λσ2 H2=>tt σ2 H2 λb H3=>if b=true then te σ2 H3 λv H4=>∃ ys,H4 D=some (.lst ys)/\ys.length<sizeLine/\CN D (Pv (i+1)) σ2 (upd H4 D (.lst (ys++[v]))) else CN D (Pv (i+1)) σ2 H3)
  (hd:∀ acc σ H,H D=some (.lst acc)->Pv n acc σ H->Q (.ref D) H):rV g tt te (Itr lo n) D Q σ H:=by
 refine oO n Pv hD h0 (λi acc σ H hi cZ p=>hi) (λacc σ H cZ p=>NX _) (λi acc σ H x H' hi cZ p y=>?_) hd;obtain ⟨e,y⟩:=y;subst e y;exact hs i acc σ _ hi cZ p
end
theorem qx {K:PySem.W.Frag}{sp:Sp}{Qk:List V->Hp->Prop}{H0:Hp}:∀ (xs:List V) (kds:List PyData) (ks:List V) (dks:List PyData) (H:Hp),xs.length=kds.length->af H0 H->aI K H ks dks ->
  (∀ (i:Nat) (x:V) (d:PyData) (H:Hp) (Q:VK),xs[i]? = some x->kds[i]? = some d->af H0 H->(∀ r H',af H H'->Den K H' r d->Q r H')->sp [x] H Q E0)->(∀ ks' H',af H0 H'->aI K H' ks' (dks++kds)->Qk ks' H')->rN sp xs ks H Qk
 | [],[],ks,dks,H,_,hs,hd,_,hq=>hq ks H hs (by simpa using hd)
 | x::xs,d::kds,ks,dks,H,hl,hs,hd,hsp,hq=>by
  refine hsp 0 x d H _ rfl rfl hs λr H' s' dr=>?_;refine qx xs kds (ks++[r]) (dks++[d]) H' (by simpa using hl) (hs.trans s') ((hd.same s').append (.cons dr .nil)) (λi y e H2 Q h1 h2=>hsp (i+1) y e H2 Q (by simpa using h1) (by simpa using h2)) λks' H2 h1 h2=>hq ks' H2 h1 (by simpa using h2)
def JB (sc osc:Scope) (N N':List Str) (n:Nat) (fi:List Nat):Bool:=
 decide (sc.kind = .function) && decide (∀ y∈sc.names,y.2 = .local->sc.names.lookup y.1=some .local)
 && decide (∀ y∈sc.names,y.2 = .free->osc.names.lookup y.1=some .cell\/osc.names.lookup y.1=some .free)
 && decide (N'.length=n+fi.length)
 && (List.range fi.length).all λj=>match fi[j]? with
  | some k=>match N'[n+j]? with
   | some x=>decide (N[k]? = some x) && decide (sc.names.lookup x=some .free) && decide ((x,NameKind.cell)∉sc.names)
   | none=>false
  | none=>false
theorem aU {X:Cx}{sc:Scope}{N':List Str}{n:Nat}{fi:List Nat} (osc:Scope) (N:List Str) (h:JB sc osc N N' n fi=true) (e1:X.env.scope=osc:=by rfl) (e2:X.N=N:=by rfl):i3 X sc N' n fi:=by
 subst e1 e2;simp only [JB,Oa,decide_eq_true_eq] at h;obtain ⟨⟨⟨⟨h1,h2⟩,h3⟩,h4⟩,h5⟩:=h;refine ⟨h1,h2,h3,h4,λj k hj=>?_⟩;have hlt:j<fi.length:=by
  rcases Nat.lt_or_ge j fi.length with q | q
  ·exact q
  ·rw [List.getElem?_eq_none q] at hj;cases hj
 have h6:=List.all_eq_true.mp h5 j (List.mem_range.mpr hlt);rw [hj] at h6;dsimp only at h6;cases e:N'[n+j]? with
 | none=>rw [e] at h6;cases h6
 | some x=>
  rw [e] at h6;simp only [Oa,decide_eq_true_eq] at h6;exact ⟨x,rfl,h6.1.1,h6.1.2,h6.2⟩
def lim (H H':Hp):Hp:=λb=>match H b with | some (.lst _)=>none | _=>H' b
def wo (D:Addr) (H:Hp):Hp:=λb=>if b=D then none else H b
section
variable {H H' H1 H2 H3:Hp}{D E p b:Addr}{o u:HO}{xs ys:List V}
theorem nH (h:∀ zs,H b≠some (.lst zs)):lim H H' b=H' b:=by
 unfold lim
 split
 ·rename_i zs e;exact (h zs e).elim
 ·rfl
theorem i0 (h:H p=none):lim H H' p=H' p:=nH λzs e=>by rw [h] at e;cases e
theorem cg:af (lim H H') H':=λb o e=>by
 unfold lim at e
 split at e
 ·cases e
 ·exact e
theorem vV (h:lim H H' b=some o):∀ zs,H b≠some (.lst zs):=λzs e=>by
 simp only [lim,e] at h;cases h
theorem c7 (h:af H1 H2):af (lim H H1) (lim H H2):=λb o e=>by
 rw [nH (vV e)];exact h b o (cg b o e)
def LL (H H':Hp):Prop:=∀ b ys,H b=some (.lst ys)->∃ zs,H' b=some (.lst zs)
theorem af.ll (h:af H H'):LL H H':=λb ys e=>⟨ys,h b _ e⟩
theorem eS (h:LL H H1):af (lim H1 H2) (lim H H2):=λb o e=>by
 rw [nH]
 ·exact cg b o e
 ·intro zs q;obtain ⟨z2,q2⟩:=h b zs q;exact vV e z2 q2
theorem aT (h:b≠D):wo D H b=H b:=by simp [wo,h]
theorem d6:wo D H D=none:=by simp [wo]
theorem gq (h:wo D H b=some o):b≠D/\H b=some o:=by
 unfold wo at h
 split at h
 ·cases h
 ·rename_i q;exact ⟨q,h⟩
theorem bG:af (wo D H) H:=λb o e=>(gq e).2
theorem mF (h:af H1 H2):af (wo D H1) (wo D H2):=λb o e=>by
 rw [aT (gq e).1];exact h b o (gq e).2
theorem p7:wo D (upd H D o)=wo D H:=by
 funext b
 by_cases e:b=D
 ·subst e;rw [d6,d6]
 ·rw [aT e,aT e,ay e]
theorem yI:af (wo D H) (upd H D o):=λb u e=>by rw [ay (gq e).1];exact (gq e).2
theorem ck (h:af (wo D H1) H2) (g:af (wo D H2) H3):af (wo D H1) H3:=λb o e=>g b o (by rw [aT (gq e).1];exact h b o e)
theorem wj (h:H D=some (.lst ys)):af (lim H H') (wo D H'):=λb o e=>by
 have hb:b≠D:=λq=>by subst q;exact vV e _ h
 rw [aT hb];exact cg b o e
theorem mz (h:H D=some (.lst ys)):lim H (upd H' D o)=lim H H':=by
 funext b
 by_cases e:b=D
 ·subst e;simp only [lim,h]
 ·unfold lim;rw [ay e]
theorem iH (h:H D=none) (s:af H H'):af H (wo D H'):=λb o e=>by
 rw [aT (ao e h)];exact s b o e
theorem EO (s:af H H') (h:H' D=some (.lst ys)):LL (upd H D o) H':=λb zs e=>by
 by_cases q:b=D
 ·subst q;exact ⟨ys,h⟩
 ·rw [ay q] at e;exact ⟨zs,s b _ e⟩
theorem aF {α:Type}{xs:List α}{i:Nat}{x:α} (h:xs[i]? = some x):i<xs.length:=by
 rcases Nat.lt_or_ge i xs.length with q | q
 ·exact q
 ·rw [List.getElem?_eq_none q] at h;cases h
theorem bY {α β:Type}{xs:List α}{i:Nat}{x:α} (h:xs[i]? = some x) (f:α->β):(xs.take (i+1)).map f=(xs.take i).map f++[f x]:=by
 rw [List.take_add_one,h];simp
theorem aq (h:H D=none) (s:af H H'):af H (upd H' D o):=λb u e=>by
 rw [ay (ao e h)];exact s b u e
end
theorem bM {i:Nat}{x:V}{σ:St}{H:Hp}{F G:St->Hp->Prop} (h:F (σ.set i (some x)) H):aY i x σ H λσ2 H2=>Fx σ2 H2 λb H3=>if b=true then F σ2 H3 else G σ2 H3:=by
 show (if true=true then F (σ.set i (some x)) H else G (σ.set i (some x)) H);rw [if_pos rfl];exact h
theorem small {n:Nat} (h:n<10000000):n<sizeLine:=by rw [sizeLine_eq];exact Nat.lt_of_lt_of_le h (by decide)
end L2
namespace L2
open PySem PySem.Spec PyProof.Rows PySem.Builtin PySem.Builtin.Str
theorem SqT.lim {K:PySem.W.Frag}{H H0 H':Hp}{a:Addr}{xs:List V} (s1:af H H0) (s2:af H H') (h:SqT K H a xs):SqT K (L2.lim H0 H') a xs:=by
 rcases h with (h | ⟨o,h⟩) | h
 ·exact .inl (.inl (by rw [nH λzs e=>by rw [s1 _ _ h] at e;cases e];exact s2 _ _ h))
 ·exact .inl (.inr ⟨o,by rw [nH λzs e=>by rw [s1 _ _ h] at e;cases e];exact s2 _ _ h⟩)
 ·exact .inr h
def rJ (K:PySem.W.Frag):List V->Hp->VK->Prop:=λxs H Q=>∃ p ys,xs=[.ref p]/\(SqL K H p ys\/SqT K H p ys)/\∀ l,H l=none->Q (.ref l) (upd H l (.lst ys))
theorem nr {X:Cx}:mO X (.type "list") (rJ X.K):=wX
theorem o8:bootBuiltins "list" = some (.type "list"):=by decide +kernel
theorem vK:bootBuiltins "sorted" = some (.builtin "sorted"):=by decide +kernel
theorem eJ {n:Nat}:∀ (l:List PyData),(∀ d∈l,d.depth<=n)->PyData.depthAll l<=n
 | [],_=>Nat.zero_le _
 | d::r,h=>by
  have h1:=h d (N4 ..);have h2:=eJ r λe he=>h e (NY _ he);unfold PyData.depthAll;exact Nat.max_le.mpr ⟨h1,h2⟩
theorem G4 {z:Str}{i c:Nat} (hz:PyData.strOk z=true) (h:z.cps[i]? = some c):PyData.strOk ⟨#[c]⟩=true:=by
 unfold PyData.strOk at hz ⊢;rw [Array.all_eq_true] at hz;have hi:i<z.cps.size:=by
  rcases Nat.lt_or_ge i z.cps.size with q | q
  ·exact q
  ·rw [Array.getElem?_eq_none q] at h;cases h
 have h1:=hz i hi;rw [Array.getElem?_eq_getElem hi] at h;cases h;simpa using h1
theorem pP {z:Str} (h:∀ c∈z.cps,c<1114112):PyData.strOk z=true:=by
 unfold PyData.strOk;rw [Array.all_eq_true];intro i hi;simpa using h _ (Array.getElem_mem hi)
theorem gU {z:Str} (h:PyData.strOk z=true):∀ c∈z.cps,c<1114112:=by
 unfold PyData.strOk at h;intro c hc;obtain ⟨i,hi,rfl⟩:=Array.mem_iff_getElem.mp hc;rw [Array.all_eq_true] at h;simpa using h i hi
theorem BG {z:Str}{a b:Nat} (hz:PyData.strOk z=true):PyData.strOk (strSub z a b)=true/\(strSub z a b).length<=z.length:=by
 unfold strSub;constructor
 ·refine pP λc hc=>?_;refine gU hz c ?_;obtain ⟨i,hi,rfl⟩:=Array.mem_iff_getElem.mp hc;simp only [Array.getElem_extract];exact Array.getElem_mem _
 ·show (Array.extract _ _ _).size<=z.cps.size;rw [Array.size_extract];lia
theorem yK {z y:Str} (hz:PyData.strOk z=true):∀ x∈Txt.split z y,PyData.strOk x=true/\x.length<=z.length:=by
 intro x hx;have one:x∈[z]->PyData.strOk x=true/\x.length<=z.length:=λh=>by
  simp only [N3] at h;subst h;exact ⟨hz,NX _⟩
 unfold Txt.split at hx
 split at hx
 ·exact one hx
 ·split at hx
  ·exact one hx
  ·unfold partsBetween at hx;simp only [N5] at hx;obtain ⟨p,_,rfl⟩:=hx;exact BG hz
theorem rZ {z y:Str}:1<=(Txt.split z y).length/\(Txt.split z y).length<=z.length+2:=by
 have h1:=StrLaws.occ_length_le z y 0 z.length (z.length+1);unfold Txt.split
 split
 ·simp
 ·split
  ·simp
  ·rw [length_partsBetween];lia
theorem A7 {y:Str} (hy:PyData.strOk y=true):∀ (xs:List Str) (acc:Array Nat),(∀ x∈xs,PyData.strOk x=true)->(∀ c∈acc,c<1114112)->∀ c∈xs.foldl (λacc p=>acc++y.cps++p.cps) acc,c<1114112
 | [],acc,_,h=>h
 | x::r,acc,hx,h=>by
  refine A7 hy r _ (λz hz=>hx z (NY _ hz)) λc hc=>?_;rcases Array.mem_append.mp hc with hc | hc
  ·rcases Array.mem_append.mp hc with hc | hc
   ·exact h c hc
   ·exact gU hy c hc
  ·exact gU (hx x (N4 ..)) c hc
theorem xY {y:Str}{m:Nat}:∀ (xs:List Str) (acc:Array Nat),(∀ x∈xs,x.length<=m)->(xs.foldl (λacc p=>acc++y.cps++p.cps) acc).size<=acc.size+xs.length * (m+y.length)
 | [],acc,_=>by simp
 | x::r,acc,hx=>by
  have h1:=xY (y:=y) r (acc++y.cps++x.cps) λz hz=>hx z (NY _ hz);have h2:x.cps.size<=m:=hx x (N4 ..);have h3:(acc++y.cps++x.cps).size=acc.size+y.cps.size+x.cps.size:=by simp;lia
  have h4:y.length=y.cps.size:=rfl;simp only [List.foldl_cons,List.length_cons,Nat.add_mul,Nat.one_mul] at h1 ⊢;lia
theorem n5 {y:Str}{m:Nat} (hy:PyData.strOk y=true) {xs:List Str} (h:∀ x∈xs,PyData.strOk x=true/\x.length<=m):PyData.strOk (Txt.join y xs)=true/\(Txt.join y xs).length<=xs.length * (m+y.length):=by
 cases xs with
 | nil=>exact ⟨by show PyData.strOk Str.empty=true;decide +kernel,Nat.zero_le _⟩
 | cons x r=>
  have hx:=h x (N4 ..);have hr:∀ z∈r,PyData.strOk z=true/\z.length<=m:=λz hz=>h z (NY _ hz);refine ⟨pP (A7 hy r x.cps (λz hz=>(hr z hz).1) (gU hx.1)),?_⟩;have h1:=xY (y:=y) (m:=m) r x.cps λz hz=>(hr z hz).2;have h2:x.cps.size<=m:=hx.2;show (List.foldl (λ(acc:Array Nat) (p:Str)=>acc++y.cps++p.cps) x.cps r).size<=(x::r).length * (m+y.length);simp only [List.length_cons,Nat.add_mul,Nat.one_mul] at h1 ⊢;lia
theorem Di {m:Nat}:∀ {xs:List Str},(∀ x∈xs,x.length<=m)->(xs.map (·.length)).sum<=xs.length * m
 | [],_=>by simp
 | x::r,h=>by
  have h1:=Di λz hz=>h z (NY x hz);have h2:=h x (N4 ..);simp only [Oc,List.sum_cons,List.length_cons,Nat.add_mul,Nat.one_mul] at h1 ⊢;lia
theorem gW {y:Str}{m:Nat}{xs:List Str} (h:∀ x∈xs,x.length<=m) (hb:xs.length * m+xs.length * y.length<=16777216):JoinOk y xs=true:=by
 have h1:=Di h;exact joinOk_of (by lia)
section
variable {K:PySem.W.Frag}{tt:TT}{D:Addr}{Q:VK}{H:Hp}
theorem uH {K:PySem.W.Frag}{H:Hp}:∀ {l:List Str},(∀ x∈l,PyData.strOk x=true)->aI K H (l.map V.str) (l.map PyData.str)
 | [],_=>.nil
 | x::r,h=>.cons (.str (h x (N4 ..))) (uH λy hy=>h y (NY _ hy))
end
end L2
namespace L2
open PySem PySem.Spec PyProof.Rows
def Itz (K:PySem.W.Frag) (a b:Addr):It:=
 ⟨λi H=>∃ xs ys x y,SqL K H a xs/\SqL K H b ys/\xs[i]? = some x/\ys[i]? = some y,
   λi H x H'=>∃ p u v,H p=none/\(∀ xs,SqL K H a xs->xs[i]? = some u)/\(∀ ys,SqL K H b ys->ys[i]? = some v)/\x = .ref p/\H' = upd H p (.tup [u,v]),
   λi H=>∃ xs ys,SqL K H a xs/\SqL K H b ys/\(xs.length<=i\/ys.length<=i)⟩
theorem Fq {P:Program}{w:World}{K:PySem.W.Frag}{Aa:List Expr}{k:Nat}{pos:Pos} (a b z TI TO i1 i2:Addr) (D:ZipApart z TI TO i1 i2 a b) :
  Turn P w K (.Tuple Aa k pos) (Itz K a b) [z,TI,TO,i1,i2] z (λi h=>IsZip h z TI TO .none/\IsPair h TI (.ref i1) (.ref i2)/\(∃ u v,IsPair h TO u v)/\h.IsListIter i1 a i/\h.IsListIter i2 b i) where
 mem:=by simp
 obj:=λi h st c hc=>by
  obtain ⟨hz,hTI,⟨u,v,hTO⟩,⟨o1,e1,_,g1⟩,⟨o2,e2,_,g2⟩⟩:=st;simp only [List.mem_cons,List.not_mem_nil,or_false] at hc;rcases hc with rfl | rfl | rfl | rfl | rfl
  ·exact ⟨_,hz,λv q=>by cases q⟩
  ·exact ⟨_,hTI,λv q=>by cases q⟩
  ·exact ⟨_,hTO,λv q=>by cases q⟩
  ·exact ⟨o1,e1,λv q=>by rw [g1] at q;cases q⟩
  ·exact ⟨o2,e2,λv q=>by rw [g2] at q;cases q⟩
 keep:=λi h h' st kk=>by
  obtain ⟨hz,hTI,⟨u,v,hTO⟩,h1,h2⟩:=st;exact ⟨kk z (by simp) _ hz,kk TI (by simp) _ hTI,⟨u,v,kk TO (by simp) _ hTO⟩,h1.at λo e=>kk i1 (by simp) o e,h2.at λo e=>kk i2 (by simp) o e⟩
 item:=by
  intro X hP hw hK hc i pins s σ H E I hf st hg;subst hP hw hK;obtain ⟨xs,ys,x,y,hq,hq',hx,hy⟩:=hg;obtain ⟨its,rv,p,_⟩:=I.list hq;obtain ⟨jts,rv',p',_⟩:=I.list hq';obtain ⟨u,hu,ru⟩:=rv.get hx;obtain ⟨v,hv,rv2⟩:=rv'.get hy;obtain ⟨hz,hTI,⟨u0,v0,hTO⟩,h1,h2⟩:=st;have ltn:∀ {b:Addr}{o:Obj},s.heap.get? b=some o->b<s.heap.objs.size:=λe=>Heap.lt_size e;have hlz:=ltn hz;have NG:=ltn hTI;have Nw:=ltn hTO;have hl1:i1<s.heap.objs.size:=by obtain ⟨_,e,_⟩:=h1;exact ltn e
  have hl2:i2<s.heap.objs.size:=by obtain ⟨_,e,_⟩:=h2;exact ltn e
  refine wpAny_pyNext_zip_item D hz hTI hTO h1 h2 p.isList p'.isList (x:=u) (y:=v) (by simpa using hu) (by simpa using hv) λh' a1 a2 a3 a4 a5 a6 kk=>?_;refine ⟨_,rfl,?_⟩;refine wpAny_letOwnedTupleGo_zip a1 λg hz' sb=>?_;have hfr:H s.heap.objs.size=none:=I.hok.fresh (NX _);have new:g.get? s.heap.objs.size=some { cls:=.type "tuple",data:=.seq #[u,v] }:=(sb.2 _ (Nat.ne_of_gt hlz)).trans a5;have I2:Inv X pins σ (upd H s.heap.objs.size (.tup [x,y])) { s with heap:=g }:=I.vc (t':=s.toks) (wr:=[z,TI,TO,i1,i2]) hf (λc o hcm ec=>by
    have n1:c≠z:=λq=>hcm (by simp [q]);have n2:c≠TO:=λq=>hcm (by simp [q]);have n3:c≠i1:=λq=>hcm (by simp [q]);have n4:c≠i2:=λq=>hcm (by simp [q]);exact (sb.2 c n1).trans (kk c o n1 n2 n3 n4 ec)) (NX _) ⟨by show 2<=sizeLine;decide,[u,v],.cons ru (.cons rv2 .nil),⟨_,new,rfl,_,rfl⟩⟩
  refine ⟨.ref s.heap.objs.size,_,I2,rfl,⟨_,x,y,hfr,λzs hzs=>by rw [I.ot hzs hq];exact hx,λzs hzs=>by rw [I.ot hzs hq'];exact hy,rfl,rfl⟩,⟨hz',?_,⟨u,v,?_⟩,?_,?_⟩,λc hcm=>?_⟩
  ·exact (sb.2 _ D.TIz).trans (kk _ _ D.TIz D.TITO D.TIi1 D.TIi2 hTI)
  ·exact (sb.2 _ D.TOz).trans a2
  ·exact a3.at λo e=>(sb.2 _ D.i1z).trans e
  ·exact a4.at λo e=>(sb.2 _ D.i2z).trans e
  ·have hb':c≠s.heap.objs.size:=by
    simp only [List.mem_cons,List.not_mem_nil,or_false] at hcm;rcases hcm with rfl | rfl | rfl | rfl | rfl <;> exact Nat.ne_of_lt (by assumption)
   rw [ay hb'];exact (hf c hcm).1
 done:=by
  intro X hP hw hK hc i pins s σ H E I hf st hg;subst hP hw hK;obtain ⟨xs,ys,hq,hq',hx⟩:=hg;obtain ⟨its,rv,p,_⟩:=I.list hq;obtain ⟨jts,rv',p',_⟩:=I.list hq';have hl:=rv.length;have hl':=rv'.length;obtain ⟨hz,hTI,⟨u0,v0,hTO⟩,h1,h2⟩:=st;refine wpAny_pyNext_zip_end (I.ok.hd hc) D hz hTI hTO h1 h2 p.isList p'.isList ?_ λh' kk=>⟨rfl,I.dz (t':=s.toks) (wr:=[z,TI,TO,i1,i2]) hf λc o hcm e=>kk c o (λq=>hcm (by simp [q])) (λq=>hcm (by simp [q])) (λq=>hcm (by simp [q])) (λq=>hcm (by simp [q])) e⟩;rcases hx with hx | hx
  ·exact .inl (by simp;lia)
  ·exact .inr (by simp;lia)
 self:=λ_ _ _ _ _ st h=>wpAny_pyIter_zip st.1 h
section
variable {X:Cx}
def MP (K:PySem.W.Frag) (ta:TA):TI:=λσ H R=>ta σ H λvs H1=>∃ a b,vs=[.ref a,.ref b]/\(∃ xs,SqL K H1 a xs)/\(∃ ys,SqL K H1 b ys)/\R (Itz K a b) H1
theorem wL {Aa:List Expr}{k:Nat}{Fd:Pos}{a b:Expr}{ta:TA}{p pos:Pos} (hg:Gl X "zip") (hm:X.mg "zip" = none) (ha:PA X [a,b] ta) (hs:starEach [a,b] X.env=(false,eval a X.env)::starEach [b] X.env:=by rfl) (hpl:(backTo pos (starEach [b] X.env)).any (·.1)=false:=by rfl):PI X (.Tuple Aa k Fd) (.Call (.Name "zip" p) [a,b] [] pos) (MP X.K ta):=by
 intro pins s σ H R I h;refine Call_ (eD I hg hm boot_zip (PyProof.Rows.callWith_type1 (thn (ha pos pins s σ H _ I h) λus s1 ⟨vs,H1,I1,r1,q1⟩=>?_) hs hpl));obtain ⟨a,b,e,⟨xs,hq⟩,⟨ys,hq'⟩,q⟩:=q1;subst e;obtain ⟨u1,u2,rfl,r1,r2⟩:=vals2 r1;cases r1;cases r2;obtain ⟨its,rv,pl,_⟩:=I1.list hq;obtain ⟨jts,rv',pl',_⟩:=I1.list hq';have la : @LT.lt Nat _ a s1.heap.objs.size:=by obtain ⟨_,e,_⟩:=pl.isList;exact Heap.lt_size e
 have lb : @LT.lt Nat _ b s1.heap.objs.size:=by obtain ⟨_,e,_⟩:=pl'.isList;exact Heap.lt_size e
 refine call_zip_2 pl.isList pl'.isList λh' hz hTI hTO h1 h2 hsz hk=>wpAny_pyIter_zip hz ?_;have D:ZipApart (s1.heap.objs.size+4) (s1.heap.objs.size+2) (s1.heap.objs.size+3) s1.heap.objs.size (s1.heap.objs.size+1) a b:=by constructor <;> (show ((_:Nat)≠_)) <;> lia
 refine ⟨s1.heap.objs.size+4,[s1.heap.objs.size+4,s1.heap.objs.size+2,s1.heap.objs.size+3,s1.heap.objs.size,s1.heap.objs.size+1],_,_,H1,rfl,I1.kept (t':=s1.toks) hk,Fq a b _ _ _ _ _ D,⟨hz,hTI,⟨_,_,hTO⟩,h1,h2⟩,λc hc=>?_,q⟩;have hb':s1.heap.objs.size<=c:=by
  simp only [List.mem_cons,List.not_mem_nil,or_false] at hc;rcases hc with rfl | rfl | rfl | rfl | rfl <;> first | exact NX _ | exact Nat.le_add_right _ _
 exact I1.qZ hb' (I1.hok.fresh hb')
end
section
variable {K:PySem.W.Frag}{g:TG}{tt:TT}{te:TE}{D:Addr}{Q:VK}{σ:St}{H:Hp}
theorem yS {a b:Addr}{xs ys:List V} (Pv:Nat->List V->St->Hp->Prop) (hD:H D=some (.lst [])) (h0:Pv 0 [] σ H) (hl:∀ i acc σ H,H D=some (.lst acc)->Pv i acc σ H->SqL K H a xs/\SqL K H b ys)
  (hs:∀ i x y acc σ H p,xs[i]? = some x->ys[i]? = some y->H D=some (.lst acc)->Pv i acc σ H->H p=none->g (.ref p) σ (upd H p (.tup [x,y])) λσ2 H2=>tt σ2 H2 λb H3=>if b=true then te σ2 H3 λv H4=>∃ ys,H4 D=some (.lst ys)/\ys.length<sizeLine/\CN D (Pv (i+1)) σ2 (upd H4 D (.lst (ys++[v]))) else CN D (Pv (i+1)) σ2 H3)
  (hd:∀ acc σ H,H D=some (.lst acc)->Pv (min xs.length ys.length) acc σ H->Q (.ref D) H):rV g tt te (Itz K a b) D Q σ H:=by
 refine oO (min xs.length ys.length) Pv hD h0 (λi acc σ H hi cZ p=>?_) (λacc σ H cZ p=>?_) (λi acc σ H x H' hi cZ p y=>?_) hd
 ·obtain ⟨h1,h2⟩:=hl i acc σ H cZ p;have h3:i<xs.length:=by lia
  have h4:i<ys.length:=by lia
  exact ⟨xs,ys,xs[i],ys[i],h1,h2,by simp [h3],by simp [h4]⟩
 ·obtain ⟨h1,h2⟩:=hl _ acc σ H cZ p;exact ⟨xs,ys,h1,h2,by lia⟩
 ·obtain ⟨q,u,v,hq,hu,hv,e,e'⟩:=y;subst e e';obtain ⟨h1,h2⟩:=hl i acc σ H cZ p;exact hs i u v acc σ _ q (hu xs h1) (hv ys h2) cZ p hq
theorem A6 {a b:Addr}{xs ys:List V}{tb:TS}{D:Ends} (Pv:Nat->St->Hp->Prop) (h0:Pv 0 σ H) (hl:∀ i σ H,Pv i σ H->SqL K H a xs/\SqL K H b ys)
  (hs:∀ i x y σ H p,xs[i]? = some x->ys[i]? = some y->Pv i σ H->H p=none->g (.ref p) σ (upd H p (.tup [x,y])) λσ2 H2=>tb { D with nx:=Pv (i+1),ct:=Pv (i+1),bk:=D.nx } σ2 H2) (hd:∀ σ H,Pv (min xs.length ys.length) σ H->D.nx σ H) :
  ∃ W:Nat->Nat->St->Hp->Prop,(∃ m,W 0 m σ H)/\∀ i m σ H,W i m σ H ->
   ((Itz K a b).stop i H/\D.nx σ H)\/((Itz K a b).go i H/\∃ N:St->Hp->Prop,(∀ σ' H',N σ' H'->∃ m',m' < m/\W (i+1) m' σ' H')/\∀ x H',(Itz K a b).yld i H x H'->g x σ H' λσ2 H2=>tb { D with nx:=N,ct:=N,bk:=D.nx } σ2 H2):=by
 refine ⟨λi m σ H=>m=min xs.length ys.length - i/\i<=min xs.length ys.length/\Pv i σ H,⟨_,rfl,Nat.zero_le _,h0⟩,?_⟩;rintro i m σ H ⟨rfl,hi,p⟩;obtain ⟨h1,h2⟩:=hl i σ H p;by_cases hlt:i<min xs.length ys.length
 ·have h3:i<xs.length:=by lia
  have h4:i<ys.length:=by lia
  refine .inr ⟨⟨xs,ys,xs[i],ys[i],h1,h2,by simp [h3],by simp [h4]⟩,Pv (i+1),λσ' H' p'=>⟨min xs.length ys.length - (i+1),by lia,rfl,hlt,p'⟩,λx H' y=>?_⟩;obtain ⟨q,u,v,hq,hu,hv,e,e'⟩:=y;subst e e';exact hs i u v σ _ q (hu xs h1) (hv ys h2) p hq
 ·have e:i=min xs.length ys.length:=by lia
  subst e;exact .inl ⟨⟨xs,ys,h1,h2,by lia⟩,hd σ H p⟩
end
section
variable {X:Cx}
def GD:V->List V->Hp->VK->Prop:=λx vs H Q=>∃ z y,x = .str z/\vs=[.str y]/\z.length<=sizeLine/\Q (.str (Txt.stripChars z y)) H
theorem Ce:MtR X "str.strip" GD:=by
 intro pins s σ H x vs v us Q I rx rv h;obtain ⟨z,y,rfl,rfl,hz,q⟩:=h;obtain ⟨t,rfl⟩:=rx;obtain ⟨u,rfl,t',rfl⟩:=rv.one;exact SC.stripChars (λt' k=>⟨.str _,H,I.tok _,⟨_,rfl⟩,q⟩) hz
def C6:V->List V->Hp->VK->Prop:=λx vs H Q=>∃ z y,x = .str z/\vs=[.str y]/\z.length<=sizeLine/\Q (.str (Txt.removeprefix z y)) H
theorem yC:MtR X "str.removeprefix" C6:=by
 intro pins s σ H x vs v us Q I rx rv h;obtain ⟨z,y,rfl,rfl,hz,q⟩:=h;obtain ⟨t,rfl⟩:=rx;obtain ⟨u,rfl,t',rfl⟩:=rv.one;exact SC.removeprefix (λt' k=>⟨.str _,H,I.tok _,⟨_,rfl⟩,q⟩) hz
theorem mT:∀ {bs:List Bool}{us:List Value},aV (bs.map V.bl) us->us=bs.map Value.bool
 | [],_,h=>by cases h;rfl
 | b::r,_,h=>by
  cases h with
  | cons h1 t=>
   obtain rfl:=h1;rw [mT t];rfl
theorem range_all (bs:List Bool):(List.range bs.length).all (λi=>bs.getD i true)=bs.all id:=by
 (rw [Bool.eq_iff_iff,List.all_eq_true,List.all_eq_true])
 constructor
 ·intro h x hx;obtain ⟨i,hi,rfl⟩:=List.mem_iff_getElem.mp hx
  (have:=h i (List.mem_range.mpr hi))
  simpa [List.getD,NW hi] using this
 ·intro h i hi
  (have hi':=List.mem_range.mp hi)
  have:=h bs[i] (List.getElem_mem hi');simpa [List.getD,NW hi'] using this
theorem range_any (bs:List Bool):(List.range bs.length).any (λi=>bs.getD i true)=bs.any id:=by
 (rw [Bool.eq_iff_iff,List.any_eq_true,List.any_eq_true])
 constructor
 ·rintro ⟨i,hi,h⟩
  (have hi':=List.mem_range.mp hi)
  refine ⟨bs[i],List.getElem_mem hi',?_⟩;simpa [List.getD,NW hi'] using h
 ·rintro ⟨x,hx,h⟩;obtain ⟨i,hi,rfl⟩:=List.mem_iff_getElem.mp hx;exact ⟨i,List.mem_range.mpr hi,by simpa [List.getD,NW hi] using h⟩
def Cc (K:PySem.W.Frag):List V->Hp->VK->Prop:=λxs H Q=>∃ (p:Addr) (bs:List Bool),xs=[.ref p]/\SqL K H p (bs.map V.bl)/\Q (.bl (bs.all id)) H
def Gh (K:PySem.W.Frag):List V->Hp->VK->Prop:=λxs H Q=>∃ (p:Addr) (bs:List Bool),xs=[.ref p]/\SqL K H p (bs.map V.bl)/\Q (.bl (bs.any id)) H
theorem qN {P:Program}{w:World}{A:Around} (bs:List Bool):TruthOf P w A (λi v=>(bs.map Value.bool).toArray[i]? = some v) (λi=>bs.getD i true):=by
 intro i v s Q E hv hq;have hv':(bs.map Value.bool)[i]? = some v:=by simpa using hv
 rw [N1] at hv';cases e:bs[i]? with
 | none=>rw [e] at hv';cases hv'
 | some b=>
  rw [e] at hv';cases hv';refine wpAny_truthy_bool ?_;have:bs.getD i true=b:=by simp [List.getD,e]
  have hq':Q (bs.getD i true) s:=hq
  rwa [this] at hq'
theorem lU (hc:X.calm=true):mO X (.builtin "all") (Cc X.K):=by
 intro pins s σ H xs us Q I r h;obtain ⟨p,bs,rfl,hq,q⟩:=h;obtain ⟨u,rfl,rx⟩:=vals1 r;cases rx;obtain ⟨its,r',pl,hz⟩:=I.list hq;have e:=mT r';subst e;have hp:p≠s.heap.objs.size:=by obtain ⟨_,e,_⟩:=pl.isList;exact Nat.ne_of_lt (Heap.lt_size e)
 refine call_all_walk (wpAny_pyIter_list pl.isList ?_);refine ⟨s.heap.objs.size,_,_,_,_,_,_,rfl,Walks.list (A:=X.A.in1) (show X.A.in1.handled=none from I.ok.hd hc) s.heap.objs.size p hp (bs.map Value.bool).toArray,⟨⟨_,Heap.get?_push_size _ rfl,rfl,rfl⟩,pl.isList.push _⟩,qN bs,λh' tk hk=>?_⟩;have hs:(bs.map Value.bool).toArray.size=bs.length:=by simp
 rw [hs,range_all];refine ⟨.bl _,H,I.kept (t':=tk) λb o e=>hk b o (λhb=>?_) (Heap.get?_push_of_some _ e),rfl,q⟩;simp only [N3] at hb;exact absurd (Heap.lt_size e) (by rw [hb];exact Nat.lt_irrefl _)
theorem tI (hc:X.calm=true):mO X (.builtin "any") (Gh X.K):=by
 intro pins s σ H xs us Q I r h;obtain ⟨p,bs,rfl,hq,q⟩:=h;obtain ⟨u,rfl,rx⟩:=vals1 r;cases rx;obtain ⟨its,r',pl,hz⟩:=I.list hq;have e:=mT r';subst e;have hp:p≠s.heap.objs.size:=by obtain ⟨_,e,_⟩:=pl.isList;exact Nat.ne_of_lt (Heap.lt_size e)
 refine call_any_walk (wpAny_pyIter_list pl.isList ?_);refine ⟨s.heap.objs.size,_,_,_,_,_,_,rfl,Walks.list (A:=X.A.in1) (show X.A.in1.handled=none from I.ok.hd hc) s.heap.objs.size p hp (bs.map Value.bool).toArray,⟨⟨_,Heap.get?_push_size _ rfl,rfl,rfl⟩,pl.isList.push _⟩,qN bs,λh' tk hk=>?_⟩;have hs:(bs.map Value.bool).toArray.size=bs.length:=by simp
 rw [hs,range_any];refine ⟨.bl _,H,I.kept (t':=tk) λb o e=>hk b o (λhb=>?_) (Heap.get?_push_of_some _ e),rfl,q⟩;simp only [N3] at hb;exact absurd (Heap.lt_size e) (by rw [hb];exact Nat.lt_irrefl _)
theorem sO:bootBuiltins "all" = some (.builtin "all"):=by decide +kernel
theorem Aw:bootBuiltins "any" = some (.builtin "any"):=by decide +kernel
end
end L2
namespace L2
open PySem PySem.Spec PyProof.Rows PySem.W
def rM (K:PySem.W.Frag) (sp:Sp) (l:Addr) (xs:List V):List V->V->V->Hp->VK->Prop
 | [],b,_,H,Q=>SqL K H l xs/\Q b H
 | x::r,b,kb,H,Q=>SqL K H l xs/\sp [x] H (λk H'=>∃ d e,Den K H' k d/\Den K H' kb e/\nU d e=true/\d.depth<=100/\if ltv d e=true then rM K sp l xs r x k H' Q else rM K sp l xs r b kb H' Q) E0
section
variable {X:Cx}{pins:List (Addr×Obj)}{σ:St}{H:Hp}{s:Shared}
theorem CH (a v d:Value):argsOk "min" ⟨[a],[(Str.ofString "key",v),(Str.ofString "default",d)]⟩:=by unfold argsOk;kernel_rfl
def uD (X:Cx) (pins:List (Addr×Obj)) (σ:St) (f:Addr) (sp:Sp):Prop:=∀ (more:List (Addr×Obj)) (H:Hp) (s:Shared) (x:V) (u:Value) (Q:VK),Inv X (pins++more) σ H s->RelV x u->sp [x] H Q E0 ->
 codeAny (model X.prog X.w) X.A.in1 (.call (.ref f) ⟨[u],[]⟩) (CR CX0 X.stack X.prog X.w H s Q E0) s
theorem yu {k:Nat}{f:Addr}{fd:FuncData}{ps:List Str}{sp:Sp} (F:au X.prog X.w X.K X.mg X.base CX0 k f fd ps sp) (hr:cC (k+1) X.A) (hb:Binds X.K fd ps []):uD X pins σ f sp:=λmore H s x u Q I rx h=>by
 have hlp:[u].length=ps.length:=F.len _ _ _ _ h;exact F.run X.A.in1 X.stack s H ⟨[u],[]⟩ [u] [x] _ E0 hr.in1 I.Gu.in1 (by have:=hb s [u] I.kIn (by simpa using hlp);simpa using this) (.cons rx .nil) h
theorem uR {f I S:Addr}{sp:Sp}{oI oS:Obj}{x:V}{u:Value}{Q:VK} (C:uD X pins σ f sp)
  (hI:∀ v,oI.data ≠ .cell v) (hS:∀ v,oS.data ≠ .cell v) (Iv:Inv X pins σ H s) (fI:b9 X pins H I) (fS:b9 X pins H S) (gI:s.heap.get? I=some oI) (gS:s.heap.get? S=some oS) (rx:RelV x u) (h:sp [x] H Q E0)
  {R:Value->Shared->Prop}{E:Value->Shared->Prop} (done:∀ v kv H1 s1,Inv X pins σ H1 s1->b9 X pins H1 I->b9 X pins H1 S->s1.heap.get? I=some oI->s1.heap.get? S=some oS->RelV v kv->Q v H1->R kv s1) :
  wpAny (model X.prog X.w) X.A.in1 (call (.ref f) [u]) R E s:=by
 have Ip:Inv X (pins++[(I,oI),(S,oS)]) σ H s:=Iv.px λp hp=>by
  rcases List.mem_append.mp hp with q | q
  ·exact Iv.pin p (Od _ q)
  ·rcases List.mem_cons.mp q with q | q
   ·subst q;exact ⟨gI,fI.1,fI.2.1,fI.2.2.1,hI⟩
   ·have q':p=(S,oS):=by simpa using q
    subst q';exact ⟨gS,fS.1,fS.2.1,fS.2.2.1,hS⟩
 have run:=C [(I,oI),(S,oS)] H s x u _ Ip rx h;refine wpAny_call (codeAny_mono run λr s1 hq=>?_);cases r with
 | error er=>exact hq.elim
 | ok fl=>
  cases fl with
  | ret kv=>
   obtain ⟨v,H1,I1,r1,q1⟩:=Ip.after hq;have pI:=I1.pin (I,oI) (by simp);have pS:=I1.pin (S,oS) (by simp);exact done v kv H1 s1 I1.eX ⟨pI.2.1,fI.2⟩ ⟨pS.2.1,fS.2⟩ pI.1 pS.1 r1 q1
  | next=>exact False.elim hq
  | brk=>exact False.elim hq
  | cont=>exact False.elim hq
theorem Co {k:Nat}{f I S l:Addr}{sp:Sp}{xs:List V}{kw:List (Str×Value)}{Q:VK}{R:Result->Shared->Prop} (C:uD X pins σ f sp) (hr:cC (k+1) X.A) (hc:X.calm=true)
  (hlI:l≠I) (hSI:S≠I) (hR:∀ v u H' s',Inv X pins σ H' s'->RelV v u->Q v H'->R (.ok (.ret u)) s') :
  ∀ (r:List V) (j:Nat) (b kb:V) (H:Hp) (s:Shared) (ub uk:Value) (c:Nat),r=xs.drop j->j<=xs.length->Inv X pins σ H s->b9 X pins H I->b9 X pins H S->s.heap.get? S=some (seqObj "list" #[ub,uk] c)->s.heap.IsListIter I l j->RelV b ub->RelV kb uk->rM X.K sp l xs r b kb H Q ->
   codeAny (model X.prog X.w) X.A (.builtin "min.loop" ⟨[.ref I,.ref f,.ref S],kw⟩) R s:=by
 (have qL:(toString "min" ++ toString ".loop" : String) = "min.loop" :=by decide)
 intro r
 induction r with
 | nil=>
  intro j b kb H s ub uk c hr' hj Iv fI fS gS hit rb rk h;obtain ⟨hq,q⟩:=h;obtain ⟨its,rv,pl,_⟩:=Iv.list hq;have hlen:=rv.length;have hjl:xs.length<=j:=List.drop_eq_nil_iff.mp hr'.symm;have W:=Walks.list (prog:=X.prog) (w:=X.w) (A:=X.A.in1) (show X.A.in1.handled=none from Iv.ok.hd hc) I l hlI its.toArray
  (refine codeAny_builtin PySem.F.entry_min_loop ?_)
  (rw [Around.under_plainId PySem.F.plain_min_loop _])
  show wpAny _ X.A.in1 (seqItems? (.ref S) >>= _) _ _ _
  (refine wpAny_bind (wpAny_seqItems gS rfl ?_))
  show wpAny _ X.A.in1 (tryCatch (pyNext (.ref I)) _ >>= _) _ _ _;refine wpAny_bind (wpAny_tryCatch (W.done _ _ _ ⟨by rw [Ob,show its.length=j by lia];exact hit,pl.isList⟩ λh' tk' hk'=>?_));have gS':=hk' S _ (by simpa using hSI) gS;have sb:=Heap.SameBut.update h' S (Obj.mapSeq λ_=>(#[]:Array Value));show wpAny _ X.A.in1 (updateSeq S (λ_=>#[]) >>= _) _ _ _;refine wpAny_bind ?_;refine wpAny_updateSeq gS' rfl (wpAny_bind (wpAny_letGo (wpAny_pure ?_)));have I1:Inv X pins σ H { s with heap:=h',toks:=tk' }:=Iv.dz (wr:=[I]) (λc hc=>by rw [show c=I by simpa using hc];exact fI) λc o hc e=>hk' c o hc e;exact hR b ub H _ (I1.dz (t':=tk') (wr:=[S]) (λc hc=>by rw [show c=S by simpa using hc];exact fS) λc o hc e=>(sb.2 c (by simpa using hc)).trans e) rb q
 | cons x r ih=>
  intro j b kb H s ub uk c hr' hj Iv fI fS gS hit rb rk h;obtain ⟨hq,q⟩:=h;obtain ⟨its,rv,pl,_⟩:=Iv.list hq;have hlen:=rv.length;have hjl:j<xs.length:=by
   rcases Nat.lt_or_ge j xs.length with z | z
   ·exact z
   ·rw [List.drop_of_length_le z] at hr';cases hr'
  have hxj:xs[j]? = some x:=by
   rw [List.drop_eq_getElem_cons hjl] at hr';injection hr' with e1 e2;rw [NW hjl,<-e1]
  have hrj:r=xs.drop (j+1):=by
   rw [List.drop_eq_getElem_cons hjl] at hr';injection hr' with e1 e2
  have W:=Walks.list (prog:=X.prog) (w:=X.w) (A:=X.A.in1) (show X.A.in1.handled=none from Iv.ok.hd hc) I l hlI its.toArray
  (refine codeAny_builtin PySem.F.entry_min_loop ?_)
  (rw [Around.under_plainId PySem.F.plain_min_loop _])
  show wpAny _ X.A.in1 (seqItems? (.ref S) >>= _) _ _ _
  (refine wpAny_bind (wpAny_seqItems gS rfl ?_))
  show wpAny _ X.A.in1 (tryCatch (pyNext (.ref I)) _ >>= _) _ _ _;refine wpAny_bind (wpAny_tryCatch (W.item j _ _ _ (by rw [Ob];lia) ⟨hit,pl.isList⟩ λv h' tk' hP Er hk'=>?_));obtain ⟨u,hu,ru⟩:=rv.get hxj;have hv:v=u:=by
   have:its[j]? = some v:=by simpa using hP
   rw [hu] at this;cases this;rfl
  subst hv;have gS':=hk' S _ (by simpa using hSI) gS;have I1:Inv X pins σ H { s with heap:=h',toks:=tk' }:=Iv.dz (wr:=[I]) (λc hc=>by rw [show c=I by simpa using hc];exact fI) λc o hc e=>hk' c o hc e;obtain ⟨oI,eI,cI,dI⟩:=Er.1;show wpAny _ X.A.in1 (tryCatch (holding [v] (call (.ref f) [v])) _ >>= _) _ _ _;refine wpAny_bind (wpAny_tryCatch (wpAny_holding (uR C (oI:=oI) (oS:=seqObj "list" #[ub,uk] c) (λz q=>by rw [dI] at q;cases q) (λz q=>by cases q) I1 fI fS eI gS' ru q λkv uv H2 s2 I2 fI2 fS2 gI2 gS2 rkv q2=>?_)));obtain ⟨d,e,dk,de,b8,zT,q3⟩:=q2;obtain ⟨as1,rd1⟩:=I2.reads dk rkv;obtain ⟨as2,rd2⟩:=I2.reads de rk;have um:s2.heap.IsListIter I l (j+1):=⟨oI,gI2,cI,dI⟩;have hu2:X.A.in1.units+d.depth<cLine:=by show X.A.units+1+d.depth<cLine;have:=hr.un;lia
  show wpAny _ X.A.in1 (tryCatch (holding [v,uv] (richCompare .Lt uv uk >>= _)) _ >>= _) _ _ _;refine wpAny_bind (wpAny_tryCatch (wpAny_holding (wpAny_bind (tW 100 d e zT b8 X.A.in1 s2 uv uk as1 as2 rd1 rd2 dk.lay de.lay hu2 _ _ _ _ ?_))))
  (refine wpAny_bind (wpAny_holding (wpAny_truthy_bool ?_)))
  (refine wpAny_bind (wpAny_letGo (wpAny_pure ?_)))
  cases hb':ltv d e with
  | true=>
   rw [hb',if_pos rfl] at q3;have sb:=Heap.SameBut.update s2.heap S (Obj.mapSeq λ_=>#[v,uv]);obtain ⟨c2,hc2⟩:∃ c2,(s2.heap.update S (Obj.mapSeq λ_=>#[v,uv])).get? S=some (seqObj "list" #[v,uv] c2):=⟨_,get?_update_seq gS2 λ_=>#[v,uv]⟩;simp only [if_true];refine wpAny_bind ?_;refine wpAny_updateSeq gS2 rfl (wpAny_bind (wpAny_letGo ?_));rw [qL];have I3:Inv X pins σ H2 { s2 with heap:=s2.heap.update S (Obj.mapSeq λ_=>#[v,uv]) }:=I2.dz (t':=s2.toks) (wr:=[S]) (λc hc=>by rw [show c=S by simpa using hc];exact fS2) λc o hc e=>(sb.2 c (by simpa using hc)).trans e;exact wpAny_pure ⟨plainId_quiet PySem.F.plain_min_loop _,ih (j+1) x kv H2 _ v uv c2 hrj hjl I3 fI2 fS2 hc2 ⟨oI,(sb.2 I hSI.symm).trans gI2,cI,dI⟩ ru rkv q3⟩
  | false=>
   rw [hb',if_neg (by decide)] at q3
   (simp only [Bool.false_eq_true,if_false])
   refine wpAny_bind (wpAny_letGo ?_);rw [qL];exact wpAny_pure ⟨plainId_quiet PySem.F.plain_min_loop _,ih (j+1) b kb H2 _ ub uk c hrj hjl I2 fI2 fS2 gS2 um rb rk q3⟩
def vt (K:PySem.W.Frag) (sp:Sp):V->Hp->VK->Prop:=λx H Q=>∃ l xs,x = .ref l/\SqL K H l xs/\match xs with
 | []=>Q .non H
 | y::r=>sp [y] H (λk H'=>rM K sp l xs r y k H' Q) E0
theorem vd {k:Nat}{f Ia Sa l:Addr}{sp:Sp}{y:V}{r:List V}{kw:List (Str×Value)}{Q:VK}{R:Result->Shared->Prop} (C:uD X pins σ f sp) (hr:cC (k+1) X.A) (hc:X.calm=true)
  (hlI:l≠Ia) (hSI:Sa≠Ia) (hR:∀ v u H' s',Inv X pins σ H' s'->RelV v u->Q v H'->R (.ok (.ret u)) s') (I0:Inv X pins σ H s) (fI:b9 X pins H Ia) (fS:b9 X pins H Sa) (gS:s.heap.get? Sa=some (seqObj "list" #[] 0)) (gI:s.heap.IsListIter Ia l 0) (hq:SqL X.K H l (y::r)) (q:sp [y] H (λk H'=>rM X.K sp l (y::r) r y k H' Q) E0) :
  codeAny (model X.prog X.w) X.A (.builtin "min.loop" ⟨[.ref Ia,.ref f,.ref Sa],kw⟩) R s:=by
 (have qL:(toString "min" ++ toString ".loop" : String) = "min.loop" :=by decide)
 obtain ⟨its,rv,pl,_⟩:=I0.list hq;have hlen:=rv.length;have W:=Walks.list (prog:=X.prog) (w:=X.w) (A:=X.A.in1) (show X.A.in1.handled=none from I0.ok.hd hc) Ia l hlI its.toArray
 (refine codeAny_builtin PySem.F.entry_min_loop ?_)
 (rw [Around.under_plainId PySem.F.plain_min_loop _])
 show wpAny _ X.A.in1 (seqItems? (.ref Sa) >>= _) _ _ _
 (refine wpAny_bind (wpAny_seqItems gS rfl ?_))
 show wpAny _ X.A.in1 (tryCatch (pyNext (.ref Ia)) _ >>= _) _ _ _;refine wpAny_bind (wpAny_tryCatch (W.item 0 _ _ _ (by rw [Ob,<-hlen];exact Nat.succ_pos _) ⟨gI,pl.isList⟩ λv h' tk' hP Er hk'=>?_));obtain ⟨u,hu,ru⟩:=rv.get (i:=0) rfl;have hv:v=u:=by
  have:its[0]? = some v:=by simpa using hP
  rw [hu] at this;cases this;rfl
 subst hv;have gS':=hk' Sa _ (by simpa using hSI) gS;have I1:Inv X pins σ H { s with heap:=h',toks:=tk' }:=I0.dz (wr:=[Ia]) (λc hc=>by rw [show c=Ia by simpa using hc];exact fI) λc o hc e=>hk' c o hc e;obtain ⟨oI,eI,cI,dI⟩:=Er.1;show wpAny _ X.A.in1 (tryCatch (holding [v] (call (.ref f) [v])) _ >>= _) _ _ _;refine wpAny_bind (wpAny_tryCatch (wpAny_holding (uR C (oI:=oI) (oS:=seqObj "list" #[] 0) (λz q=>by rw [dI] at q;cases q) (λz q=>by cases q) I1 fI fS eI gS' ru q λkv uv H2 s2 I2 fI2 fS2 gI2 gS2 rkv q2=>?_)));have sb:=Heap.SameBut.update s2.heap Sa (Obj.mapSeq λ_=>#[v,uv]);obtain ⟨c2,hc2⟩:∃ c2,(s2.heap.update Sa (Obj.mapSeq λ_=>#[v,uv])).get? Sa=some (seqObj "list" #[v,uv] c2):=⟨_,get?_update_seq gS2 λ_=>#[v,uv]⟩;show wpAny _ X.A.in1 (updateSeq Sa (λ_=>#[v,uv]) >>= _) _ _ _;refine wpAny_bind ?_;refine wpAny_updateSeq gS2 rfl ?_;rw [qL];have I3:Inv X pins σ H2 { s2 with heap:=s2.heap.update Sa (Obj.mapSeq λ_=>#[v,uv]) }:=I2.dz (t':=s2.toks) (wr:=[Sa]) (λc hc=>by rw [show c=Sa by simpa using hc];exact fS2) λc o hc e=>(sb.2 c (by simpa using hc)).trans e;exact wpAny_pure ⟨plainId_quiet PySem.F.plain_min_loop _,Co (Q:=Q) C hr hc hlI hSI hR r 1 y kv H2 _ v uv c2 rfl (by simp) I3 fI2 fS2 hc2 ⟨oI,(sb.2 Ia hSI.symm).trans gI2,cI,dI⟩ ru rkv q2⟩
structure GZ (X:Cx) (pins:List (Addr×Obj)) (σ:St) (H:Hp) (s:Shared) (l:Addr) (h0:Heap) (Ia Sa:Addr):Prop where
 gI:h0.get? Ia=some { cls:=.type "list_iterator",data:=.fields #[.ref l,.int 0 0] }
 gS:h0.get? Sa=some (seqObj "list" #[] 0)
 keep:∀ b o,s.heap.get? b=some o->h0.get? b=some o
 inv:Inv X pins σ H { s with heap:=h0 }
 fI:b9 X pins H Ia
 fS:b9 X pins H Sa
 ne:l≠Ia
 two:Sa≠Ia
theorem y8 {l:Addr} (I:Inv X pins σ H s) (hl:l<s.heap.objs.size) :
  GZ X pins σ H s l ((s.heap.push { cls:=.type "list_iterator",data:=.fields #[.ref l,.int 0 0] }).push (seqObj "list" #[] 0)) s.heap.objs.size (s.heap.push { cls:=.type "list_iterator",data:=.fields #[.ref l,.int 0 0] }).objs.size:=by
 have Bs:=λ(o:Obj) (b:Addr) (ob:Obj) (e:s.heap.get? b=some ob)=>Heap.get?_push_of_some o e;have first:=Heap.get?_push_size s.heap (o:={ cls:=.type "list_iterator",data:=.fields #[.ref l,.int 0 0] }) rfl
 have size:=size_push' s.heap { cls:=.type "list_iterator",data:=.fields #[.ref l,.int 0 0] };replace Bs:=Bs { cls:=.type "list_iterator",data:=.fields #[.ref l,.int 0 0] };generalize s.heap.push { cls:=.type "list_iterator",data:=.fields #[.ref l,.int 0 0] }=h1 at Bs first size
 have up:s.heap.objs.size<=h1.objs.size:=by rw [size];exact Nat.le_succ _
 have kp:∀ b o,s.heap.get? b=some o->(h1.push (seqObj "list" #[] 0)).get? b=some o:=λb o e=>Heap.get?_push_of_some _ (Bs b o e);exact { gI:=Heap.get?_push_of_some _ first,gS:=Heap.get?_push_size _ rfl,keep:=kp,inv:=I.kept (t':=s.toks) kp,fI:=I.qZ (NX _) (I.hok.fresh (NX _)),fS:=I.qZ up (I.hok.fresh up),ne:=Nat.ne_of_lt hl,two:=by rw [size];exact Nat.succ_ne_self _ }
theorem tJ {k:Nat}{f:Addr}{sp:Sp}{x:V}{u:Value}{Q:VK} (C:uD X pins σ f sp) (hr:cC (k+1) X.A) (hc:X.calm=true) (Iv:Inv X pins σ H s) (rx:RelV x u) (h:vt X.K sp x H Q) :
  wpAny (model X.prog X.w) X.A (call (.builtin "min") [u] [(Str.ofString "key",.ref f),(Str.ofString "default",.none)]) (EP X pins σ Q) X.xe s:=by
 (have qL:(toString "min" ++ toString ".loop" : String) = "min.loop" :=by decide)
 obtain ⟨l,xs,rfl,hq,q⟩:=h;cases rx;obtain ⟨its,rv,pl,_⟩:=Iv.list hq;have hlen:=rv.length;have hll:l<s.heap.objs.size:=by obtain ⟨_,e,_⟩:=pl.isList;exact Heap.lt_size e
 refine kmk_tree PySem.F.kind_min PySem.F.plain_min PySem.F.entry_min (CH _ _ _) ?_;show wpAny _ X.A.in1 (Builtin.Builtins.bindParams "min" ["key","default"] 0 ⟨[],[(Str.ofString "key",.ref f),(Str.ofString "default",.none)]⟩ >>= _) _ _ s;refine wpAny_bind (wpAny_of_eq (show Builtin.Builtins.bindParams "min" ["key","default"] 0 ⟨[],[(Str.ofString "key",.ref f),(Str.ofString "default",.none)]⟩=pure [some (.ref f),some .none] from rfl) ?_);refine wpAny_bind (wpAny_pure ?_);refine wpAny_bind (wpAny_pyIter_list pl.isList ?_);refine wpAny_bind (wpAny_newList ?_ (Nat.zero_le _):wpAny _ _ _ _ _ _);rw [qL];have two:=y8 (X:=X) (l:=l) Iv hll;generalize (s.heap.push { cls:=.type "list_iterator",data:=.fields #[.ref l,.int 0 0] }).push (seqObj "list" #[] 0)=h0 at two ⊢;generalize (s.heap.push { cls:=.type "list_iterator",data:=.fields #[.ref l,.int 0 0] }).objs.size=Sa at two ⊢;generalize s.heap.objs.size=Ia at two ⊢;obtain ⟨gI,gS,hkp,I0,fI,fS,hlI,hSI⟩:=two;have pl0:h0.IsList l its.toArray:=pl.isList.at λo e=>hkp l o e
 (refine wpAny_pure ⟨plainId_quiet PySem.F.plain_min_loop _,?_⟩)
 cases xs with
 | nil=>
  have W:=Walks.list (prog:=X.prog) (w:=X.w) (A:=X.A.in1) (show X.A.in1.handled=none from Iv.ok.hd hc) Ia l hlI its.toArray
  (refine codeAny_builtin PySem.F.entry_min_loop ?_)
  (rw [Around.under_plainId PySem.F.plain_min_loop _])
  show wpAny _ X.A.in1 (seqItems? (.ref Sa) >>= _) _ _ _
  (refine wpAny_bind (wpAny_seqItems gS rfl ?_))
  show wpAny _ X.A.in1 (tryCatch (pyNext (.ref Ia)) _ >>= _) _ _ _;refine wpAny_bind (wpAny_tryCatch (W.done _ _ _ ⟨⟨_,(by rw [gI]),rfl,by rw [Ob,<-hlen];rfl⟩,pl0⟩ λh' tk' hk'=>?_));have I1:Inv X pins σ H { s with heap:=h',toks:=tk' }:=Inv.dz (s:={ s with heap:=h0 }) (t':=tk') (wr:=[Ia]) I0 (λc hc=>by rw [show c=Ia by simpa using hc];exact fI) λc o hc e=>hk' c o hc e
  (refine wpAny_bind (wpAny_rule (wpAny_pure ?_)))
  exact ⟨.non,H,I1,rfl,q⟩
 | cons y r=>
  exact vd (Q:=Q) C hr hc hlI hSI (λw' u' H' s' I' r' q'=>⟨w',H',I',r',q'⟩) I0 fI fS gS ⟨_,gI,rfl,rfl⟩ (hq) q
theorem B4 {k:Nat}{f:Addr}{fd:FuncData}{ps:List Str}{sp:Sp}{x:V}{u:Value}{Q:VK} (F:au X.prog X.w X.K X.mg X.base CX0 k f fd ps sp) (hr:cC (k+1) X.A) (hb:Binds X.K fd ps []) (hc:X.calm=true) (Iv:Inv X pins σ H s) (rx:RelV x u) (h:vt X.K sp x H Q) :
  wpAny (model X.prog X.w) X.A (call (.builtin "min") [u] [(Str.ofString "key",.ref f),(Str.ofString "default",.none)]) (EP X pins σ Q) X.xe s:=tJ (yu F hr hb) hr hc Iv rx h
def LB (K:PySem.W.Frag) (sp:Sp) (ta:TA):TE:=λσ H Q=>ta σ H λvs H1=>∃ x,vs=[x]/\vt K sp x H1 Q
end
theorem zI:bootBuiltins "min" = some (.builtin "min"):=by decide +kernel
section
variable {X:Cx}
theorem AK {k:Nat}{f:Addr}{fd:FuncData}{ps:List Str}{sp:Sp}{e:Expr}{ta:TA}{y:Str}{kn:Nat}{p py pos kp pd kp2:Pos} (F:au X.prog X.w X.K X.mg X.base CX0 k f fd ps sp) (hr:cC (k+1) X.A) (hb:Binds X.K fd ps []) (hc:X.calm=true)
  (hg:Gl X "min") (hm:X.mg "min" = none) (hgf:Gl X y) (hmf:X.mg y=some (.ref f)) (ha:PA X [e] ta) (hdb:(y == ("__debug__" : Str))=false:=by decide)
  (he:backTo pos (starEach [e] X.env)=(false,eval e X.env)::backTo pos (starEach [] X.env):=by rfl) (il:(backTo pos (starEach [e] X.env)).any (·.1)=false:=by rfl)
  (fc:(backToKw pos (keywordEach [⟨some "key",.Name y py,kp⟩,⟨some "default",.Constant .none kn pd,kp2⟩] X.env)).all (·.1.isSome)=true:=by rfl) (hkw:(backToKw pos (keywordEach [⟨some "key",.Name y py,kp⟩,⟨some "default",.Constant .none kn pd,kp2⟩] X.env)).any (·.1.isNone)=false:=by rfl) :
  PE X (.Call (.Name "min" p) [e] [⟨some "key",.Name y py,kp⟩,⟨some "default",.Constant .none kn pd,kp2⟩] pos) (LB X.K sp ta):=by
 intro pins s σ H Q I h;refine wpAny_Call_Name_kw (eD I hg hm zI ?_);refine callWith_kw (thn (ha pos pins s σ H _ I h) λus s1 ⟨vs,H1,I1,r1,q1⟩=>?_) he il fc hkw;obtain ⟨x,rfl,q⟩:=q1;obtain ⟨u,rfl,ru⟩:=r1.one;refine kws_cons (md I1 hgf hmf (kws_cons (Constant_none (kws_nil ?_))) hdb);exact B4 F hr hb hc I1 ru q
end
def fT:PyData->Nat->Nat->List PyData->Nat
 | _,i,_,[]=>i
 | db,i,j,d::r=>if ltv d db=true then fT d j (j+1) r else fT db i (j+1) r
def bz:List PyData->Nat
 | []=>0
 | d::r=>fT d 0 1 r
theorem nJ {S:PyData->Prop} (o:rc S):∀ (r:List PyData) (all:List PyData) (db:PyData) (i j:Nat),(∀ d∈all,S d)->all.drop j=r->i<j->all[i]? = some db->(∀ (m:Nat) (d:PyData),m<j->all[m]? = some d->ltv d db=false)->(∀ (m:Nat) (d:PyData),m<i->all[m]? = some d->ltv db d=true) ->
  ∃ d,all[fT db i j r]? = some d/\(∀ (m:Nat) (e:PyData),all[m]? = some e->ltv e d=false)/\∀ (m:Nat) (e:PyData),m<fT db i j r->all[m]? = some e->ltv d e=true
 | [],all,db,i,j,hS,hd,hij,hi,h1,h2=>by
  have hj:all.length<=j:=List.drop_eq_nil_iff.mp hd;exact ⟨db,hi,λm e he=>h1 m e (Nat.lt_of_lt_of_le (aF he) hj) he,h2⟩
 | d::r,all,db,i,j,hS,hd,hij,hi,h1,h2=>by
  have hjl:j<all.length:=by
   rcases Nat.lt_or_ge j all.length with z | z
   ·exact z
   ·rw [List.drop_of_length_le z] at hd;cases hd
  have hc:=List.drop_eq_getElem_cons hjl;rw [hd] at hc;injection hc with e1 e2;have hdj:all[j]? = some d:=by rw [NW hjl,e1]
  have sd:S d:=hS d (NV hdj);have sb:S db:=hS db (NV hi);unfold fT;by_cases hlt:ltv d db=true
  ·rw [if_pos hlt];have fc:∀ m e,m<j->all[m]? = some e->ltv d e=true:=λm e hm he=>by
    have se:S e:=hS e (NV he);rcases o.neg sd se sb hlt with z | z
    ·exact z
    ·rw [h1 m e hm he] at z;cases z
   refine nJ o r all d j (j+1) hS e2.symm (Nat.lt_succ_self _) hdj (λm e hm he=>?_) fc;rcases Nat.lt_or_ge m j with z | z
   ·exact o.asymm sd (hS e (NV he)) (fc m e z he)
   ·have:m=j:=by lia
    subst this;rw [hdj] at he;cases he;exact o.irr d sd
  ·rw [if_neg hlt];refine nJ o r all db i (j+1) hS e2.symm (Nat.lt_succ_of_lt hij) hi (λm e hm he=>?_) h2;rcases Nat.lt_or_ge m j with z | z
   ·exact h1 m e z he
   ·have:m=j:=by lia
    subst this;rw [hdj] at he;cases he;exact Bool.eq_false_iff.mpr hlt
theorem jT {S:PyData->Prop} (o:rc S) {all:List PyData} (hS:∀ d∈all,S d) (hne:all≠[]) :
  ∃ d,all[bz all]? = some d/\(∀ (m:Nat) (e:PyData),all[m]? = some e->ltv e d=false)/\∀ (m:Nat) (e:PyData),m<bz all->all[m]? = some e->ltv d e=true:=by
 cases all with
 | nil=>exact (hne rfl).elim
 | cons d r=>
  refine nJ o r (d::r) d 0 1 hS rfl Nat.zero_lt_one rfl (λm e hm he=>?_) (λm e hm he=>absurd hm (Nat.not_lt_zero _));have:m=0:=by lia
  subst this;cases he;exact o.irr d (hS d (N4 ..))
theorem xU {K:PySem.W.Frag}{sp:Sp}{Q:VK}{H0:Hp}{l:Addr}{xs:List V}{S:PyData->Prop} (o:rc S) (hq:SqL K H0 l xs):∀ (r:List V) (kr:List PyData) (i j:Nat) (b kb:V) (db:PyData) (H:Hp),r.length=kr.length->af H0 H->Den K H kb db->S db->(∀ d∈kr,S d/\d.depth<=100)->xs.drop j=r->xs[i]? = some b ->
  (∀ (m:Nat) (x:V) (d:PyData) (H:Hp) (Q:VK),r[m]? = some x->kr[m]? = some d->af H0 H->(∀ k H',af H H'->Den K H' k d->Q k H')->sp [x] H Q E0)->(∀ H',af H0 H'->Q (xs.getD (fT db i j kr) .non) H')->rM K sp l xs r b kb H Q:=by
 intro r
 induction r with
 | nil=>
  intro kr i j b kb db H hl s dk sb hS hdr hi hsp hQ;cases kr with
  | nil=>exact ⟨s.seq hq,by have:=hQ H s;simpa [fT,List.getD,hi] using this⟩
  | cons d kr=>cases hl
 | cons x r ih=>
  intro kr i j b kb db H hl s dk sb hS hdr hi hsp hQ;cases kr with
  | nil=>cases hl
  | cons d kr=>
   have hjl:j<xs.length:=by
    rcases Nat.lt_or_ge j xs.length with z | z
    ·exact z
    ·rw [List.drop_of_length_le z] at hdr;cases hdr
   have hc:=List.drop_eq_getElem_cons hjl;rw [hdr] at hc;injection hc with e1 e2;have hxj:xs[j]? = some x:=by rw [NW hjl,e1]
   have sd:=hS d (N4 ..);refine ⟨s.seq hq,hsp 0 x d H _ rfl rfl s λk H' s' dk'=>⟨d,db,dk',dk.same s',o.cmp d db sd.1 sb,sd.2,?_⟩⟩;have hS':∀ e∈kr,S e/\e.depth<=100:=λe he=>hS e (NY _ he);by_cases hlt:ltv d db=true
   ·rw [if_pos hlt];refine ih kr j (j+1) x k d H' (by simpa using hl) (s.trans s') dk' sd.1 hS' e2.symm hxj (λm y e H2 Q2 h1 h2=>hsp (m+1) y e H2 Q2 (by simpa using h1) (by simpa using h2)) λH2 h2=>?_;have:=hQ H2 h2;unfold fT at this
    rwa [if_pos hlt] at this
   ·rw [if_neg hlt];refine ih kr i (j+1) b kb db H' (by simpa using hl) (s.trans s') (dk.same s') sb hS' e2.symm hi (λm y e H2 Q2 h1 h2=>hsp (m+1) y e H2 Q2 (by simpa using h1) (by simpa using h2)) λH2 h2=>?_;have:=hQ H2 h2;unfold fT at this
    rwa [if_neg hlt] at this
theorem qc {K:PySem.W.Frag}{sp:Sp}{Q:VK}{H:Hp}{l:Addr}{xs:List V}{kds:List PyData}{S:PyData->Prop} (o:rc S) (hq:SqL K H l xs) (hl:xs.length=kds.length) (hS:∀ d∈kds,S d/\d.depth<=100)
  (hsp:∀ (m:Nat) (x:V) (d:PyData) (H2:Hp) (Q:VK),xs[m]? = some x->kds[m]? = some d->af H H2->(∀ k H',af H2 H'->Den K H' k d->Q k H')->sp [x] H2 Q E0) (h0:xs=[]->Q .non H) (hQ:xs≠[]->∀ H',af H H'->Q (xs.getD (bz kds) .non) H'):vt K sp (.ref l) H Q:=by
 refine ⟨l,xs,rfl,hq,?_⟩;cases xs with
 | nil=>exact h0 rfl
 | cons x r=>
  cases kds with
  | nil=>cases hl
  | cons d kr=>
   refine hsp 0 x d H _ rfl rfl (af.refl _) λk H' s' dk=>?_;refine xU o hq r kr 0 1 x k d H' (by simpa using hl) s' dk (hS d (N4 ..)).1 (λe he=>hS e (NY _ he)) rfl rfl (λm y e H2 Q2 h1 h2=>hsp (m+1) y e H2 Q2 (by simpa using h1) (by simpa using h2)) λH2 h2=>?_;exact hQ (by intro z;cases z) H2 h2
end L2
namespace LG
open PySem L2 PySem.Builtin PySem.Builtin.Str
def sgn (c:Nat):Bool:=decide (33<=c) && decide (c<=126) && decide (c≠37)
def dig (c:Nat):Bool:=decide (48<=c) && decide (c<=57)
def low (c:Nat):Bool:=decide (97<=c) && decide (c<=122)
def cA (p:Nat->Bool) (l:List Nat):Bool:=!l.isEmpty && l.all p
def dA:List Nat->List Nat
 | 45::r=>r
 | l=>l
def x9 (l:List Nat):Nat:=if cA dig (dA l)=true then 0 else if cA low l=true then 1 else 2
def bW (z:Str):Bool:=cA sgn z.cps.toList
def bx (z:Str):Nat:=x9 z.cps.toList
def kO:Nat->Str
 | 0=> "number"
 | 1=> "name"
 | _=> "other"
def bK:Nat->Str
 | 0=> "number"
 | 1=> "name"
 | _=> "any"
theorem kh {x y:Str} (h:x.cps.toList=y.cps.toList):x=y:=by
 cases x;cases y;simp only [Str.mk.injEq];exact Array.toList_inj.mp h
theorem takeWhile_all {α:Type}{p:α->Bool}:∀ {l:List α},(l.takeWhile p).length=l.length↔l.all p=true
 | []=>by simp
 | a::r=>by
  rw [List.takeWhile_cons,List.all_cons];by_cases h:p a=true
  ·rw [if_pos h,h,Bool.true_and];simp only [List.length_cons,Nat.add_right_cancel_iff];exact takeWhile_all
  ·rw [if_neg h];simp [h]
theorem strip_nil (z y:Str):decide (V.str (Txt.stripChars z y)=V.str "")=z.cps.toList.all (λc=>y.cps.contains c):=by
 have e:Txt.stripChars z y=strSub z (stripLo (λc=>y.cps.contains c) true z) (stripHi (λc=>y.cps.contains c) true z (stripLo (λc=>y.cps.contains c) true z)):=PyProof.Rows.stripBy_eq _ true true z;have h1:=PyProof.Rows.lo_facts (λc=>y.cps.contains c) z;have h2:=PyProof.Rows.hi_facts (λc=>y.cps.contains c) z (stripLo (λc=>y.cps.contains c) true z) h1.1;have hlo:stripLo (λc=>y.cps.contains c) true z=(z.cps.toList.takeWhile λc=>y.cps.contains c).length:=by simp [stripLo]
 have hz:z.length=z.cps.toList.length:=by simp [Str.length]
 (rw [Bool.eq_iff_iff,decide_eq_true_eq])
 constructor
 ·intro h;have h0:(Txt.stripChars z y).cps.size=0:=by
   have:Txt.stripChars z y = "" :=by injection h
   rw [this];rfl
  rw [e] at h0;have h3:stripHi (λc=>y.cps.contains c) true z (stripLo (λc=>y.cps.contains c) true z)<=stripLo (λc=>y.cps.contains c) true z:=by
   have h4:(Array.extract z.cps (stripLo (λc=>y.cps.contains c) true z) (stripHi (λc=>y.cps.contains c) true z (stripLo (λc=>y.cps.contains c) true z))).size=0:=h0;rw [Array.size_extract] at h4;have h5:=h2.2.1;have h6:z.length=z.cps.size:=rfl;lia
  rcases Nat.lt_or_ge (stripLo (λc=>y.cps.contains c) true z) z.length with hl | hl
  ·rcases h1.2.2 with q | q
   ·lia
   ·have:=h2.2.2.1 (stripLo (λc=>y.cps.contains c) true z) h3 hl;rw [q] at this;cases this
  ·have q:stripLo (λc=>y.cps.contains c) true z=z.length:=Nat.le_antisymm h1.1 hl;rw [hlo,hz] at q;exact takeWhile_all.mp q
 ·intro h;have h3:=takeWhile_all.mpr h;rw [<-hlo,<-hz] at h3;have:Txt.stripChars z y = "" :=by
   rw [e,h3];refine kh ?_;have h4:=h2.2.1;refine List.eq_nil_of_length_eq_zero ?_;show (Array.extract z.cps z.length _).toList.length=0;rw [Array.length_toList,Array.size_extract];have h6:z.length=z.cps.size:=rfl;lia
  rw [this]
theorem ya (z:Str):(Txt.removeprefix z "-").cps.toList=dA z.cps.toList:=by
 rw [StrLaws.removeprefix_eq];have h1:(("-" : Str)).length=1:=rfl;have h2:(("-" : Str)).cps = #[45]:=by decide +kernel
 rw [h1];have hz:z.length=z.cps.toList.length:=by simp [Str.length]
 have hs:subAt z "-" 0=(z.cps.extract 0 (0+1) == #[45]):=by
  unfold subAt;rw [h1,h2]
 rw [hs];cases e:z.cps.toList with
 | nil=>
  have h3:z.length=0:=by rw [hz,e];rfl
  rw [h3];simp [dA,e]
 | cons a r=>
  have h3:z.length=r.length+1:=by rw [hz,e];rfl
  have h4:z.cps.extract 0 (0+1) = #[a]:=by
   apply Array.toList_inj.mp;rw [Array.toList_extract,e];simp
  rw [h4,h3];by_cases ha:a=45
  ·subst ha;simp [dA]
  ·have h5:(#[a] == #[45])=false:=by
    rw [beq_eq_false_iff_ne];intro h;apply ha;simpa using h
   rw [h5];simp only [Bool.and_false,Bool.false_eq_true,if_false];rw [e];unfold dA
   split
   ·rename_i q;cases q;exact (ha rfl).elim
   ·rfl
end LG
namespace LG
open PySem L2 PySem.Builtin PySem.Builtin.Str PySem.StrLaws
def isB (l:List Nat) (i:Nat):Bool:=decide (l[i]? = some 32)
theorem xn:∀ l:List Nat,(List.range l.length).countP (isB l)=l.count 32
 | []=>rfl
 | a::r=>by
  rw [List.length_cons,List.range_succ_eq_map,List.countP_cons,List.countP_map,List.count_cons];have e:(isB (a::r) ∘ Nat.succ)=isB r:=by funext i;simp [isB]
  rw [e,xn r];have e2:isB (a::r) 0=(a == 32):=by rw [Bool.eq_iff_iff];simp [isB]
  rw [e2]
theorem vM (z:Str) (i:Nat):subAt z " " i=isB z.cps.toList i:=by
 have h2:((" " : Str)).cps.toList=[32]:=by decide +kernel
 have h1:((" " : Str)).length=1:=rfl;rw [subAt_eq,h1,h2];unfold isB;cases e:z.cps.toList[i]? with
 | none=>
  rw [List.drop_of_length_le (List.getElem?_eq_none_iff.mp e)];decide
 | some c=>
  have hi:=aF e;rw [List.drop_eq_getElem_cons hi];rw [NW hi] at e;cases e;rw [Bool.eq_iff_iff];simp
theorem tR (z:Str) (AV:Nat) (hl:z.length<AV):∀ (m k:Nat) (st:Array Nat×Nat),k+m<=z.length+1->st.1.size<=k->st.2<=k ->
  st.1.size+(List.range' k m).countP (isB z.cps.toList)<=(forIn (List.range' k m) st (occBody z " " z.length AV)).run.1.size
 | 0,k,st,_,_,_=>by
  simp only [List.range'_zero,List.countP_nil,Nat.add_zero,List.forIn_nil];exact NX _
 | m+1,k,st,hk,hs,hf=>by
  have h1:((" " : Str)).length=1:=rfl;rw [List.range'_succ,List.forIn_cons,List.countP_cons];unfold occBody;by_cases hb:isB z.cps.toList k=true
  ·have hkl:k<z.length:=by
    have:z.cps.toList[k]? = some 32:=by simpa [isB] using hb
    have:=aF this;simpa [Str.length] using this
   rw [if_pos hb,if_pos ⟨⟨⟨by lia,hf⟩,by rw [h1];lia⟩,by rw [vM];exact hb⟩];have ih:=tR z AV hl m (k+1) (st.1.push k,k+((" " : Str)).length) (by lia) (by show (st.1.push k).size<=k+1;rw [Array.size_push];lia) (by show k+_<=k+1;rw [h1];exact NX _);have e:(st.1.push k,k+((" " : Str)).length).1.size=st.1.size+1:=by show (st.1.push k).size=_;rw [Array.size_push]
   rw [e] at ih;refine N2 ?_ ih;lia
  ·rw [if_neg hb,if_neg (by rw [vM];exact λh=>hb h.2)];have ih:=tR z AV hl m (k+1) (st.1,st.2) (by lia) (by show st.1.size<=_;lia) (by show st.2<=_;lia);exact ih
theorem vA (z:Str):z.cps.toList.count 32<=(occurrences z " " 0 z.length (z.length+1)).length:=by
 rw [occ_eq];have h:=tR z (z.length+1) (Nat.lt_succ_self _) (z.length+1) 0 (#[],0) (by lia) (by simp) (NX _);have e:(List.range' 0 (z.length+1)).countP (isB z.cps.toList)=z.cps.toList.count 32:=by
  rw [<-List.range_eq_range',List.range_succ,List.countP_append];have hz:z.length=z.cps.toList.length:=by simp [Str.length]
  have e2:isB z.cps.toList z.length=false:=by
   unfold isB;rw [hz,List.getElem?_eq_none (NX _)];rfl
  rw [hz,xn,<-hz];simp [e2]
 rw [e] at h;simp only [Array.length_toList];have h0:((#[]:Array Nat),0).1.size=0:=rfl;rw [h0,Nat.zero_add] at h;exact h
theorem zQ (z:Str):(Txt.split z " ").length=(occurrences z " " 0 z.length (z.length+1)).length+1\/(Txt.split z " " = [z]/\z.cps.toList.count 32=0):=by
 unfold Txt.split
 split
 ·rename_i h
  right
  refine ⟨rfl,?_⟩;rw [Bool.or_eq_true,decide_eq_true_eq,decide_eq_true_eq] at h;have h1:((" " : Str)).length=1:=rfl;rcases h with h | h
  ·have hz:z.cps.toList=[]:=List.eq_nil_of_length_eq_zero (by rw [Array.length_toList];have:z.length=z.cps.size:=rfl;lia);rw [hz];rfl
  ·exfalso;have e:PySem.Builtin.Str.strKind (" " : Str)=1:=by decide +kernel
   rw [e] at h;unfold PySem.Builtin.Str.strKind at h
   split at h
   ·lia
   ·split at h <;> lia
 ·split
  ·rename_i h
   right
   refine ⟨rfl,?_⟩;have:=vA z;rw [List.isEmpty_iff.mp h] at this;simpa using this
  ·left
   rw [length_partsBetween]
theorem zm (ts:List Str) (hne:ts≠[]):(Str.join " " ts).cps.toList.count 32=(ts.map λt=>t.cps.toList.count 32).sum+(ts.length - 1):=by
 have h2:((" " : Str)).cps.toList=[32]:=by decide +kernel
 induction ts with
 | nil=>exact (hne rfl).elim
 | cons x r ih=>
  cases r with
  | nil=>show x.cps.toList.count 32=_;simp
  | cons y r=>
   have e:Str.join " " (x::y::r)=x ++ " " ++ Str.join " " (y::r):=rfl;rw [e];have e2:(x++(" " : Str)++Str.join " " (y::r)).cps.toList=x.cps.toList++[32]++(Str.join " " (y::r)).cps.toList:=by
    rw [<-h2]
    (simp only [Str.cps_append,Array.toList_append])
   rw [e2,List.count_append,List.count_append,ih (by simp)];simp only [Oc,List.sum_cons,List.length_cons,List.count_singleton_self];lia
theorem xo:∀ {l:List Nat},l.sum=0->∀ x∈l,x=0
 | [],_,x,h=>by cases h
 | a::r,hs,x,h=>by
  simp only [List.sum_cons] at hs
  (rcases List.mem_cons.mp h with rfl | h)
  ·lia
  ·exact xo (by lia) x h
theorem split_free (z:Str):∀ x∈Txt.split z " ",32∉x.cps.toList:=by
 intro x hx;have hj:=StrLaws.join_split z " ";have hne:Txt.split z " " ≠ []:=by intro e;rw [e] at hx;cases hx
 have hc:=zm (Txt.split z " ") hne;rw [hj] at hc;rcases zQ z with h | h
 ·rw [h] at hc;have h3:=vA z;have h4:(List.map (λt:Str=>t.cps.toList.count 32) (Txt.split z " ")).sum=0:=by lia
  have h5:=xo h4 (x.cps.toList.count 32) (N5.mpr ⟨x,hx,rfl⟩);exact List.count_eq_zero.mp h5
 ·rw [h.1] at hx;simp only [N3] at hx;subst hx;exact List.count_eq_zero.mp h.2
theorem FO {a b c d:List Nat} (h:a++32::b=c++32::d) (ha:32∉a) (hc:32∉c):a=c/\b=d:=by
 induction a generalizing c with
 | nil=>
  cases c with
  | nil=>simp at h;exact ⟨rfl,h⟩
  | cons e c=>simp at h;exact (hc (by simp [<-h.1])).elim
 | cons e a ih=>
  cases c with
  | nil=>simp at h;exact (ha (by simp [h.1])).elim
  | cons e' c=>
   simp only [List.cons_append,List.cons.injEq] at h;obtain ⟨h1,h2⟩:=ih h.2 (λq=>ha (NY _ q)) (λq=>hc (NY _ q));exact ⟨by rw [h.1,h1],h2⟩
theorem uK (x y:Str) (r:List Str):(Str.join " " (x::y::r)).cps.toList=x.cps.toList++32::(Str.join " " (y::r)).cps.toList:=by
 have h2:((" " : Str)).cps.toList=[32]:=by decide +kernel
 have e:Str.join " " (x::y::r)=x ++ " " ++ Str.join " " (y::r):=rfl;rw [e];simp only [Str.cps_append,Array.toList_append,h2,List.append_assoc,List.singleton_append]
theorem xi:∀ {ts us:List Str},ts≠[]->us≠[]->(∀ x∈ts,32∉x.cps.toList)->(∀ x∈us,32∉x.cps.toList)->(Str.join " " ts).cps.toList=(Str.join " " us).cps.toList->ts=us
 | [x],[y],_,_,_,_,h=>by rw [kh (x:=x) (y:=y) h]
 | [x],y::y2::r,_,_,hx,_,h=>by
  rw [uK] at h;have h:x.cps.toList=y.cps.toList++32::(Str.join " " (y2::r)).cps.toList:=h;exact (hx x (by simp) (by rw [h];simp)).elim
 | x::x2::r,[y],_,_,_,hy,h=>by
  rw [uK] at h;have h:x.cps.toList++32::(Str.join " " (x2::r)).cps.toList=y.cps.toList:=h;exact (hy y (by simp) (by rw [<-h];simp)).elim
 | x::x2::r,y::y2::q,_,_,hx,hy,h=>by
  rw [uK,uK] at h;obtain ⟨h1,h2⟩:=FO h (hx x (by simp)) (hy y (by simp));have:=xi (ts:=x2::r) (us:=y2::q) (by simp) (by simp) (λz hz=>hx z (NY _ hz)) (λz hz=>hy z (NY _ hz)) h2;rw [kh h1,this]
theorem nC {ws:List Str} (hne:ws≠[]) (h:∀ x∈ws,32∉x.cps.toList):Txt.split (Txt.join " " ws) " " = ws:=by
 have e:Txt.join " " ws=Str.join " " ws:=StrLaws.glued_eq_join " " ws;have hj:=StrLaws.join_split (Txt.join " " ws) " ";refine xi ?_ hne (split_free _) h ?_
 ·intro e;have:=(L2.rZ (z:=Txt.join " " ws) (y:= " ")).1;rw [e] at this;exact absurd this (by decide)
 ·rw [hj,e]
end LG
namespace LG
open PySem L2 PySem.Builtin PySem.Builtin.Str
theorem pR (y:Str) (p:Nat->Bool) (h1:∀ c<200,y.cps.contains c=p c) (h2:∀ x∈y.cps.toList,x<200) (h3:∀ c,200<=c->p c=false):(λc=>y.cps.contains c)=p:=by
 funext c
 rcases Nat.lt_or_ge c 200 with h | h
 ·exact h1 c h
 ·rw [h3 c h];rw [Bool.eq_false_iff];intro q;have:=h2 c (by simpa using q);lia
theorem GY (c:Nat) (h:200<=c):sgn c=false:=by unfold sgn;rw [decide_eq_false (show ¬ c<=126 by lia)];simp
theorem GK (c:Nat) (h:200<=c):dig c=false:=by unfold dig;rw [decide_eq_false (show ¬ c<=57 by lia)];simp
theorem Hu (c:Nat) (h:200<=c):low c=false:=by unfold low;rw [decide_eq_false (show ¬ c<=122 by lia)];simp
@[irreducible] def BN:Str:= "0123456789"
@[irreducible] def Cd:Str:= "abcdefghijklmnopqrstuvwxyz"
@[irreducible] def kT:Str:= "!\"#$&'()*+,-./0123456789:;<=>?@ABCDEFGHIJKLMNOPQRSTUVWXYZ[\\]^_`abcdefghijklmnopqrstuvwxyz{|}~"
theorem Hk:BN = "0123456789" :=by unfold BN;rfl
theorem F1:Cd = "abcdefghijklmnopqrstuvwxyz" :=by unfold Cd;rfl
theorem sH:kT = "!\"#$&'()*+,-./0123456789:;<=>?@ABCDEFGHIJKLMNOPQRSTUVWXYZ[\\]^_`abcdefghijklmnopqrstuvwxyz{|}~" :=by unfold kT;rfl
theorem EV:(λc=>BN.cps.contains c)=dig:=pR _ _ (by decide +kernel) (by decide +kernel) GK
theorem EU:(λc=>Cd.cps.contains c)=low:=pR _ _ (by decide +kernel) (by decide +kernel) Hu
theorem vp:(λc=>kT.cps.contains c)=sgn:=pR _ _ (by decide +kernel) (by decide +kernel) GY
theorem wB (z:Str):decide (V.str z=V.str "")=z.cps.toList.isEmpty:=by
 rw [Bool.eq_iff_iff,decide_eq_true_eq,List.isEmpty_iff];constructor
 ·intro h;have:z = "" :=by injection h
  rw [this];rfl
 ·intro h;have:z = "" :=kh (by rw [h];rfl);rw [this]
theorem Gc (z y:Str):((!decide (V.str z=V.str "")) && decide (V.str (Txt.stripChars z y)=V.str ""))=cA (λc=>y.cps.contains c) z.cps.toList:=by
 rw [wB,strip_nil];rfl
theorem vo {i j:Nat} (hi:i<3) (hj:j<3):decide (V.str (kO i)=V.str (kO j))=decide (i=j):=by
 match i,j,hi,hj with
 | 0,0,_,_=>decide +kernel
 | 0,1,_,_=>decide +kernel
 | 0,2,_,_=>decide +kernel
 | 1,0,_,_=>decide +kernel
 | 1,1,_,_=>decide +kernel
 | 1,2,_,_=>decide +kernel
 | 2,0,_,_=>decide +kernel
 | 2,1,_,_=>decide +kernel
 | 2,2,_,_=>decide +kernel
theorem tP (l:List Nat):x9 l<3:=by
 unfold x9
 split
 ·decide
 ·split <;> decide
def yB (l:List Nat):Nat:=if cA dig (dA l)=true then 0 else if l.all low=true then 1 else 2
theorem lt1 (a b:Nat):decide ([a] < [b])=decide (a<b):=by
 (rw [Bool.eq_iff_iff,decide_eq_true_eq,decide_eq_true_eq])
 constructor
 ·intro h;cases h with
  | rel h=>exact h
  | cons h=>cases h
 ·intro h;exact List.Lex.rel h
def sg (c:Nat):Str:=⟨#[c]⟩
section
variable {K:PySem.W.Frag}{tt:TT}{D:Addr}{Q:VK}{H:Hp}
end
inductive Pt where
 | word (w:Str)
 | hole (k:Nat)
 deriving DecidableEq
def Pt.dat:Pt->PyData
 | .word w=>.tuple [.str "word",.str w]
 | .hole k=>.tuple [.str "hole",.str (bK k)]
def TOk (w:Str):Prop:=w.length<=10000/\PyData.strOk w=true
def Pt.ok:Pt->Prop
 | .word w=>TOk w
 | .hole k=>k<3
def be (ps:List Pt):PyData:=.list (ps.map Pt.dat)
def POk (ps:List Pt):Prop:=ps.length<=10000/\∀ p∈ps,p.ok
def Pt.takes:Pt->Str->Bool
 | .word x,w=>decide (w=x)
 | .hole 0,w=>decide (bx w=0)
 | .hole 1,w=>decide (bx w=1)
 | .hole _,w=>bW w
def aD (ps:List Pt) (ws:List Str):Bool:=decide (ps.length=ws.length) && (ps.zip ws).all λp=>p.1.takes p.2
def Pt.within:Pt->Pt->Bool
 | .word x,q=>q.takes x
 | .hole k,q=>decide (q = .hole k) || decide (q = .hole 2)
def aC (ps qs:List Pt):Bool:=decide (ps.length=qs.length) && (ps.zip qs).all λp=>p.1.within p.2
def Pt.loose:Pt->Int
 | .word _=>0
 | .hole 0=>1
 | .hole 1=>1
 | .hole _=>2
def Pt.around:Pt->Nat
 | .word w=>bx w
 | .hole k=>k
def lN (ps:List Pt):Pt:=match ps with
 | []=>.hole 2
 | p::r=>if r.all (λq=>decide (q=p))=true then p else if r.all (λq=>decide (q.around=p.around))=true then .hole p.around else .hole 2
theorem vN {i j:Nat} (hi:i<3) (hj:j<3) (h:bK i=bK j):i=j:=by
 have key:∀ i<3,∀ j<3,bK i=bK j->i=j:=by decide +kernel
 exact key i hi j hj h
theorem G0 {p q:Pt} (hp:p.ok) (hq:q.ok) (h:p.dat=q.dat):p=q:=by
 cases p with
 | word w=>
  cases q with
  | word w'=>simp [Pt.dat] at h;rw [h]
  | hole k=>
   have:("word" : Str) ≠ "hole" :=by decide +kernel
   simp [Pt.dat] at h;exact (this h.1).elim
 | hole k=>
  cases q with
  | word w'=>
   have:("hole" : Str) ≠ "word" :=by decide +kernel
   simp [Pt.dat] at h;exact (this h.1).elim
  | hole k'=>
   simp [Pt.dat] at h;rw [vN hp hq h]
def Gw:Sh:=.cw .str (.cw .str .pZ)
theorem Fu (p:Pt):Gw.has p.dat:=by
 cases p with
 | word w=>exact ⟨_,_,rfl,⟨_,rfl⟩,_,_,rfl,⟨_,rfl⟩,rfl⟩
 | hole k=>exact ⟨_,_,rfl,⟨_,rfl⟩,_,_,rfl,⟨_,rfl⟩,rfl⟩
theorem Ap {p q:Pt} (hp:p.ok) (hq:q.ok):PyData.eqv p.dat q.dat=decide (p=q):=by
 rw [Bool.eq_iff_iff,decide_eq_true_eq,(Sh.ok Gw).eqv _ _ (Fu p) (Fu q)];exact ⟨G0 hp hq,λh=>by rw [h]⟩
theorem rE (pt:Pt):pt.dat.depth<=5:=by cases pt <;> simp [Pt.dat,PyData.depth,PyData.depthAll]
theorem jA (ps:List Pt):(be ps).depth<=90:=by
 have h:PyData.depthAll (ps.map Pt.dat)<=5:=eJ _ λd hd=>by
  obtain ⟨pt,_,rfl⟩:=N5.mp hd;exact rE pt
 simp only [be,PyData.depth];lia
theorem yl {K:PySem.W.Frag}{H:Hp}{v:V}{x:Str} (h:Den K H v (.str x)):v = .str x/\PyData.strOk x=true:=by
 cases h with
 | str q=>exact ⟨rfl,q⟩
theorem mm {K:PySem.W.Frag}{H:Hp}{v:V}{x y:Str} (h:Den K H v (.tuple [.str x,.str y])):∃ a,v = .ref a/\SqT K H a [.str x,.str y]/\PyData.strOk x=true/\PyData.strOk y=true:=by
 cases h with
 | tup hq t=>
  cases t with
  | cons h1 t=>cases t with
   | cons h2 t=>
    cases t;obtain ⟨rfl,q1⟩:=yl h1;obtain ⟨rfl,q2⟩:=yl h2;exact ⟨_,rfl,hq,q1,q2⟩
theorem ip {K:PySem.W.Frag}{H:Hp}{v:V}{pt:Pt} (h:Den K H v pt.dat):∃ a x y,v = .ref a/\SqT K H a [.str x,.str y]/\PyData.strOk x=true/\PyData.strOk y=true/\(match pt with | .word w=>x = "word" /\ y=w | .hole k=>x = "hole" /\ y=bK k):=by
 cases pt with
 | word w=>obtain ⟨a,rfl,hq,q1,q2⟩:=mm h;exact ⟨a,_,_,rfl,hq,q1,q2,rfl,rfl⟩
 | hole k=>obtain ⟨a,rfl,hq,q1,q2⟩:=mm h;exact ⟨a,_,_,rfl,hq,q1,q2,rfl,rfl⟩
theorem bR {K:PySem.W.Frag}{H:Hp}{v:V}{ps:List Pt} (h:Den K H v (be ps)):∃ a xs,v = .ref a/\SqL K H a xs/\aI K H xs (ps.map Pt.dat):=by
 cases h with
 | lst hq t=>exact ⟨_,_,rfl,hq,t⟩
end LG
namespace L2
open PySem PySem.Spec PyProof.Rows
section
variable {X:Cx}
def cD (K:PySem.W.Frag):List V->Hp->VK->Prop:=λxs H Q=>∃ p ys,xs=[.ref p]/\(SqL K H p ys\/SqT K H p ys)/\Q (.int ys.length) H
theorem aS:mO X (.builtin "len") (cD X.K):=xc
theorem i9:bootBuiltins "isinstance" = some (.builtin "isinstance"):=by decide +kernel
theorem IX:bootBuiltins "str" = some (.type "str"):=by decide +kernel
theorem Ft:bootBuiltins "tuple" = some (.type "tuple"):=by decide +kernel
theorem DW {K:PySem.W.Frag}{a:Addr}{x y:V}{σ:St}{H:Hp}{F G:St->Hp->Prop} (hq:SqT K H a [x,y]) (h:F ((σ.set 0 (some x)).set 1 (some y)) H) :
  Hv K 2 (rW (aY 0) (rW (aY 1) GJ)) (.ref a) σ H λσ2 H2=>Fx σ2 H2 λb H3=>if b=true then F σ2 H3 else G σ2 H3:=by
 refine ⟨a,_,rfl,hq,rfl,_,_,rfl,_,_,rfl,rfl,?_⟩;show (if true=true then F ((σ.set 0 (some x)).set 1 (some y)) H else G ((σ.set 0 (some x)).set 1 (some y)) H);rw [if_pos rfl];exact h
end
theorem D1 {X:Cx}{K:PySem.W.Frag}{o e:Expr}{es:List Expr}{to:TE}{t:TA}{name:Str}{apos cQ:Pos}{T id:String}{r:V->List V->Hp->VK->Prop} (eK:X.K=K) (pa:PlainAttrs T) (slot:Slot T name id) (hty:typeOf (.builtin id)=pure (.type "method_descriptor")) (hm:MtR X id r) (ho:PE X o to) (ha:PA X (e::es) t)
  (tE:attributeBase o name X.env (eval o X.env)=eval o X.env:=by rfl)
  (Dr:((backTo cQ (starEach (e::es) X.env)).all (λx=>!x.1) && (backToKw cQ (keywordEach [] X.env)).all (λx=>x.1.isSome)
   && decide ((e::es).length+([]:List Keyword).length+(if ([]:List Keyword).isEmpty then 0 else 1)<30))=true:=by rfl)
  (sJ:(apos.endLine == cQ.line)=true:=by rfl) (hs:starEach (e::es) X.env=(false,eval e X.env)::starEach es X.env:=by rfl) (il:(backTo cQ (starEach es X.env)).any (·.1)=false:=by rfl) :
  PE X (.Call (.Attribute o name apos) (e::es) [] cQ) (tBM K T r to t):=by
 subst eK;exact c5 pa slot hty hm ho ha tE Dr sJ hs il
def JZ (sc osc:Scope):Scope:={ sc with names:=sc.names.map λ(n,k)=>if (k == .free && osc.kind == .function && osc.names.lookup n == some .cell) then (n,.cell) else (n,k) }
theorem A9 {X0:Cx}{sc sc':Scope}{N0 N':List Str}{n:Nat}{fi:List Nat}{s:Shared}{H:Hp}{fp:List Addr} (osc:Scope) (h:JB sc (JZ sc' osc) N0 N' n fi=true) (e:X0.env.scope=osc:=by rfl):i3 (bC X0 sc' N0 s H fp) sc N' n fi:=by
 subst e;exact aU (JZ sc' X0.env.scope) N0 h rfl rfl
theorem SqT.JV {K:PySem.W.Frag}{H0 H4 H':Hp}{a:Addr}{xs:List V} (ll:LL H0 H4) (s:af H4 H') (h:SqT K H4 a xs):SqT K (L2.lim H0 H') a xs:=by
 have no:∀ o:HO,H4 a=some o->(∀ zs,o ≠ .lst zs)->∀ zs,H0 a≠some (.lst zs):=λo ho hn zs e=>by
  obtain ⟨z2,q⟩:=ll a zs e;rw [ho] at q;cases q;exact hn z2 rfl
 rcases h with (h | ⟨o,h⟩) | h
 ·exact .inl (.inl (by rw [nH (no _ h λzs z=>by cases z)];exact s _ _ h))
 ·exact .inl (.inr ⟨o,by rw [nH (no _ h λzs z=>by cases z)];exact s _ _ h⟩)
 ·exact .inr h
end L2
namespace LG
open PySem L2 PySem.Builtin PySem.Builtin.Str
def LOk (w:Str):Prop:=w.length<=10000
theorem LOk.s {w:Str} (h:LOk w):w.length<=sizeLine:=N2 h (by decide)
def lA (K:PySem.W.Frag):Sp:=λvs H Q _=>∃ z y:Str,vs=[.str z,.str y]/\LOk z/\Q (.bl (cA (λc=>y.cps.contains c) z.cps.toList)) H
def nQ (K:PySem.W.Frag):Sp:=λvs H Q _=>∃ z:Str,vs=[.str z]/\LOk z/\Q (.bl (bW z)) H
def kz (K:PySem.W.Frag):Sp:=λvs H Q _=>∃ z:Str,vs=[.str z]/\LOk z/\Q (.str (kO (bx z))) H
def gb (K:PySem.W.Frag):Sp:=λvs H Q _=>∃ z:Str,vs=[.str z]/\LOk z/\∀ l,H l=none->Q (.ref l) (upd H l (.lst ((Txt.split z " ").map V.str)))
def cJ (K:PySem.W.Frag):Sp:=λvs H Q _=>∃ v pt,vs=[v]/\Den K H v (Pt.dat pt)/\Q (.bl (match pt with | .hole _=>true | _=>false)) H
def dR (K:PySem.W.Frag):Sp:=λvs H Q _=>∃ (v:V) (w:Str) (p:Pt),vs=[v,.str w]/\Den K H v p.dat/\p.ok/\LOk w/\Q (.bl (p.takes w)) H
def j5 (K:PySem.W.Frag):Sp:=λvs H Q _=>∃ (a b:Addr) (xs:List V) (ps:List Pt) (ws:List Str),vs=[.ref a,.ref b]/\SqL K H a xs/\aI K H xs (ps.map Pt.dat)/\(∀ p∈ps,p.ok)/\SqL K H b (ws.map V.str)/\(∀ w∈ws,LOk w)/\∀ H',af H H'->Q (.bl (aD ps ws)) H'
def xa (K:PySem.W.Frag):Sp:=λvs H Q _=>∃ (v:V) (z:Str) (ps:List Pt),vs=[v,.str z]/\Den K H v (be ps)/\(∀ p∈ps,p.ok)/\LOk z/\PyData.strOk z=true/\∀ H',af H H'->Q (.bl (aD ps (Txt.split z " "))) H'
def fo (K:PySem.W.Frag):Sp:=λvs H Q _=>∃ (u v:V) (p q:Pt),vs=[u,v]/\Den K H u p.dat/\Den K H v q.dat/\p.ok/\q.ok/\∀ H',af H H'->Q (.bl (p.within q)) H'
def j4 (K:PySem.W.Frag):Sp:=λvs H Q _=>∃ (u v:V) (ps qs:List Pt),vs=[u,v]/\Den K H u (be ps)/\Den K H v (be qs)/\POk ps/\POk qs/\∀ H',af H H'->Q (.bl (aC ps qs)) H'
def fj (K:PySem.W.Frag):Sp:=λvs H Q _=>∃ (v:V) (p:Pt),vs=[v]/\Den K H v p.dat/\p.ok/\Q (.str (bK p.around)) H
def f7 (K:PySem.W.Frag):Sp:=λvs H Q _=>∃ (v:V) (p:Pt),vs=[v]/\Den K H v p.dat/\p.ok/\Q (.int p.loose) H
def pj (K:PySem.W.Frag):Sp:=λvs H Q _=>∃ (v:V) (ps:List Pt),vs=[v]/\Den K H v (be ps)/\POk ps/\∀ D H',H D=none->af H H'->H' D=some (.lst (ps.map λp=>.int p.loose))->Q (.ref D) H'
def lr (K:PySem.W.Frag):Sp:=λvs H Q _=>∃ (a:Addr) (xs:List V) (ps:List Pt),vs=[.ref a]/\SqL K H a xs/\aI K H xs (ps.map Pt.dat)/\ps≠[]/\POk ps/\∀ r H',af H H'->Den K H' r (lN ps).dat->Q r H'
theorem qg {p:Pt} (h:p.ok):p.around<3:=by
 cases p with
 | word w=>exact tP _
 | hole k=>exact h
theorem t8 {k:Nat}:PyData.strOk (bK k)=true:=by
 match k with
 | 0=>decide +kernel
 | 1=>decide +kernel
 | (n+2)=>show PyData.strOk (bK 2)=true;decide +kernel
theorem xK {k:Nat} (hk:k<3):decide (V.str (bK k)=V.str "any")=decide (k=2):=by
 match k,hk with
 | 0,_=>decide +kernel
 | 1,_=>decide +kernel
 | 2,_=>decide +kernel
theorem B6 {k:Nat} (hk:k<2) (w:Str):decide (V.str (kO (bx w))=V.str (bK k))=decide (bx w=k):=by
 have h:bK k=kO k:=by
  match k,hk with
  | 0,_=>rfl
  | 1,_=>rfl
 rw [h];exact vo (tP _) (by lia)
theorem pq (z:Str):bx z<3:=tP _
theorem bH (m:Nat) (q:Pt):(Pt.hole m).within q=(decide (q = .hole m) || decide (q = .hole 2)):=rfl
theorem Ci (z:Str):(Txt.removeprefix z "-").length<=z.length:=by
 have h:=ya z;have h1:(Txt.removeprefix z "-").length=(Txt.removeprefix z "-").cps.toList.length:=by simp [Str.length]
 have h2:z.length=z.cps.toList.length:=by simp [Str.length]
 rw [h1,h,h2];generalize z.cps.toList=l;unfold dA
 split <;> simp
theorem BX {ps:List Pt}{ws:List Str} (h:ps.length≠ws.length):aD ps ws=false:=by unfold aD;rw [decide_eq_false h];rfl
theorem Ez {α β:Type}{f:α×β->Bool}{xs:List α}{ys:List β}{i:Nat}{x:α}{y:β} (hx:xs[i]? = some x) (hy:ys[i]? = some y) (h:f (x,y)=false):(xs.zip ys).all f=false:=by
 rw [Bool.eq_false_iff];intro q;rw [List.all_eq_true] at q;have hm:(x,y)∈xs.zip ys:=by
  refine NV (i:=i) ?_;rw [List.getElem?_zip_eq_some];exact ⟨hx,hy⟩
 rw [q _ hm] at h;cases h
theorem Bk {α β:Type}{f:α×β->Bool}{xs:List α}{ys:List β} (h:∀ (i:Nat) x y,i<min xs.length ys.length->xs[i]? = some x->ys[i]? = some y->f (x,y)=true):(xs.zip ys).all f=true:=by
 rw [List.all_eq_true];intro p hp;obtain ⟨i,hi⟩:=List.getElem?_of_mem hp;rw [List.getElem?_zip_eq_some] at hi;have h1:=aF hi.1;have h2:=aF hi.2;exact h i p.1 p.2 (by lia) hi.1 hi.2
theorem cW {K:PySem.W.Frag}{H:Hp}{xs:List V}{ps:List Pt}{i:Nat}{x:V} (h:aI K H xs (ps.map Pt.dat)) (hx:xs[i]? = some x):∃ p,ps[i]? = some p/\Den K H x p.dat:=by
 obtain ⟨d,hd,kX⟩:=h.get hx;rw [N1] at hd;cases e:ps[i]? with
 | none=>rw [e] at hd;cases hd
 | some p=>rw [e] at hd;cases hd;exact ⟨p,rfl,kX⟩
theorem cY {ws:List Str}{i:Nat}{y:V} (h:(ws.map V.str)[i]? = some y):∃ w,ws[i]? = some w/\y = .str w:=by
 rw [N1] at h;cases e:ws[i]? with
 | none=>rw [e] at h;cases h
 | some w=>rw [e] at h;cases h;exact ⟨w,rfl,rfl⟩
theorem Hc {K:PySem.W.Frag}{H0 H4 H':Hp} (ll:LL H0 H4) (s:af H4 H') {v:V}{pt:Pt} (h:Den K H4 v pt.dat):Den K (lim H0 H') v pt.dat:=by
 cases pt with
 | word w=>obtain ⟨a,rfl,hq,q1,q2⟩:=mm h;exact .tup (hq.JV ll s) (.cons (.str q1) (.cons (.str q2) .nil))
 | hole k=>obtain ⟨a,rfl,hq,q1,q2⟩:=mm h;exact .tup (hq.JV ll s) (.cons (.str q1) (.cons (.str q2) .nil))
def bp (pss:List (List Pt)) (n:Nat):List Pt:=(List.range n).map λi=>lN (pss.map λps=>ps.getD i (.hole 2))
def qy (K:PySem.W.Frag):Sp:=λvs H Q _=>∃ (a:Addr) (xs:List V) (pss:List (List Pt)) (n:Nat),vs=[.ref a]/\SqL K H a xs/\aI K H xs (pss.map be)/\pss≠[]/\pss.length<=10000/\(∀ ps∈pss,POk ps/\ps.length=n) /\
 ∀ D acc H',H D=none->af H H'->H' D=some (.lst acc)->aI K (lim H H') acc ((bp pss n).map Pt.dat)->Q (.ref D) H'
theorem we (pss:List (List Pt)) (n:Nat):bp pss (n+1)=bp pss n++[lN (pss.map λps=>ps.getD n (.hole 2))]:=by simp [bp,List.range_succ]
theorem bO {K:PySem.W.Frag}{H:Hp}{xs:List V}{pss:List (List Pt)}{i:Nat}{x:V} (h:aI K H xs (pss.map be)) (hx:xs[i]? = some x):∃ ps,pss[i]? = some ps/\Den K H x (be ps):=by
 obtain ⟨d,hd,kX⟩:=h.get hx;rw [N1] at hd;cases e:pss[i]? with
 | none=>rw [e] at hd;cases hd
 | some p=>rw [e] at hd;cases hd;exact ⟨p,rfl,kX⟩
end LG
namespace LG
open PySem L2
def Pt.key:Pt->PyData
 | .word w=>.tuple [.int 0,.int w.length,.str w]
 | .hole k=>.tuple [.int 1,.int k,.str ""]
def gm (ps:List Pt):PyData:=.tuple [.int ps.length,.list (ps.map Pt.key)]
theorem Hr (pt:Pt):pt.key.depth<=5:=by cases pt <;> simp [Pt.key,PyData.depth,PyData.depthAll]
theorem Dj (ps:List Pt):(gm ps).depth<=100:=by
 have h:PyData.depthAll (ps.map Pt.key)<=5:=eJ _ λd hd=>by
  obtain ⟨pt,_,rfl⟩:=N5.mp hd;exact Hr pt
 simp only [gm,PyData.depth,PyData.depthAll];lia
def DX:Sh:=.cw .int (.cw .int (.cw .str .pZ))
def Bo:Sh:=.cw (.list DX) .pZ
theorem GA (pt:Pt):DX.has pt.key:=by
 cases pt with
 | word w=>exact ⟨_,_,rfl,⟨_,rfl⟩,_,_,rfl,⟨_,rfl⟩,_,_,rfl,⟨_,rfl⟩,rfl⟩
 | hole k=>exact ⟨_,_,rfl,⟨_,rfl⟩,_,_,rfl,⟨_,rfl⟩,_,_,rfl,⟨_,rfl⟩,rfl⟩
theorem Ax (ps:List Pt):(Sh.cw .int Bo).has (gm ps):=by
 refine ⟨_,_,rfl,⟨_,rfl⟩,_,_,rfl,⟨_,rfl,λx hx=>?_⟩,rfl⟩;obtain ⟨pt,_,rfl⟩:=N5.mp hx;exact GA pt
theorem GX {p q:Pt} (h:p.key=q.key):p=q:=by
 cases p with
 | word w=>
  cases q with
  | word w'=>simp [Pt.key] at h;rw [h.2]
  | hole k=>simp [Pt.key] at h
 | hole k=>
  cases q with
  | word w'=>simp [Pt.key] at h
  | hole k'=>
   simp [Pt.key] at h;have:k=k':=by lia
   rw [this]
theorem map_inj {α β:Type}{f:α->β} (hf:∀ a b,f a=f b->a=b):∀ {l l':List α},l.map f=l'.map f->l=l'
 | [],[],_=>rfl
 | [],_::_,h=>by simp at h
 | _::_,[],h=>by simp at h
 | a::r,b::r',h=>by
  rw [Oc,Oc] at h;injection h with h1 h2;rw [hf a b h1,map_inj hf h2]
theorem ET {ps qs:List Pt} (h:gm ps=gm qs):ps=qs:=by
 simp only [gm,PyData.tuple.injEq,List.cons.injEq,PyData.list.injEq,and_true] at h;exact map_inj (λa b=>GX) h.2
def lZ (l:List (List Pt)):Prop:=l.Pairwise λa b=>ltv (gm b) (gm a)=false
def sel (pss:List (List Pt)) (p:List Nat):List (List Pt):=p.map λi=>pss.getD i []
theorem Ea {pss:List (List Pt)}{p:List Nat} (hp:p.Perm (List.range pss.length)):(sel pss p).Perm pss:=by
 have h1:(sel pss p).Perm ((List.range pss.length).map λi=>pss.getD i []):=hp.map _
 rwa [eU] at h1
theorem zX {pss:List (List Pt)}{p:List Nat} (hp:p.Perm (List.range pss.length)) (h:fZ (pss.map gm) p):lZ (sel pss p):=by
 unfold fZ at h;unfold lZ sel;rw [List.pairwise_map] at h ⊢;refine h.imp_of_mem λ{i j} hi hj q=>?_;have hi':i<pss.length:=List.mem_range.mp (hp.mem_iff.mp hi);have hj':j<pss.length:=List.mem_range.mp (hp.mem_iff.mp hj);have e1:(pss.map gm).getD i .none=gm (pss.getD i []):=by simp [List.getD,NW hi']
 have e2:(pss.map gm).getD j .none=gm (pss.getD j []):=by simp [List.getD,NW hj']
 rw [e1,e2] at q;exact q
theorem lg {l l':List (List Pt)} (hp:l.Perm l') (h:lZ l) (h':lZ l'):l=l':=by
 refine map_inj (f:=gm) (λa b=>ET) ?_;refine ur (Sh.ok (.cw .int Bo)) (λx hx=>?_) (hp.map _) ?_ ?_
 ·obtain ⟨ps,_,rfl⟩:=N5.mp hx;exact Ax ps
 ·rw [List.pairwise_map];exact h
 ·rw [List.pairwise_map];exact h'
def A5 (H H':Hp) (acc:List V):Prop:=∀ x∈acc,∃ t ys,x = .ref t/\H t=none/\H' t=some (.lst ys)/\ys.length<=10000
def iT (K:PySem.W.Frag):Sp:=λvs H Q _=>∃ w,vs=[.str w]/\LOk w/\∀ p,H p=none->Q (.ref p) (upd H p (.tup [.int w.length,.str w]))
def qY (K:PySem.W.Frag):Sp:=λvs H Q _=>∃ v pt,vs=[v]/\Den K H v (Pt.dat pt)/\pt.ok/\∀ r H',af H H'->Den K (lim H H') r pt.key->Q r H'
def kY (K:PySem.W.Frag):Sp:=λvs H Q _=>∃ v ps,vs=[v]/\Den K H v (be ps)/\POk ps/\∀ r H',af H H'->Den K (lim H H') r (gm ps)->Q r H'
def g9 (K:PySem.W.Frag):Sp:=λvs H Q _=>∃ a xs pss,vs=[.ref a]/\SqL K H a xs/\xs.length<64/\aI K H xs (pss.map be)/\(∀ ps∈pss,POk ps) /\
 ∀ D acc H' l,H D=none->af H H'->H' D=some (.lst acc)->l.Perm pss->lZ l->A5 H H' acc->(∀ x∈acc,x ≠ .ref D)->aI K (lim H H') acc (l.map be)->Q (.ref D) H'
theorem FR {K:PySem.W.Frag}{H:Hp}{xs:List V}{pss:List (List Pt)}{p:List Nat}{i:Nat}{x:V} (hds:aI K H xs (pss.map be)) (hp:p.Perm (List.range pss.length)) (hx:(picked xs p)[i]? = some x) :
  ∃ ps,(sel pss p)[i]? = some ps/\ps∈pss/\Den K H x (be ps):=by
 unfold picked at hx;rw [N1] at hx;cases e:p[i]? with
 | none=>rw [e] at hx;cases hx
 | some j=>
  rw [e] at hx;cases hx;have hj:j<pss.length:=List.mem_range.mp (hp.mem_iff.mp (NV e));have hd:=hds.EL j (by rw [NU];exact hj);have e1:pss[j]? = some pss[j]:=NW hj;refine ⟨pss[j],?_,List.getElem_mem hj,?_⟩
  ·unfold sel;rw [N1,e];simp [List.getD,e1]
  ·have e2:(pss.map be).getD j .none=be pss[j]:=by simp [List.getD,e1]
   rw [<-e2];exact hd
theorem ID {m:Nat} (hm:m<3):eqV (([.str "number",.str "name",.str "any"]:List V).getD m .non) (.str (bK m))=true:=by
 match m,hm with
 | 0,_=>decide +kernel
 | 1,_=>decide +kernel
 | 2,_=>decide +kernel
theorem Kb {m:Nat} (hm:m<3):∀ i,i<m->eqV (([.str "number",.str "name",.str "any"]:List V).getD i .non) (.str (bK m))=false:=by
 match m,hm with
 | 0,_=>intro i hi;lia
 | 1,_=>
  intro i hi;have:i=0:=by lia
  subst this;decide +kernel
 | 2,_=>
  intro i hi;have:i=0\/i=1:=by lia
  rcases this with rfl | rfl <;> decide +kernel
theorem GG:([.str "number",.str "name",.str "any"]:List V).all gy=true:=rfl
theorem Eo {K:PySem.W.Frag}{H H0 H':Hp} (s1:af H H0) (s2:af H H') {v:V}{pt:Pt} (h:Den K H v pt.dat):Den K (lim H0 H') v pt.dat:=by
 cases pt with
 | word w=>obtain ⟨a,rfl,hq,q1,q2⟩:=mm h;exact .tup (hq.lim s1 s2) (.cons (.str q1) (.cons (.str q2) .nil))
 | hole k=>obtain ⟨a,rfl,hq,q1,q2⟩:=mm h;exact .tup (hq.lim s1 s2) (.cons (.str q1) (.cons (.str q2) .nil))
theorem xh {K:PySem.W.Frag}{H H0 H':Hp} (s1:af H H0) (s2:af H H'):∀ {ps:List Pt}{xs:List V},aI K H xs (ps.map Pt.dat)->aI K (lim H0 H') xs (ps.map Pt.dat)
 | [],_,h=>by cases h;exact .nil
 | pt::r,_,h=>by
  cases h with
  | cons h1 t=>exact .cons (Eo s1 s2 h1) (xh s1 s2 t)
def looseD (ps:List Pt):PyData:=.list (ps.map λp=>.int p.loose)
theorem uN {K:PySem.W.Frag}{H:Hp}:∀ {ps:List Pt},aI K H (ps.map λp=>V.int p.loose) (ps.map λp=>PyData.int p.loose)
 | []=>.nil
 | p::r=>.cons (.int _) uN
theorem sM (ps:List Pt):(Sh.list .int).has (looseD ps):=by
 refine ⟨_,rfl,λx hx=>?_⟩;obtain ⟨p,_,rfl⟩:=N5.mp hx;exact ⟨_,rfl⟩
theorem B8 (ps:List Pt):(looseD ps).depth<=100:=by
 have h:PyData.depthAll (ps.map λp=>PyData.int p.loose)<=0:=eJ _ λd hd=>by
  obtain ⟨p,_,rfl⟩:=N5.mp hd;exact NX _
 simp only [looseD,PyData.depth];lia
def A8 (l:List (List Pt)) (ps:List Pt):Prop:=ps∈l/\∀ q∈l,ltv (looseD q) (looseD ps)=false/\(looseD q=looseD ps->ltv (gm q) (gm ps)=false)
theorem E5 {l:List (List Pt)} (hl:l≠[]) (ho:lZ l):∃ ps,l[bz (l.map looseD)]? = some ps/\A8 l ps:=by
 obtain ⟨d,hd,h1,h2⟩:=jT (Sh.ok (.list .int)) (all:=l.map looseD) (λd hd=>by obtain ⟨ps,_,rfl⟩:=N5.mp hd;exact sM ps) (by intro z;exact hl (List.map_eq_nil_iff.mp z));rw [N1] at hd;cases e:l[bz (l.map looseD)]? with
 | none=>rw [e] at hd;cases hd
 | some ps=>
  rw [e] at hd;cases hd;refine ⟨ps,rfl,NV e,λq hq=>?_⟩;obtain ⟨m,hm⟩:=List.getElem?_of_mem hq;have hm':(l.map looseD)[m]? = some (looseD q):=by rw [N1,hm];rfl
  refine ⟨h1 m _ hm',λheq=>?_⟩;rcases Nat.lt_trichotomy m (bz (l.map looseD)) with z | z | z
  ·have:=h2 m _ z hm';rw [heq,(Sh.ok (.list .int)).irr _ (sM ps)] at this;cases this
  ·rw [z,e] at hm;cases hm;exact (Sh.ok (.cw .int Bo)).irr _ (Ax _)
  ·have hlt:m<l.length:=aF hm;have Ke:bz (l.map looseD)<l.length:=aF e;have:=List.pairwise_iff_getElem.mp ho _ m Ke hlt z;rw [NW hlt] at hm;rw [NW Ke] at e;cases hm;cases e;exact this
def lE (z:Str) (ps:List Pt):Bool:=aD ps (Txt.split z " ")
def HC (K:PySem.W.Frag) (H H':Hp) (l:List (List Pt)) (r:V):Prop:=(l=[]/\r = .non)\/∃ (t:Addr) (ys:List V) (ps:List Pt),r = .ref t/\H t=none/\H' t=some (.lst ys)/\A8 l ps/\Den K (lim H H') r (be ps)
def l6 (K:PySem.W.Frag):Sp:=λvs H Q _=>∃ (z:Str) (a:Addr) (xs:List V) (pss:List (List Pt)),vs=[.str z,.ref a]/\SqL K H a xs/\xs.length<64/\aI K H xs (pss.map be)/\(∀ ps∈pss,POk ps)/\LOk z/\PyData.strOk z=true /\
 ∀ r H',af H H'->HC K H H' (pss.filter (lE z)) r->Q r H'
end LG
namespace LG
open PySem L2 PySem.Builtin PySem.Builtin.Str
def Dk (H:Hp) (d:Addr) (n:Nat):Prop:=∃ a b c:Int,H d=some (.lst [.int a,.int b,.int c])/\0<=a/\0<=b/\b<2147483579/\0<=c/\c<=n
theorem Dk.mono {H:Hp}{d:Addr}{n m:Nat} (h:Dk H d n) (hm:n<=m):Dk H d m:=by
 obtain ⟨a,b,c,h1,h2,h3,h4,h5,h6⟩:=h;exact ⟨a,b,c,h1,h2,h3,h4,h5,by lia⟩
theorem Dk.lst {H:Hp}{d:Addr}{n:Nat} (h:Dk H d n):∃ ys,H d=some (.lst ys):=by
 obtain ⟨a,b,c,h1,_⟩:=h;exact ⟨_,h1⟩
theorem Dk.same {H H':Hp}{d:Addr}{n:Nat} (h:Dk H d n) (s:af H H'):Dk H' d n:=by
 obtain ⟨a,b,c,h1,h2⟩:=h;exact ⟨a,b,c,s _ _ h1,h2⟩
theorem Dk.upd {H:Hp}{d D:Addr}{n:Nat}{o:HO} (h:Dk H d n) (hne:d≠D):Dk (upd H D o) d n:=by
 obtain ⟨a,b,c,h1,h2⟩:=h;exact ⟨a,b,c,by rw [ay hne];exact h1,h2⟩
theorem Dk.ne {H:Hp}{d p:Addr}{n:Nat} (h:Dk H d n) (hp:H p=none):d≠p:=by
 obtain ⟨ys,h1⟩:=h.lst;exact ao h1 hp
theorem fh {H H':Hp}{d p:Addr}{o:HO} (s:af (wo d H) H') (h:H p=some o) (hne:d≠p):H' p=some o:=s p o (by rw [aT (Ne.symm hne)];exact h)
theorem nX {l:List Str}{r:Int} (h0:0<=r) (h1:r<l.length):∃ x∈l,atI (l.map V.str) r=some (.str x):=by
 obtain ⟨j,rfl⟩:=Int.eq_ofNat_of_zero_le (h0:(0:Int)<=r);have hj:j<l.length:=by lia
 exact ⟨l[j],List.getElem_mem hj,bA (by rw [N1,NW hj];rfl)⟩
theorem Gz {z:Str}{r:Int} (h0:0<=r) (h1:r<z.length):∃ (c i:Nat),atI z.cps.toList r=some c/\z.cps[i]? = some c:=by
 obtain ⟨j,rfl⟩:=Int.eq_ofNat_of_zero_le (h0:(0:Int)<=r);have hj:j<z.cps.size:=by have:z.length=z.cps.size:=rfl;lia
 exact ⟨z.cps[j],j,bA (by rw [Array.getElem?_toList,Array.getElem?_eq_getElem hj]),Array.getElem?_eq_getElem hj⟩
theorem Ij {n:Nat}{i:Int} (h0:0<=i) (h1:i<n):ixN n i=some i.toNat:=by
 unfold ixN;rw [if_pos h0,if_pos h1]
theorem oA {xs:List V}{i:Int} (h:0<=i):jD xs none (some i)=xs.take i.toNat:=by
 unfold jD;have h1:HT.sIx xs.length 0 none=0:=by simp [HT.sIx]
 rw [h1];obtain ⟨j,rfl⟩:=Int.eq_ofNat_of_zero_le (h:(0:Int)<=i);rw [HT.wN,Int.toNat_natCast,List.drop_zero,Nat.sub_zero];rcases Nat.le_total j xs.length with q | q
 ·rw [Nat.min_eq_left q]
 ·rw [Nat.min_eq_right q,NZ (NX _),NZ q]
structure WOk (w:Str):Prop where
 word:bW w=true
 len:w.length<=5
 ok:PyData.strOk w=true
theorem r9:sgn 32=false:=by decide
theorem WOk.blank {w:Str} (h:WOk w):32∉w.cps.toList:=λq=>by
 have h1:=h.word;unfold bW cA at h1;rw [Oa,List.all_eq_true] at h1;have:=h1.2 32 q;rw [r9] at this;cases this
def zh:List Str:=["get","put","a"]
def zJ:List Str:=["0","7","12","-3","007"]
def zv:List Str:=["id=4","<any>","=","x1","-","A","<","none"]
def zF:List Str:=["abcdefghijklmnopqrstuvwxyz","0123456789","-09az","!\"#$&'()*+,-./:;<=>?@AZ[\\]^_{|}~"]
theorem w1:∀ x∈zh,bW x=true/\x.length<=5/\PyData.strOk x=true:=by decide +kernel
theorem w2:∀ x∈zJ,bW x=true/\x.length<=5/\PyData.strOk x=true:=by decide +kernel
theorem w3:∀ x∈zv,bW x=true/\x.length<=5/\PyData.strOk x=true:=by decide +kernel
theorem w4:∀ x∈zF,PyData.strOk x=true/\x.length<=100/\0<x.length/\x.cps.toList.all sgn=true:=by decide +kernel
theorem CY {p:Nat->Prop}{y:Str} (hy:∀ c∈y.cps,p c):∀ (xs:List Str) (acc:Array Nat),(∀ x∈xs,∀ c∈x.cps,p c)->(∀ c∈acc,p c)->(∀ c∈xs.foldl (λacc q=>acc++y.cps++q.cps) acc,p c)/\acc.size<=(xs.foldl (λacc q=>acc++y.cps++q.cps) acc).size
 | [],acc,_,h=>⟨h,NX _⟩
 | x::r,acc,hx,h=>by
  have ih:=CY hy r (acc++y.cps++x.cps) (λz hz=>hx z (NY _ hz)) λc hc=>by
   rcases Array.mem_append.mp hc with hc | hc
   ·rcases Array.mem_append.mp hc with hc | hc
    ·exact h c hc
    ·exact hy c hc
   ·exact hx x (N4 ..) c hc
  refine ⟨ih.1,N2 ?_ ih.2⟩;rw [Array.size_append,Array.size_append];lia
theorem Ct {l:List Str} (hn:1<=l.length) (hl:l.length<=4) (h:∀ y∈l,PyData.strOk y=true/\y.length<=1/\∃ c,y=⟨#[c]⟩/\sgn c=true):WOk (Txt.join "" l):=by
 have hj:=n5 (y:= "") (m:=1) (by decide +kernel) (λy hy=>⟨(h y hy).1,(h y hy).2.1⟩);have h0:(("" : Str)).length=0:=rfl;rw [h0] at hj;refine ⟨?_,by lia,hj.1⟩;cases l with
 | nil=>simp at hn
 | cons x r=>
  have hx:=h x (N4 ..);obtain ⟨c,hxc,hsc⟩:=hx.2.2;have hp:=CY (p:=λc=>sgn c=true) (y:= "") (λc hc=>by rw [show (Str.ofString "").cps = #[] from rfl] at hc;simp at hc) r x.cps (λy hy c hc=>by
   obtain ⟨c',rfl,h'⟩:=(h y (NY _ hy)).2.2;simp at hc;subst hc;exact h') (λc hc=>by
   subst hxc;simp at hc;subst hc;exact hsc)
  have e:(Txt.join "" (x::r)).cps=r.foldl (λacc q=>acc++(("" : Str)).cps++q.cps) x.cps:=rfl;unfold bW cA;rw [e,Oa];constructor
  ·have hs:1<=(r.foldl (λacc q=>acc++(("" : Str)).cps++q.cps) x.cps).size:=N2 (by subst hxc;simp) hp.2;cases q:(r.foldl (λacc q=>acc++(("" : Str)).cps++q.cps) x.cps).toList with
   | nil=>rw [<-Array.length_toList,q] at hs;simp at hs
   | cons a b=>rfl
  ·rw [List.all_eq_true];intro c hc;exact hp.1 c (by simpa using hc)
def og (K:PySem.W.Frag):Sp:=λvs H Q _=>∃ c:Int,vs=[.int c,.int 0]/\∀ d H',H d=none->af H H'->Dk H' d 0->Q (.ref d) H'
def gH (K:PySem.W.Frag):Sp:=λvs H Q _=>∃ (d:Addr) (m:Int) (n:Nat),vs=[.ref d,.int m]/\Dk H d n/\n<1000000/\0<m/\m<1000000/\∀ (r:Int) H',af (wo d H) H'->Dk H' d (n+1)->0<=r->r<m->Q (.int r) H'
def kq (K:PySem.W.Frag):Sp:=λvs H Q _=>∃ (d:Addr) (n:Nat),vs=[.ref d]/\Dk H d n/\n<900000/\∀ (x:Str) H',af (wo d H) H'->Dk H' d (n+6)->WOk x->Q (.str x) H'
structure lK (m:Nat) (x:Str) (ws:List Str):Prop where
 eq:x=Txt.join " " ws
 pos:1<=ws.length
 le:ws.length<=m
 wd:∀ w∈ws,WOk w
theorem lK.split {m:Nat}{x:Str}{ws:List Str} (h:lK m x ws):Txt.split x " " = ws:=by
 rw [h.eq];exact nC (by intro e;have:=h.pos;rw [e] at this;simp at this) λw hw=>(h.wd w hw).blank
theorem lK.ok {m:Nat}{x:Str}{ws:List Str} (h:lK m x ws) (hm:m<=12):PyData.strOk x=true/\x.length<=72:=by
 have hj:=n5 (y:= " ") (m:=5) (by decide +kernel) (λy hy=>⟨(h.wd y hy).ok,(h.wd y hy).len⟩);have h1:((" " : Str)).length=1:=rfl;rw [h1,<-h.eq] at hj;have:=h.le;exact ⟨hj.1,by lia⟩
def o7 (K:PySem.W.Frag):Sp:=λvs H Q _=>∃ (d:Addr) (m:Int) (n:Nat),vs=[.ref d,.int m]/\Dk H d n/\n<800000/\0<m/\m<13/\∀ (x:Str) (ws:List Str) H',af (wo d H) H'->Dk H' d (n+80)->lK m.toNat x ws->Q (.str x) H'
def Drawn (w:Str) (p:Pt):Prop:=p = .word w\/(p = .hole (yB w.cps.toList)/\yB w.cps.toList<2)\/p = .hole 2
end LG
namespace LG
open PySem L2
structure ym (ws:List Str):Prop where
 pos:1<=ws.length
 le:ws.length<=12
 wd:∀ w∈ws,WOk w
theorem ym.line {ws:List Str} (h:ym ws):lK 12 (Txt.join " " ws) ws:=⟨rfl,h.pos,h.le,h.wd⟩
def mQ (K:PySem.W.Frag):Sp:=λvs H Q _=>∃ (d:Addr) (m:Int) (n:Nat),vs=[.ref d,.int m]/\Dk H d n/\n<700000/\0<=m/\m<=60 /\
 ∀ D (ls:List Str) H',H D=none->af (wo d H) H'->Dk H' d (n+2000)->H' D=some (.lst (ls.map V.str))->(∀ x∈ls,∃ ws,lK 12 x ws)->ls.length<=m.toNat->Q (.ref D) H'
def Jp (Hs:Hp) (acc:List V):Prop:=∀ x∈acc,∃ (s:Addr) (ws:List Str),x = .ref s/\Hs s=some (.lst (ws.map V.str))/\ym ws
theorem Gs {r:Int} (h0:0<=r) (h1:r<3):∃ v:Int,atI [V.int 3,V.int 6,V.int 12] r=some (.int v)/\0<v/\v<13:=by
 have:r=0\/r=1\/r=2:=by lia
 rcases this with rfl | rfl | rfl
 ·exact ⟨3,rfl,by decide,by decide⟩
 ·exact ⟨6,rfl,by decide,by decide⟩
 ·exact ⟨12,rfl,by decide,by decide⟩
theorem ym.set {ws:List Str} (h:ym ws) {i:Nat}{x:Str} (hx:WOk x):ym (ws.set i x):=by
 refine ⟨by rw [List.length_set];exact h.pos,by rw [List.length_set];exact h.le,λw hw=>?_⟩;rcases List.mem_or_eq_of_mem_set hw with q | q
 ·exact h.wd w q
 ·rw [q];exact hx
end LG
namespace L2
open PySem PySem.Spec PyProof.Rows
section
variable {X:Cx}
end
section
open PySem.SeqAt
open PySem.AutoSeq1 (wpAny_loadPart')
open PySem.MeetsSeq PySem.MeetsSeq2 PySem.MeetsSeq3
end
section
open PySem.SeqAt
open PySem.MeetsSeq PySem.MeetsSeq2 PySem.MeetsSeq3
variable {X:Cx}
end
section
variable {X:Cx}
def Kx (K:PySem.W.Frag) (neg:Bool):R2:=λx y H Q=>∃ (xs:List PyData) (d:PyData),Den K H y (.list xs)/\Den K H x d/\d.depth<=100/\Q (.bl (if neg then !xs.any λe=>PyData.eqv e d else xs.any λe=>PyData.eqv e d)) H
theorem FT {k:Nat}{A:Around} (hr:cC k A) {a b:Nat} (h:b<=100):A.units+1+min a b<cLine:=by
 have h1:=hr.un;have h2:=Nat.min_le_right a b;lia
theorem BQ {k:Nat} (hr:cC k X.A):OpR X (compareOp .NotIn) (Kx X.K true):=by
 intro pins s σ H x y v u Q I rx ry h;obtain ⟨xs,d,dy,dx,hd,q⟩:=h;obtain ⟨as1,r1⟩:=I.reads dy ry;obtain ⟨as2,r2⟩:=I.reads dx rx;exact SeqAt.notIn_list_reads r1 r2 (by simpa [PyData.canLay0] using dy.lay) dx.lay (FT hr hd) ⟨.bl _,H,I,rfl,q⟩
end
end L2
namespace LG
open PySem L2
structure Nn (ws:List Str) (ps:List Pt):Prop where
 ok:POk ps
 len:ps.length=ws.length
 takes:∀ (i:Nat) w p,ws[i]? = some w->ps[i]? = some p->p.takes w=true
theorem mq {ps qs:List Pt} (h:aC ps qs=true) {i:Nat}{p q:Pt} (hp:ps[i]? = some p) (hq:qs[i]? = some q):p.within q=true:=by
 unfold aC at h;rw [Oa,List.all_eq_true] at h;exact h.2 (p,q) (NV (i:=i) (by rw [List.getElem?_zip_eq_some];exact ⟨hp,hq⟩))
theorem nz {ps qs:List Pt} (h:aC ps qs=true):ps.length=qs.length:=by
 unfold aC at h;rw [Oa,decide_eq_true_eq] at h;exact h.1
theorem EE (ps:List Pt):(Sh.list Gw).has (be ps):=by
 refine ⟨_,rfl,λx hx=>?_⟩;obtain ⟨pt,_,rfl⟩:=N5.mp hx;exact Fu pt
def eC (K:PySem.W.Frag):Sp:=λvs H Q _=>∃ (u v:V) (ps qs:List Pt),vs=[u,v]/\Den K H u (be ps)/\Den K H v (be qs)/\POk ps/\POk qs/\ps≠[]/\∀ H',af H H'->Q (.bl true) H'
section
variable {K:PySem.W.Frag}{H0 H H':Hp}{d S:Addr}{ws:List Str}{n n' m:Nat}{xs:List V}{pss:List (List Pt)}
end
end LG
namespace L2
open PySem PySem.Spec PyProof.Rows PySem.MeetsSeq PySem.MeetsSeq2 PySem.MeetsSeq3
section
variable {X:Cx}
def vH (K:PySem.W.Frag):R2:=λx y H Q=>∃ l b xs zs,x = .ref l/\y = .ref b/\SqL K H l xs/\SqL K H b zs/\xs.length+zs.length<=sizeLine/\∀ p,H p=none->Q (.ref p) (upd H p (.lst (xs++zs)))
theorem oX:OpR X (binaryOp .Add) (vH X.K):=by
 intro pins s σ H x y v u Q I rx ry h;obtain ⟨l,b,xs,zs,rfl,rfl,hl,hb,hz,q⟩:=h;cases rx;cases ry;obtain ⟨its,r,pl,h1⟩:=I.list hl;obtain ⟨jts,r2,pl2,h2⟩:=I.list hb;have l1:=r.length;have l2:=r2.length;obtain ⟨⟨cls,dd,data,sl⟩,n,ho,hc,_,hd⟩:=pl;obtain ⟨⟨Lb,dd2,data2,sl2⟩,n2,ho2,hc2,_,hd2⟩:=pl2;simp only at hc hd hc2 hd2;subst hc hd hc2 hd2;have ea:its.toArray++jts.toArray=(its++jts).toArray:=by simp
 refine concat_meets ⟨_,ho,rfl⟩ ⟨_,ho2,rfl⟩ noFill_list_add seq_list_add PySem.F.slot_list_add PySem.F.entry_list_add (PySem.F.args_list_add_2 _ _) (list_addW l b its.toArray jts.toArray n n2 dd dd2 sl sl2 (by simp;lia)) ⟨ho,ho2,?_⟩;rw [ea];exact ⟨.ref _,_,I.Ms (t':=s.toks) (r.append r2) (by rw [List.length_append];lia),rfl,q _ I.fresh⟩
end
end L2
namespace LG
open PySem L2
def wU (K:PySem.W.Frag):Sp:=λvs H Q _=>∃ (a:Addr) (ns:List Int),vs=[.ref a]/\SqL K H a (ns.map V.int)/\ns.length<=63/\∀ H',Q (.bl true) H'
def oD:Option (List Pt)->PyData
 | none=>.none
 | some ps=>be ps
structure Jg (l:List (List Pt)) (o:Option (List Pt)):Prop where
 nil:o=none↔l=[]
 least:∀ ps,o=some ps->A8 l ps
theorem Gg {K:PySem.W.Frag}{H H':Hp}{l:List (List Pt)}{r:V} (h:HC K H H' l r):∃ o,Den K H' r (oD o)/\Jg l o/\decide (r = .non)=o.isNone:=by
 rcases h with ⟨hl,rfl⟩ | ⟨t,ys,ps,rfl,_,_,hls,hd⟩
 ·exact ⟨none,.non,⟨⟨λ_=>hl,λ_=>rfl⟩,λps h=>by cases h⟩,by simp⟩
 ·refine ⟨some ps,hd.same cg,⟨⟨(λh=>by cases h),λh=>?_⟩,(λqs h=>by cases h;exact hls)⟩,by simp⟩;have:=hls.1;rw [h] at this;cases this
theorem tU (pss:List (List Pt)):(PyData.list (pss.map be)).depth<=100:=by
 have h:PyData.depthAll (pss.map be)<=90:=eJ _ λd hd=>by
  obtain ⟨ps,_,rfl⟩:=N5.mp hd;exact jA ps
 simp only [PyData.depth];lia
theorem p9 {K:PySem.W.Frag}{H:Hp}:∀ (n:Nat) {xs:List V}{ds:List PyData},aI K H xs ds->aI K H (xs.take n) (ds.take n)
 | 0,_,_,_=>by simp;exact .nil
 | n+1,_,_,.nil=>by simp;exact .nil
 | n+1,_,_,.cons h t=>.cons h (p9 n t)
end LG
namespace L2
open PySem PySem.Spec PyProof.Rows
section
variable {prog:Program}{w:World}{A:Around}{E:Value->Shared->Prop}{s:Shared}
theorem Ao:isSubtype (.type "range_iterator") (.type "reversed")=pure false:=by rw [isSubtype_type];kernel_rfl
theorem ints3 {r:Addr}{a b c:Int}{t u v:Tok}{Q:Int×Int×Int->Shared->Prop} (hr:s.heap.get? r=some { cls:=.type "range",data:=.fields #[.int a t,.int b u,.int c v] }) (h:Q (a,b,c) s) :
  wpAny (model prog w) A (Builtin.Range.rangeFields (.ref r)) Q E s:=by
 unfold Builtin.Range.rangeFields;refine wpAny_bind (wpAny_field hr rfl (x:=.int a t) rfl ?_);refine wpAny_bind (wpAny_of_eq (a:=some a) rfl ?_);refine wpAny_bind (wpAny_field hr rfl (x:=.int b u) rfl ?_);refine wpAny_bind (wpAny_of_eq (a:=some b) rfl ?_);refine wpAny_bind (wpAny_field hr rfl (x:=.int c v) rfl ?_);refine wpAny_bind (wpAny_of_eq (a:=some c) rfl ?_);exact wpAny_pure h
theorem jm {i:Int} (h1 : -(2 ^ 63)<=i) (h2:i<2 ^ 63):Builtin.Range.rangeFitsLong i=true:=by
 unfold Builtin.Range.rangeFitsLong;rw [Oa,decide_eq_true_eq,decide_eq_true_eq];exact ⟨h1,h2⟩
theorem EA {r:Addr}{n:Nat}{t u v:Tok}{Q:Value->Shared->Prop} (hn:n<2 ^ 62) (hr:s.heap.get? r=some { cls:=.type "range",data:=.fields #[.int 0 t,.int n u,.int 1 v] })
  (h:Q (.ref s.heap.objs.size) { s with heap:=s.heap.push { cls:=.type "range_iterator",data:=.fields #[rawInt ((n:Int) - 1),rawInt n,rawInt (-1)] } }) :
  wpAny (model prog w) A (call (.builtin "range.__reversed__") [.ref r]) Q E s:=by
 refine wpAny_call_entry F.slot_range_reversed ⟨_,hr,rfl⟩ F.entry_range_reversed ?_ (F.args_range_reversed_1 _);unfold Builtin.«range.__reversed__»;refine wpAny_bind (wpAny_of_eq (a:=Value.ref r) rfl ?_);refine wpAny_bind (ints3 hr ?_);have hz:Builtin.Range.rangeSize 0 (n:Int) 1=n:=by unfold Builtin.Range.rangeSize;rw [if_pos (by decide)];split <;> lia
 dsimp only;rw [hz];have f:(Builtin.Range.rangeFitsLong 0 && Builtin.Range.rangeFitsLong (n:Int) && Builtin.Range.rangeFitsLong 1 && Builtin.Range.rangeFitsLong (-1) && Builtin.Range.rangeFitsLong (0 - 1) && Builtin.Range.rangeFitsLong (n:Int))=true:=by
  rw [jm (i:=0) (by decide) (by decide),jm (i:=(n:Int)) (by lia) (by lia),jm (i:=1) (by decide) (by decide),jm (i:=-1) (by decide) (by decide),jm (i:=0 - 1) (by decide) (by decide)];rfl
 rw [f];have e:(0:Int)+((n:Int) - 1) * 1=(n:Int) - 1:=by lia
 rw [e];exact wpAny_bind (wpAny_newObj_type (wpAny_pure ⟨_,rfl,h⟩))
theorem Hd {r:Addr}{n:Nat}{t u v:Tok}{Q:Value->Shared->Prop} (hn:n<2 ^ 62) (hr:s.heap.get? r=some { cls:=.type "range",data:=.fields #[.int 0 t,.int n u,.int 1 v] })
  (h:Q (.ref s.heap.objs.size) { s with heap:=s.heap.push { cls:=.type "range_iterator",data:=.fields #[rawInt ((n:Int) - 1),rawInt n,rawInt (-1)] } }) :
  codeAny (model prog w) A (.call (.builtin "reversed.__new__") ⟨[.type "reversed",.ref r],[]⟩) (wants Q E) s:=by
 have slot:=F.slot_range_reversed;refine codeAny_of_tree (wpAny_bind (m:=checkBuiltinCall "reversed.__new__" ⟨[.type "reversed",.ref r],[]⟩) (wpAny_of_eq (F.newCall_reversed_1 _) (wpAny_pure (And.intro (plainId_quiet F.plain_reversed_new _) (codeAny_builtin F.entry_reversed_new ?_)))));rw [Around.under_plainId F.plain_reversed_new];show wpAny _ A.in1 (Builtin.«reversed.__new__» _) _ _ s;have quiet:∀ {R:Unit->Shared->Prop}{m:Sem Unit},m=pure ()->R () s->wpAny (model prog w) A.in1 m R (λx s2=>wants Q E (.error x) s2) s:=λe r=>wpAny_of_eq e r;unfold Builtin.«reversed.__new__»;refine wpAny_bind (wpAny_of_eq (newClass_reversed _) (wpAny_bind (quiet ?_ (wpAny_bind (quiet ?_ (wpAny_bind (wpAny_specialOf (T:= "range") ⟨_,hr,rfl⟩ slot.lookup (wpAny_bind (wpAny_of_eq (slot.bind _) ?_)))))))))
 ·first | rfl | kernel_rfl
 ·first | rfl | kernel_rfl
 dsimp only
 first
 | rw [if_neg (show ¬ ((Value.builtin "range.__reversed__" == Value.none)=true) from N6)]
 | (show wpAny _ _ (if (Value.builtin "range.__reversed__" == Value.none)=true then _ else _) _ _ _;rw [if_neg (show ¬ ((Value.builtin "range.__reversed__" == Value.none)=true) from N6)])
 refine wpAny_bind (wpAny_rule ?_);refine wpAny_bind (m:=runValue (.call (.builtin "range.__reversed__") ⟨[.ref r],[]⟩)) (show wpAny _ _ (call (.builtin "range.__reversed__") [.ref r]) _ _ _ from EA hn hr ?_)
 first
 | exact wpAny_pure h
 | exact (wpAny_bind <| wpAny_pure <| wpAny_pure h)
theorem tZ {r:Addr}{n:Nat}{t u v:Tok}{Q:Value->Shared->Prop} (hn:n<2 ^ 62) (hr:s.heap.get? r=some { cls:=.type "range",data:=.fields #[.int 0 t,.int n u,.int 1 v] })
  (h:Q (.ref s.heap.objs.size) { s with heap:=s.heap.push { cls:=.type "range_iterator",data:=.fields #[rawInt ((n:Int) - 1),rawInt n,rawInt (-1)] } }) :
  wpAny (model prog w) A (call (.type "reversed") [.ref r]) Q E s:=by
 refine callType_other (U:= "range_iterator") (Q₁:=λobj s₁=>obj = .ref s.heap.objs.size/\s₁={ s with heap:=s.heap.push { cls:=.type "range_iterator",data:=.fields #[rawInt ((n:Int) - 1),rawInt n,rawInt (-1)] } }) (by decide +kernel) F.create_reversed ⟨_,_,F.mro_reversed⟩ F.made_reversed Ao (F.typeCall_reversed_1 _) (Hd hn hr ⟨rfl,rfl⟩) ?_;rintro obj s₁ ⟨rfl,rfl⟩;exact ⟨⟨_,Heap.get?_push_size _ rfl,rfl⟩,h⟩
end
theorem boot_reversed:(bootBuiltins "reversed") =
  some (Value.type "reversed"):=by decide +kernel
def Itd (n:Nat):It:=⟨λi _=>i<n,λi H x H'=>H' = H/\x = .int ((n:Int) - 1 - i),λi _=>n<=i⟩
theorem BL {P:Program}{w:World}{K:PySem.W.Frag}{tg:Expr} (it:Addr) (n:Nat):Turn P w K tg (Itd n) [it] it (λi h=>IsRangeIter h it (((n:Int) - 1)+(i:Nat) * (-1)) ((n:Int) - (i:Nat)) (-1)) where
 mem:=by simp
 obj:=λi h st b hb=>by
  have e:b=it:=by simpa using hb
  subst e;exact ⟨_,st,λv z=>by
   have z':Data.fields _=Data.cell v:=z;cases z'⟩
 keep:=λi h h' st k=>k it (by simp) _ st
 item:=by
  intro X hP hw hK hc i pins s σ H E I hf st hg;subst hP hw hK;obtain ⟨f0,f1,f2,f3,f4,f5⟩:=hf it (by simp);have W:=Walks.range (prog:=X.prog) (w:=X.w) (I.ok.hd hc) it ((n:Int) - 1) (-1) n;refine W.item i s _ _ hg st λv h' tk hv st' kk=>?_;obtain ⟨t,rfl⟩:=hv;have I1:Inv X pins σ H { s with heap:=h',toks:=tk }:=I.turned (λb o hb e=>kk b o (by simpa using hb) e) f0 f1 f3 f4 f5;refine ⟨_,rfl,xO (s:={ s with heap:=h',toks:=tk }) (n:= "range_iterator") st' rfl rfl (by decide) ⟨.int ((n:Int) - 1 - i),H,I1,⟨t,?_⟩,⟨rfl,rfl⟩,st',λb hb=>(hf b hb).1⟩⟩;rw [show (n:Int) - 1+(i:Int) * (-1)=(n:Int) - 1 - i by lia]
 done:=by
  intro X hP hw hK hc i pins s σ H E I hf st hg;subst hP hw hK;obtain ⟨f0,f1,f2,f3,f4,f5⟩:=hf it (by simp);exact wpAny_pyNext_range_end (I.ok.hd hc) st (by have:n<=i:=hg;lia) λh' eb=>⟨rfl,I.turned (t':=s.toks) (λb o hb e=>eb b o hb e) f0 f1 f3 f4 f5⟩
 self:=λ_ _ _ _ _ st h=>wpAny_pyIter_rangeiter st h
section
variable {X:Cx}{tg:Expr}
def K2 (ta:TA):TI:=λσ H R=>ta σ H λvs H1=>∃ n:Nat,vs=[.int n]/\n<2 ^ 62/\R (Itd n) H1
theorem GI {a:Expr}{ta:TA}{p p2 pos zB:Pos} (hg2:Gl X "reversed") (hm2:X.mg "reversed" = none) (hg:Gl X "range") (hm:X.mg "range" = none) (ha:PA X [a] ta) (hs:starEach [a] X.env=[(false,eval a X.env)]:=by rfl)
  (hs2:starEach [.Call (.Name "range" p) [a] [] pos] X.env=[(false,eval (.Call (.Name "range" p) [a] [] pos) X.env)]:=by rfl) :
  PI X tg (.Call (.Name "reversed" p2) [.Call (.Name "range" p) [a] [] pos] [] zB) (K2 ta):=by
 intro pins s σ H R I h;refine Call_ (eD I hg2 hm2 boot_reversed (PyProof.Rows.callWith_type1 ?_ hs2 rfl));rw [hs2];refine Calls.spliced_cons ?_;refine Call_ (eD I hg hm boot_range (PyProof.Rows.callWith_type1 (thn (ha pos pins s σ H _ I h) λus s1 ⟨vs,H1,I1,r1,q1⟩=>?_) hs rfl));obtain ⟨n,e,hn,q⟩:=q1;subst e;cases r1 with
 | cons r rr=>
  cases rr;obtain ⟨t,rfl⟩:=r;refine call_range_1 ?_;refine Calls.spliced_nil ?_;refine tZ hn (Heap.get?_push_size _ rfl) ?_;have k2:∀ (o o':Obj) (b:Addr) (u:Obj),s1.heap.get? b=some u->((s1.heap.push o).push o').get? b=some u:=λo o' b u e=>Heap.get?_push_of_some _ (Heap.get?_push_of_some _ e);have hz:∀ o:Obj,(s1.heap.push o).objs.size=s1.heap.objs.size+1:=λo=>Heap.size_push ..;have g:∀ (o o':Obj),o'.isFreed=false->((s1.heap.push o).push o').get? (s1.heap.push o).objs.size=some o':=λo o' e=>Heap.get?_push_size _ e;refine wpAny_pyIter_rangeiter (g _ _ rfl) ?_;refine ⟨_,[_],_,_,H1,rfl,I1.kept (λb u e=>k2 _ _ b u e),BL _ n,?_,λb hb=>?_,q⟩
  ·have e1:(n:Int) - 1+((0:Nat):Int) * (-1)=(n:Int) - 1:=by simp
   have e2:(n:Int) - ((0:Nat):Int)=(n:Int):=by simp
   show IsRangeIter _ _ ((n:Int) - 1+((0:Nat):Int) * (-1)) ((n:Int) - ((0:Nat):Int)) (-1);rw [e1,e2];exact g _ _ rfl
  ·have e:=N3.mp hb;subst e;exact I1.qZ (by rw [hz];exact Nat.le_succ _) (I1.hok.fresh (by rw [hz];exact Nat.le_succ _))
end
def EQ (g:TG) (tt:TT) (te:TE) (J:It) (D:Addr) (F:St->Hp->Prop) (σ:St) (H:Hp):Prop:=
 ∃ W:Nat->Nat->St->Hp->Prop,(∃ m,W 0 m σ H)/\∀ i m σ H,W i m σ H ->
  (J.stop i H/\F σ H)\/(J.go i H/\∃ N:St->Hp->Prop,(∀ σ' H',N σ' H'->∃ m',m' < m/\W (i+1) m' σ' H') /\
   ∀ x H',J.yld i H x H'->g x σ H' λσ2 H2=>tt σ2 H2 λb H3=>if b=true then te σ2 H3 λv H4=>∃ xs,H4 D=some (.lst xs)/\xs.length<sizeLine/\N σ2 (upd H4 D (.lst (xs++[v]))) else N σ2 H3)
def AG (g:TG) (tt:TT) (wi:TI) (g2:TG) (tt2:TT) (te:TE) (J:It) (D:Addr) (Q:VK) (σ:St) (H:Hp):Prop:=
 ∃ W:Nat->Nat->St->Hp->Prop,(∃ m,W 0 m σ H)/\∀ i m σ H,W i m σ H ->
  (J.stop i H/\Q (.ref D) H)\/(J.go i H/\∃ N:St->Hp->Prop,(∀ σ' H',N σ' H'->∃ m',m' < m/\W (i+1) m' σ' H') /\
   ∀ x H',J.yld i H x H'->g x σ H' λσ2 H2=>tt σ2 H2 λb H3=>if b=true then wi σ2 H3 λJ2 H4=>EQ g2 tt2 te J2 D N σ2 H4 else N σ2 H3)
def Eu (wi:TI) (g:TG) (tt:TT) (wi2:TI) (g2:TG) (tt2:TT) (te:TE) (n:Nat) (fi:List Nat):TE:=λσ H Q=>
 wi σ H λJ H1=>∀ D,H1 D=none->AG g tt wi2 g2 tt2 te J D Q (sub n fi σ) (upd H1 D (.lst []))
section
variable {X:Cx}{elt tg iter tg2 b7:Expr}{ifs gv:List Expr}{scope:Scope}{pos:Pos}
theorem xR {prog:Program}{w:World}{A:Around}{s:Shared}{R:Result->Shared->Prop}{it acc:Value}{env:Env}
  (h0:codeAny (model prog w) A (.compLoop (.ListComp elt [⟨tg,iter,ifs,0⟩,⟨tg2,b7,gv,0⟩] scope pos) 1 it acc env) R s)
  (h:wpAny (model prog w) A (pyIter it) (λit' s'=>codeAny (model prog w) A (.compLoop (.ListComp elt [⟨tg,iter,ifs,0⟩,⟨tg2,b7,gv,0⟩] scope pos) 1 it' acc env) R s')
   (notedBy (model prog w) A env (λx s2=>R (.error x) s2)) s) :
  codeAny (model prog w) A (.compStart (.ListComp elt [⟨tg,iter,ifs,0⟩,⟨tg2,b7,gv,0⟩] scope pos) 1 it acc env) R s:=by
 refine codeAny_of_tree (wpAny_notedAt (m:=compStart (.ListComp elt [⟨tg,iter,ifs,0⟩,⟨tg2,b7,gv,0⟩] scope pos) 1 it acc env) (pos:=theWindowsPlace) ?_);have direct:=λ(f:PySem.Fin->Shared->Prop) (hf:f (.again (.compLoop (.ListComp elt [⟨tg,iter,ifs,0⟩,⟨tg2,b7,gv,0⟩] scope pos) 1 it acc env)) s)=>(wpAny_pure hf:wpAny (model prog w) A (pure _) f (notedBy (model prog w) A env λx s2=>R (.error x) s2) s);unfold compStart;refine wpAny_bind (wpAny_askSetting (wpAny_ite ?_))
 split
 ·first
   | exact direct _ ⟨rfl,h0⟩
   | exact wpAny_bind (wpAny_pure (direct _ ⟨rfl,h0⟩))
 ·exact wpAny_bind (wpAny_rule (wpAny_bind (wpAny_standAt (wpAny_bind (wpAny_mono h (λit' s' h'=>wpAny_pure ⟨rfl,h'⟩) λ_ _ x=>x)))))
theorem zP {Y:Cx}{g:TG}{tt:TT}{te:TE}{J:It}{D it:Addr}{fp:List Addr}{tn:Nat->Heap->Prop}{F:St->Hp->Prop}{σ:St}{H:Hp}{s:Shared}{pins:List (Addr×Obj)} (hc:Y.calm=true) (hxe:∀ e s,¬ Y.xe e s)
  (hg:PG Y tg2 g) (hi:qm Y gv tt) (he:PE Y elt te) (T:Turn Y.prog Y.w Y.K tg2 J fp it tn) (I:Inv Y pins σ H s) (st:tn 0 s.heap) (hf:∀ b∈fp,b9 Y pins H b) (hw:EQ g tt te J D F σ H) :
  codeAny (model Y.prog Y.w) Y.A (.compLoop (.ListComp elt [⟨tg,iter,ifs,0⟩,⟨tg2,b7,gv,0⟩] scope pos) 1 (.ref it) (.ref D) Y.env) (λr s'=>r = .ok .next/\∃ σ' H',Inv Y pins σ' H' s'/\F σ' H') s:=by
 obtain ⟨W,⟨m0,w0⟩,turn⟩:=hw;have mU:∀ {H':Hp},(∀ b∈fp,H' b=none)->∀ b∈fp,b9 Y pins H' b:=λhn b hb=>⟨hn b hb,(hf b hb).2⟩;refine codeAny_loop rfl (λn s'=>∃ i σ' H',Inv Y pins σ' H' s'/\tn i s'.heap/\(∀ b∈fp,H' b=none)/\W i n σ' H') ?_ m0 ⟨0,σ,H,I,st,λb hb=>(hf b hb).1,w0⟩;rintro n s3 ⟨i,σ3,H3,I3,st3,fr3,w3⟩;show wpAny _ Y.A ((compTurn (.ListComp elt [⟨tg,iter,ifs,0⟩,⟨tg2,b7,gv,0⟩] scope pos) 1 (.ref it) (.ref D) Y.env).onRaise (λx=>do noteFrame x Y.env;theTreesLotGoes x)) _ _ s3;refine wpAny_noted ?_;show wpAny _ _ (standAt b7.pos >>= λ_=>pyNext (.ref it) >>= _) _ _ s3;refine wpAny_bind (wpAny_standAt ?_);refine wpAny_bind ?_;rcases turn i n σ3 H3 w3 with ⟨stop,qn⟩ | ⟨go,N,hN,step⟩
 ·refine thn (T.done Y rfl rfl rfl hc i pins s3 σ3 H3 _ I3 (mU fr3) st3 stop) λr s4 ⟨hr,I4⟩=>?_;subst hr;exact wpAny_pure ⟨rfl,σ3,H3,I4,qn⟩
 ·refine thn (T.item Y rfl rfl rfl hc i pins s3 σ3 H3 _ I3 (mU fr3) st3 go) λr s4 ⟨u,hr,h4⟩=>?_;subst hr;show wpAny _ _ (letOwnedTupleGo tg2 (.ref it) u >>= λ_=>assign tg2 Y.env u >>= λ_=>forIn gv true _ >>= _) _ _ s4;refine wpAny_bind (thn h4 λ_ s5 ⟨x,H5,I5,r5,y5,st5,fr5⟩=>?_);have I5':=I5.pinned (mU fr5) (T.obj _ _ st5);have j3:∀ {σ7:St}{H7:Hp}{s7:Shared},Inv Y (pins++nN fp s5.heap) σ7 H7 s7->N σ7 H7->∃ m,m<n/\∃ i σ' H',Inv Y pins σ' H' s7/\tn i s7.heap/\(∀ b∈fp,H' b=none)/\W i m σ' H':=λ{σ7 H7 s7} I7 n7=>by
   obtain ⟨m',hm,w7⟩:=hN σ7 H7 n7;refine ⟨m',hm,i+1,σ7,H7,I7.eX,T.keep _ _ _ st5 λb hb o e=>(I7.pin (b,o) (Od _ (Od _ (dc hb e)))).1,λb hb=>?_,w7⟩;obtain ⟨o,e,d⟩:=T.obj _ _ st5 b hb;exact (I7.pin (b,o) (Od _ (Od _ (dc hb e)))).2.1
  refine wpAny_bind (wpAny_mono (hg _ s5 σ3 H5 x u _ I5' r5 (step x H5 y5)) (λ_ s6 ⟨σ6,H6,I6,q6⟩=>?_) λe s' z=>(hxe e s' z).elim);refine wpAny_bind (wpAny_mono (hi _ s6 σ6 H6 _ I6 q6) (λok s7 ⟨H7,I7,q7⟩=>?_) λe s' z=>(hxe e s' z).elim);cases ok with
  | false=>
   exact wpAny_pure ⟨rfl,j3 I7 q7⟩
  | true=>
   refine wpAny_bind (wpAny_bind (wpAny_mono (he _ s7 σ6 H7 _ I7 q7) (λu8 s8 ⟨v8,H8,I8,r8,xs,e8,z8,n8⟩=>?_) λe s' z=>(hxe e s' z).elim));refine wpAny_bind (wpAny_mono (eM (X:=Y) _ s8 σ6 H8 (.ref D) [v8] (.ref D) [u8] (λ_ H9=>N σ6 H9) I8 rfl (.cons r8 .nil) ⟨D,xs,v8,rfl,rfl,e8,z8,n8⟩) (λu9 s9 h9=>?_) λe s' z=>(hxe e s' z).elim);obtain ⟨v9,H9,I9,_,n9⟩:=h9;exact wpAny_pure (wpAny_pure ⟨rfl,j3 I9 n9⟩)
theorem Aj {Y:Cx}{g g2:TG}{tt tt2:TT}{wi2:TI}{te:TE}{J:It}{D it:Addr}{fp:List Addr}{tn:Nat->Heap->Prop}{Qr:VK}{σ:St}{H:Hp}{s:Shared} (hc:Y.calm=true) (hxe:∀ e s,¬ Y.xe e s)
  (hg:PG Y tg g) (hi:qm Y ifs tt) (um:PI Y tg2 b7 wi2) (hg2:PG Y tg2 g2) (hi2:qm Y gv tt2) (he:PE Y elt te) (hs2:∀ x,foldedSetIterable b7 Y.env x=pure x) (T:Turn Y.prog Y.w Y.K tg J fp it tn) (I:Inv Y [] σ H s) (st:tn 0 s.heap) (hf:∀ b∈fp,b9 Y [] H b) (hw:AG g tt wi2 g2 tt2 te J D Qr σ H) :
  codeAny (model Y.prog Y.w) Y.A (.compLoop (.ListComp elt [⟨tg,iter,ifs,0⟩,⟨tg2,b7,gv,0⟩] scope pos) 0 (.ref it) (.ref D) Y.env) (λr s'=>r = .ok .next/\∃ σ' H',Inv Y [] σ' H' s'/\Qr (.ref D) H') s:=by
 obtain ⟨W,⟨m0,w0⟩,turn⟩:=hw;have mU:∀ {H':Hp},(∀ b∈fp,H' b=none)->∀ b∈fp,b9 Y [] H' b:=λhn b hb=>⟨hn b hb,(hf b hb).2⟩;refine codeAny_loop rfl (λn s'=>∃ i σ' H',Inv Y [] σ' H' s'/\tn i s'.heap/\(∀ b∈fp,H' b=none)/\W i n σ' H') ?_ m0 ⟨0,σ,H,I,st,λb hb=>(hf b hb).1,w0⟩;rintro n s3 ⟨i,σ3,H3,I3,st3,fr3,w3⟩;show wpAny _ Y.A ((compTurn (.ListComp elt [⟨tg,iter,ifs,0⟩,⟨tg2,b7,gv,0⟩] scope pos) 0 (.ref it) (.ref D) Y.env).onRaise (λx=>do noteFrame x Y.env;theTreesLotGoes x)) _ _ s3;refine wpAny_noted ?_;show wpAny _ _ (standAt iter.pos >>= λ_=>pyNext (.ref it) >>= _) _ _ s3
 (refine wpAny_bind (wpAny_standAt (wpAny_bind ?_)))
 rcases turn i n σ3 H3 w3 with ⟨stop,qn⟩ | ⟨go,N,hN,step⟩
 ·refine thn (T.done Y rfl rfl rfl hc i [] s3 σ3 H3 _ I3 (mU fr3) st3 stop) λr s4 ⟨hr,I4⟩=>?_;subst hr;exact wpAny_pure ⟨rfl,σ3,H3,I4,qn⟩
 ·refine thn (T.item Y rfl rfl rfl hc i [] s3 σ3 H3 _ I3 (mU fr3) st3 go) λr s4 ⟨u,hr,h4⟩=>?_;subst hr;show wpAny _ _ (letOwnedTupleGo tg (.ref it) u >>= λ_=>assign tg Y.env u >>= λ_=>forIn ifs true _ >>= _) _ _ s4;refine wpAny_bind (thn h4 λ_ s5 ⟨x,H5,I5,r5,y5,st5,fr5⟩=>?_);have I5':=I5.pinned (mU fr5) (T.obj _ _ st5);have j3:∀ {σ7:St}{H7:Hp}{s7:Shared},Inv Y ([]++nN fp s5.heap) σ7 H7 s7->N σ7 H7->∃ m,m<n/\∃ i σ' H',Inv Y [] σ' H' s7/\tn i s7.heap/\(∀ b∈fp,H' b=none)/\W i m σ' H':=λ{σ7 H7 s7} I7 n7=>by
   obtain ⟨m',hm,w7⟩:=hN σ7 H7 n7;refine ⟨m',hm,i+1,σ7,H7,I7.eX,T.keep _ _ _ st5 λb hb o e=>(I7.pin (b,o) (Od _ (Od _ (dc hb e)))).1,λb hb=>?_,w7⟩;obtain ⟨o,e,d⟩:=T.obj _ _ st5 b hb;exact (I7.pin (b,o) (Od _ (Od _ (dc hb e)))).2.1
  refine wpAny_bind (wpAny_mono (hg _ s5 σ3 H5 x u _ I5' r5 (step x H5 y5)) (λ_ s6 ⟨σ6,H6,I6,q6⟩=>?_) λe s' z=>(hxe e s' z).elim);refine wpAny_bind (wpAny_mono (hi _ s6 σ6 H6 _ I6 q6) (λok s7 ⟨H7,I7,q7⟩=>?_) λe s' z=>(hxe e s' z).elim);cases ok with
  | false=>
   exact wpAny_pure ⟨rfl,j3 I7 q7⟩
  | true=>
   show wpAny _ _ (eval b7 Y.env >>= λx=>standAt b7.pos >>= λ_=>foldedSetIterable b7 Y.env x >>= λx=>holding [x] (pyIter x) >>= λy=>runOwn (.compStart (.ListComp elt [⟨tg,iter,ifs,0⟩,⟨tg2,b7,gv,0⟩] scope pos) 1 y (.ref D) Y.env) Y.env >>= λ_=>_) _ _ s7;refine wpAny_bind (wpAny_mono (um _ s7 σ6 H7 _ I7 q7) (λu8 s8 h8=>?_) λe s' z=>(hxe e s' z).elim);refine wpAny_bind (wpAny_standAt (wpAny_bind ?_));rw [hs2];refine wpAny_pure ?_;refine wpAny_bind (wpAny_holding (wpAny_mono h8 (λitv s9 h9=>?_) λe s' z=>(hxe e s' z).elim));obtain ⟨it2,fp2,tn2,J2,H9,e9,I9,T2,st9,f9,w9⟩:=h9;subst e9;have inner:=zP (elt:=elt) (tg:=tg) (iter:=iter) (ifs:=ifs) (tg2:=tg2) (b7:=b7) (gv:=gv) (scope:=scope) (pos:=pos) hc hxe hg2 hi2 he T2 I9 st9 f9 w9;refine wpAny_bind (wpAny_runOwn (h:=none) ?_);rw [show Y.A.mark none=Y.A by cases Y.A;rfl];refine xR (codeAny_mono inner λr s' hh=>?_) (T2.self _ 0 _ _ _ st9 (codeAny_mono inner λr s' hh=>?_))
   ·obtain ⟨hr,σa,Ha,Ia,na⟩:=hh;subst hr;exact wpAny_pure ⟨rfl,j3 Ia na⟩
   ·obtain ⟨hr,σa,Ha,Ia,na⟩:=hh;subst hr;exact wpAny_pure ⟨rfl,j3 Ia na⟩
theorem AF {N':List Str}{n:Nat}{fi:List Nat}{wi wi2:TI}{g g2:TG}{tt tt2:TT}{te:TE}{use:Option (Value->Sem Unit)}{Q:Value->Shared->Prop}{Qr:VK}{Jn:Pos}{pins:List (Addr×Obj)}{σ:St}{H:Hp}{s:Shared}
  (oF:X.calm=true) (S:i3 X scope N' n fi) (hit:PI X tg iter wi)
  (hg:∀ s H fp,PG (bC X scope N' s H fp) tg g) (hi:∀ s H fp,qm (bC X scope N' s H fp) ifs tt) (um:∀ s H fp,PI (bC X scope N' s H fp) tg2 b7 wi2) (hg2:∀ s H fp,PG (bC X scope N' s H fp) tg2 g2) (hi2:∀ s H fp,qm (bC X scope N' s H fp) gv tt2) (he:∀ s H fp,PE (bC X scope N' s H fp) elt te)
  (I:Inv X pins σ H s) (hw:Eu wi g tt wi2 g2 tt2 te n fi σ H Qr) (hs:∀ x,foldedSetIterable iter X.env x=pure x) (hs2:∀ (C:Addr) x,foldedSetIterable b7 (yb scope C X.env) x=pure x)
  (post:∀ (D C:Addr) (s':Shared) (H':Hp) (m:Str->Option Value),Inv X pins σ H' s'->s'.heap.Ns C m->H' C=none->X.s₀.heap.objs.size<=C->C≠X.env.locals->(∀ x c,X.env.cells.lookup x=some c->c≠C)->(∀ p∈X.pn++pins,p.1≠C)->Qr (.ref D) H' ->
   compPost (model X.prog X.w) X.A X.xe use Q (.ref D) C (.ok .next) s') :
  wpAny (model X.prog X.w) X.A (comprehension (.ListComp elt [⟨tg,iter,ifs,0⟩,⟨tg2,b7,gv,0⟩] scope pos) scope X.env Jn (newList []) false (eval iter X.env) use) Q X.xe s:=by
 refine wpAny_comprehension_free (use:=use) (g:=⟨tg,iter,ifs,0⟩) (gs:=[⟨tg2,b7,gv,0⟩]) rfl hs (nc (S.CQ I.ok)) S.kind S.names ?_;refine thn (hit pins s σ H _ I hw) λv s1 h1=>thn h1 λitv s2 h2=>?_;obtain ⟨it,fp,tn,J,H2,e,I2,T,st2,f2,hw2⟩:=h2;subst e;refine wpAny_newList ?_ (Nat.zero_le _);have hD:H2 s2.heap.objs.size=none:=I2.hok.fresh (NX _);have I3:Inv X pins σ (upd H2 s2.heap.objs.size (.lst [])) { s2 with heap:=s2.heap.push { cls:=.type "list",data:=.seq ([]:List Value).toArray } }:=
  I2.laid (t':=s2.toks) (λb u e=>Heap.get?_push_of_some _ e) (NX _) ⟨Nat.zero_le _,[],0,.nil,Heap.get?_push_size _ rfl⟩
 have hw3:=hw2 _ hD;have u23:Un (frs X.stack) fp H2 (upd H2 s2.heap.objs.size (.lst [])) s2.heap (s2.heap.push { cls:=.type "list",data:=.seq ([]:List Value).toArray }):=
  Un.laid (λb u e=>Heap.get?_push_of_some _ e) (NX _) hD
 generalize hs3:({ s2 with heap:=s2.heap.push { cls:=.type "list",data:=.seq ([]:List Value).toArray } }:Shared)=s3 at I3 ⊢;have hh3:s3.heap=s2.heap.push { cls:=.type "list",data:=.seq ([]:List Value).toArray }:=by rw [<-hs3]
 have ho3:s3.os=s2.os:=by rw [<-hs3]
 have hz3:s3.heap.objs.size=s2.heap.objs.size+1:=by rw [hh3,Heap.size_push]
 rw [<-hh3] at u23;have hH3:∀ b,b≠s2.heap.objs.size->upd H2 s2.heap.objs.size (.lst []) b=H2 b:=λb hb=>ay hb;generalize upd H2 s2.heap.objs.size (.lst [])=H3 at *;have x8:∀ b∈fp,∃ o,s2.heap.get? b=some o:=λb hb=>let ⟨o,e,_⟩:=T.obj _ _ st2 b hb;⟨o,e⟩;have k23:∀ b u,s2.heap.get? b=some u->s3.heap.get? b=some u:=λb u e=>by rw [hh3];exact Heap.get?_push_of_some _ e
 have DM:∀ b∈fp,b9 X pins H3 b:=λb hb=>by
  obtain ⟨o,e⟩:=x8 b hb;exact ⟨(hH3 b (Nat.ne_of_lt (Heap.lt_size e))).trans (f2 b hb).1,(f2 b hb).2⟩
 refine Bu λh4 hns hk hc=>?_;show codeAny _ _ (.compStart _ 0 _ _ (yb scope s3.heap.objs.size X.env)) _ _;have I4:=va I3 S DM (λb hb=>let ⟨o,e⟩:=x8 b hb;⟨o,k23 b o e⟩) hns hk hc;have hfY:∀ b∈fp,b9 (bC X scope N' s3 H3 fp) [] H3 b:=λb hb=>⟨(DM b hb).1,(I4.ok.exf b hb).1,I4.ok.BO b hb,.inl hb,(I4.ok.exf b hb).2,λp hp=>absurd (show p∈([]:List (Addr×Obj)) from hp) (by simp)⟩;have st4:tn 0 h4:=T.keep _ _ _ st2 λb hb o e=>hk b o (k23 b o e);have loop:=Aj (tg2:=tg2) (b7:=b7) (gv:=gv) (Y:=bC X scope N' s3 H3 fp) (elt:=elt) (tg:=tg) (iter:=iter) (ifs:=ifs) (scope:=scope) (pos:=pos) oF (λ_ _ z=>z) (hg s3 H3 fp) (hi s3 H3 fp) (um s3 H3 fp) (hg2 s3 H3 fp) (hi2 s3 H3 fp) (he s3 H3 fp) (hs2 _) T I4 st4 hfY hw3;have fin:codeAny (model X.prog X.w) X.A (.compLoop (.ListComp elt [⟨tg,iter,ifs,0⟩,⟨tg2,b7,gv,0⟩] scope pos) 0 (.ref it) (.ref s2.heap.objs.size) (yb scope s3.heap.objs.size X.env)) (compPost (model X.prog X.w) X.A X.xe use Q (.ref s2.heap.objs.size) s3.heap.objs.size) { s3 with heap:=h4 }:=by
  refine codeAny_mono loop λr s' ⟨hr,σ',H',J5,q5⟩=>?_;subst hr;have u5:Un (frs X.stack) fp H3 H' s3.heap s'.heap:=J5.base;have I5:Inv X pins σ H' s':=I2.HD (ch:=fp) (J5.os.trans ho3) (u23.trans u5) J5.hok J5.bare λb hb=>⟨(f2 b hb).2.2.2.1,(f2 b hb).2.1,(f2 b hb).2.2.2.2.1,(f2 b hb).2.2.2.2.2⟩;obtain ⟨m,hm,_⟩:=J5.loc;refine post _ _ s' H' m I5 hm J5.free I3.sz (Nat.ne_of_gt I3.lt) (λx c e=>?_) (λp hp=>?_) q5
  ·obtain ⟨v,q⟩:=I3.cell x c e;exact Nat.ne_of_lt q.lt
  ·exact Nat.ne_of_lt (Heap.lt_size (I3.pin p hp).1)
 exact codeAny_compStart_list fin (T.self _ 0 _ _ _ st4 fin)
theorem Et {N':List Str}{n i:Nat}{fi:List Nat}{wi wi2:TI}{g g2:TG}{tt tt2:TT}{te:TE}{x:Str}{pos' FF:Pos} (hN:X.N.Nodup) (hxi:X.N[i]? = some x) (hx:Loc X.env.scope x) (oF:X.calm=true) (S:i3 X scope N' n fi) (hit:PI X tg iter wi)
  (hg:∀ s H fp,PG (bC X scope N' s H fp) tg g) (hi:∀ s H fp,qm (bC X scope N' s H fp) ifs tt) (um:∀ s H fp,PI (bC X scope N' s H fp) tg2 b7 wi2) (hg2:∀ s H fp,PG (bC X scope N' s H fp) tg2 g2) (hi2:∀ s H fp,qm (bC X scope N' s H fp) gv tt2) (he:∀ s H fp,PE (bC X scope N' s H fp) elt te)
  (hsw:swapsWith (.ListComp elt [⟨tg,iter,ifs,0⟩,⟨tg2,b7,gv,0⟩] scope pos) (some (.Name x pos')) FF.line X.env=pure true:=by rfl)
  (hs:∀ x,foldedSetIterable iter X.env x=pure x:=by intro _;rfl) (hs2:∀ (C:Addr) x,foldedSetIterable b7 (yb scope C X.env) x=pure x:=by intro _ _;rfl) (hf:X.fn x=true\/X.env.scope.names.lookup x=some .local:=by first | exact .inl rfl | exact .inr rfl | assumption) :
  PS X (.Assign [.Name x pos'] (.ListComp elt [⟨tg,iter,ifs,0⟩,⟨tg2,b7,gv,0⟩] scope pos) FF) (DB (Eu wi g tt wi2 g2 tt2 te n fi) (aY i)):=by
 intro pins s σ H D I h
 (rw [exec_Assign_Name_used _ _ _ _ hsw])
 (refine wpAny_bind (wpAny_standAt (wpAny_bind ?_)))
 show wpAny _ X.A (do let _ <-comprehension (.ListComp elt [⟨tg,iter,ifs,0⟩,⟨tg2,b7,gv,0⟩] scope pos) scope X.env _ (newList []) false (eval iter X.env) (some (assign (.Name x pos') X.env))) _ _ s;refine wpAny_bind (thn (AF (use:=some (assign (.Name x pos') X.env)) (Q:=λ_ s'=>SP X pins D .next s') oF S hit hg hi um hg2 hi2 he I h hs hs2 λDa C s' H' m I' hm hn hC hL h2 h3 q=>?_) λ_ s' q=>wpAny_pure (wpAny_pure q));show wpAny _ _ (assign (.Name x pos') X.env (.ref Da)) _ _ s';refine wpAny_assign_Name (qo (v:=.ref Da) I' hN hxi hx rfl (λs2 I2 ⟨a,hsb,ha⟩=>?_) hf);have hCa:C≠a:=by
  rcases ha with z | z
  ·rw [z];exact hL
  ·exact (h2 x a z).symm
 exact ⟨m,hm.sameBut hsb hCa,λh' hs'=>⟨_,H',I2.letGo hs' hn hC hL h2 h3,q⟩⟩
end
end L2
namespace L2
open PySem PySem.Spec PyProof.Rows PySem.W
section
variable {X:Cx}{pins:List (Addr×Obj)}{σ:St}{H:Hp}{s:Shared}
theorem CJ (a v:Value):argsOk "min" ⟨[a],[(Str.ofString "key",v)]⟩:=by unfold argsOk;kernel_rfl
def Df (K:PySem.W.Frag) (sp:Sp):V->Hp->VK->Prop:=λx H Q=>∃ l xs,x = .ref l/\SqL K H l xs/\match xs with
 | []=>False
 | y::r=>sp [y] H (λk H'=>rM K sp l xs r y k H' Q) E0
theorem Cb {k:Nat}{f:Addr}{fd:FuncData}{ps:List Str}{sp:Sp}{x:V}{u:Value}{Q:VK} (F:au X.prog X.w X.K X.mg X.base CX0 k f fd ps sp) (hr:cC (k+1) X.A) (hb:Binds X.K fd ps []) (hc:X.calm=true) (Iv:Inv X pins σ H s) (rx:RelV x u) (h:Df X.K sp x H Q) :
  wpAny (model X.prog X.w) X.A (call (.builtin "min") [u] [(Str.ofString "key",.ref f)]) (EP X pins σ Q) X.xe s:=by
 (have qL:(toString "min" ++ toString ".loop" : String) = "min.loop" :=by decide)
 obtain ⟨l,xs,rfl,hq,q⟩:=h;cases rx;obtain ⟨its,rv,pl,_⟩:=Iv.list hq;have hlen:=rv.length;have hll:l<s.heap.objs.size:=by obtain ⟨_,e,_⟩:=pl.isList;exact Heap.lt_size e
 refine kmk_tree PySem.F.kind_min PySem.F.plain_min PySem.F.entry_min (CJ _ _) ?_;show wpAny _ X.A.in1 (Builtin.Builtins.bindParams "min" ["key","default"] 0 ⟨[],[(Str.ofString "key",.ref f)]⟩ >>= _) _ _ s;refine wpAny_bind (wpAny_of_eq (show Builtin.Builtins.bindParams "min" ["key","default"] 0 ⟨[],[(Str.ofString "key",.ref f)]⟩=pure [some (.ref f),none] from rfl) ?_);refine wpAny_bind (wpAny_pure ?_);refine wpAny_bind (wpAny_pyIter_list pl.isList ?_);refine wpAny_bind (wpAny_newList ?_ (Nat.zero_le _):wpAny _ _ _ _ _ _);rw [qL];have two:=y8 (X:=X) (l:=l) Iv hll;generalize (s.heap.push { cls:=.type "list_iterator",data:=.fields #[.ref l,.int 0 0] }).push (seqObj "list" #[] 0)=h0 at two ⊢;generalize (s.heap.push { cls:=.type "list_iterator",data:=.fields #[.ref l,.int 0 0] }).objs.size=Sa at two ⊢;generalize s.heap.objs.size=Ia at two ⊢;obtain ⟨gI,gS,hkp,I0,fI,fS,hlI,hSI⟩:=two;have pl0:h0.IsList l its.toArray:=pl.isList.at λo e=>hkp l o e
 (refine wpAny_pure ⟨plainId_quiet PySem.F.plain_min_loop _,?_⟩)
 cases xs with
 | nil=>
  exact q.elim
 | cons y r=>
  exact vd (Q:=Q) (yu F hr hb) hr hc hlI hSI (λw' u' H' s' I' r' q'=>⟨w',H',I',r',q'⟩) I0 fI fS gS ⟨_,gI,rfl,rfl⟩ (hq) q
def K8 (K:PySem.W.Frag) (sp:Sp) (ta:TA):TE:=λσ H Q=>ta σ H λvs H1=>∃ x,vs=[x]/\Df K sp x H1 Q
end
section
variable {X:Cx}
theorem FQ {k:Nat}{f:Addr}{fd:FuncData}{ps:List Str}{sp:Sp}{e:Expr}{ta:TA}{y:Str}{p py pos kp:Pos} (F:au X.prog X.w X.K X.mg X.base CX0 k f fd ps sp) (hr:cC (k+1) X.A) (hb:Binds X.K fd ps []) (hc:X.calm=true)
  (hg:Gl X "min") (hm:X.mg "min" = none) (hgf:Gl X y) (hmf:X.mg y=some (.ref f)) (ha:PA X [e] ta) (hdb:(y == ("__debug__" : Str))=false:=by decide)
  (he:backTo pos (starEach [e] X.env)=(false,eval e X.env)::backTo pos (starEach [] X.env):=by rfl) (il:(backTo pos (starEach [e] X.env)).any (·.1)=false:=by rfl)
  (fc:(backToKw pos (keywordEach [⟨some "key",.Name y py,kp⟩] X.env)).all (·.1.isSome)=true:=by rfl) (hkw:(backToKw pos (keywordEach [⟨some "key",.Name y py,kp⟩] X.env)).any (·.1.isNone)=false:=by rfl) :
  PE X (.Call (.Name "min" p) [e] [⟨some "key",.Name y py,kp⟩] pos) (K8 X.K sp ta):=by
 intro pins s σ H Q I h;refine wpAny_Call_Name_kw (eD I hg hm zI ?_);refine callWith_kw (thn (ha pos pins s σ H _ I h) λus s1 ⟨vs,H1,I1,r1,q1⟩=>?_) he il fc hkw;obtain ⟨x,rfl,q⟩:=q1;obtain ⟨u,rfl,ru⟩:=r1.one;refine kws_cons (md I1 hgf hmf (kws_nil ?_) hdb);exact Cb F hr hb hc I1 ru q
end
theorem CU {n:Nat}{g:TG}{tb:TS}{D:Ends}{σ:St}{H:Hp} (Pv:Nat->St->Hp->Prop) (h0:Pv 0 σ H)
  (hs:∀ i σ H,i<n->Pv i σ H->g (.int ((n:Int) - 1 - i)) σ H λσ2 H2=>tb { D with nx:=Pv (i+1),ct:=Pv (i+1),bk:=D.nx } σ2 H2) (hd:∀ σ H,Pv n σ H->D.nx σ H) :
  ∃ W:Nat->Nat->St->Hp->Prop,(∃ m,W 0 m σ H)/\∀ i m σ H,W i m σ H ->
   ((Itd n).stop i H/\D.nx σ H)\/((Itd n).go i H/\∃ N:St->Hp->Prop,(∀ σ' H',N σ' H'->∃ m',m' < m/\W (i+1) m' σ' H')/\∀ x H',(Itd n).yld i H x H'->g x σ H' λσ2 H2=>tb { D with nx:=N,ct:=N,bk:=D.nx } σ2 H2):=by
 refine ⟨λi m σ H=>m=n - i/\i<=n/\Pv i σ H,⟨n,by simp,Nat.zero_le _,h0⟩,?_⟩;rintro i m σ H ⟨rfl,hi,p⟩;rcases Nat.lt_or_ge i n with h | h
 ·refine .inr ⟨h,Pv (i+1),λσ' H' q=>⟨n - (i+1),by lia,rfl,h,q⟩,?_⟩;rintro x H' ⟨rfl,rfl⟩;exact hs i σ _ h p
 ·have e:i=n:=Nat.le_antisymm hi h;subst e;exact .inl ⟨NX _,hd σ H p⟩
end L2
namespace LG
open PySem L2 PySem.Builtin PySem.Builtin.Str
def PtW:Pt->Prop
 | .word w=>bW w=true/\w.length<=500/\PyData.strOk w=true
 | .hole k=>k<3
def PW (ps:List Pt):Prop:=∀ p∈ps,PtW p
def Words (ws:List Str):Prop:=∀ w∈ws,bW w=true
def bw (pss:List (List Pt)) (ws:List Str):Bool:=pss.any λps=>aD ps ws
def aB (ps:List Pt) (oss:List (List Pt)):Bool:=oss.any λos=>aC ps os
theorem PtW.ok {p:Pt} (h:PtW p):p.ok:=by
 cases p with
 | word w=>exact ⟨N2 h.2.1 (by decide),h.2.2⟩
 | hole k=>exact h
theorem c8 (p:Pt) (ps:List Pt) (w:Str) (ws:List Str):aD (p::ps) (w::ws)=(p.takes w && aD ps ws):=by
 simp only [aD,List.length_cons,List.zip_cons_cons,List.all_cons,Nat.add_right_cancel_iff];cases p.takes w <;> simp
theorem xv (w:Str) (ws:List Str):aD [] (w::ws)=false:=rfl
theorem o5 (p:Pt) (ps:List Pt):aD (p::ps) []=false:=rfl
theorem qJ (p:Pt) (ps:List Pt) (q:Pt) (qs:List Pt):aC (p::ps) (q::qs)=(p.within q && aC ps qs):=by
 simp only [aC,List.length_cons,List.zip_cons_cons,List.all_cons,Nat.add_right_cancel_iff];cases p.within q <;> simp
theorem Cp (w:Pt) (ws:List Pt):aC [] (w::ws)=false:=rfl
theorem BW (p:Pt) (ps:List Pt):aC (p::ps) []=false:=rfl
theorem Bv {c:Nat} (h:dig c=true):sgn c=true:=by
 unfold dig at h;unfold sgn;rw [Oa,decide_eq_true_eq,decide_eq_true_eq] at h;rw [Oa,Oa,decide_eq_true_eq,decide_eq_true_eq,decide_eq_true_eq];lia
theorem GW {c:Nat} (h:low c=true):sgn c=true:=by
 unfold low at h;unfold sgn;rw [Oa,decide_eq_true_eq,decide_eq_true_eq] at h;rw [Oa,Oa,decide_eq_true_eq,decide_eq_true_eq,decide_eq_true_eq];lia
theorem rP {p:Nat->Bool} (hp:∀ c,p c=true->sgn c=true) {l:List Nat} (h:cA p l=true):cA sgn l=true:=by
 unfold cA at h ⊢;rw [Oa,List.all_eq_true] at h ⊢;exact ⟨h.1,λc hc=>hp c (h.2 c hc)⟩
theorem BA {w:Str} (h:bx w<2):bW w=true:=by
 unfold bx x9 at h;unfold bW;by_cases h0:cA dig (dA w.cps.toList)=true
 ·generalize w.cps.toList=l at h0;unfold dA at h0
  split at h0
  ·rename_i r;have h1:=rP (λc=>Bv) h0;unfold cA at h1 ⊢;rw [Oa] at h1 ⊢;refine ⟨rfl,?_⟩;rw [List.all_cons,h1.2];rfl
  ·exact rP (λc=>Bv) h0
 ·rw [if_neg h0] at h;by_cases h1:cA low w.cps.toList=true
  ·exact rP (λc=>GW) h1
  ·rw [if_neg h1] at h;lia
theorem fJ {m:Nat} (hm:m<2) (w:Str):(Pt.hole m).takes w=decide (bx w=m):=by
 have:m=0\/m=1:=by lia
 rcases this with rfl | rfl <;> rfl
theorem uG (w:Str):(Pt.hole 2).takes w=bW w:=rfl
theorem g8 {m:Nat} (hm:m<3):m<2\/m=2:=by lia
theorem nM {p:Pt}{w:Str} (hp:PtW p) (h:p.takes w=true):bW w=true:=by
 cases p with
 | word x=>
  have e:w=x:=by simpa [Pt.takes] using h
  rw [e];exact hp.1
 | hole m=>
  rcases g8 hp with hm | rfl
  ·rw [fJ hm,decide_eq_true_eq] at h;exact BA (by lia)
  ·exact h
theorem oG {p q:Pt}{w:Str} (hp:PtW p) (h:p.within q=true) (hw:p.takes w=true):q.takes w=true:=by
 cases p with
 | word x=>
  have e:w=x:=by simpa [Pt.takes] using hw
  rw [e];exact h
 | hole m=>
  rw [bH,Bool.or_eq_true,decide_eq_true_eq,decide_eq_true_eq] at h;rcases h with rfl | rfl
  ·exact hw
  ·exact nM hp hw
theorem jh:∀ {ps qs:List Pt}{ws:List Str},PW ps->aC ps qs=true->aD ps ws=true->aD qs ws=true
 | [],[],ws,_,_,h=>h
 | [],_::_,_,_,h,_=>by rw [Cp] at h;cases h
 | _::_,[],_,_,h,_=>by rw [BW] at h;cases h
 | p::ps,q::qs,[],_,_,h=>by rw [o5] at h;cases h
 | p::ps,q::qs,w::ws,hp,h,hw=>by
  rw [qJ,Oa] at h;rw [c8,Oa] at hw ⊢;exact ⟨oG (hp p (N4 ..)) h.1 hw.1,jh (λx hx=>hp x (NY _ hx)) h.2 hw.2⟩
theorem lI:∀ {ps:List Pt}{ws:List Str},PW ps->aD ps ws=true->Words ws
 | [],[],_,_=>λw hw=>by cases hw
 | [],_::_,_,h=>by rw [xv] at h;cases h
 | _::_,[],_,h=>by rw [o5] at h;cases h
 | p::ps,w::ws,hp,h=>by
  rw [c8,Oa] at h;intro x hx;rcases List.mem_cons.mp hx with rfl | hx
  ·exact nM (hp p (N4 ..)) h.1
  ·exact lI (λx hx=>hp x (NY _ hx)) h.2 x hx
theorem ee {ps:List Pt}{ws:List Str} (h:aD ps ws=true):ps.length=ws.length:=by
 unfold aD at h;rw [Oa,decide_eq_true_eq] at h;exact h.1
theorem sE {ps:List Pt}{oss:List (List Pt)}{ws:List Str} (hp:PW ps) (h:aB ps oss=true) (hw:aD ps ws=true):bw oss ws=true:=by
 unfold aB at h;unfold bw;rw [List.any_eq_true] at h ⊢;obtain ⟨os,ho,hw2⟩:=h;exact ⟨os,ho,jh hp hw2 hw⟩
def rep (c n:Nat):Str:=⟨(List.replicate (n+1) c).toArray⟩
theorem F3 (c n:Nat):(rep c n).length=n+1:=by simp [rep,Str.length]
theorem E6 (c n:Nat):(rep c n).cps.toList=List.replicate (n+1) c:=by simp [rep]
theorem f6 (p:Nat->Bool) (c n:Nat):cA p (List.replicate (n+1) c)=p c:=by
 unfold cA;rw [List.all_replicate];simp [List.replicate_succ]
def m5:Nat->Nat
 | 0=>48
 | 1=>97
 | _=>65
theorem lF {c:Nat} (hc:c≠45) (n:Nat):dA (List.replicate (n+1) c)=List.replicate (n+1) c:=by
 rw [List.replicate_succ];unfold dA
 split
 ·rename_i r e;injection e with e1 e2;exact (hc e1).elim
 ·rfl
theorem rL {k:Nat} (hk:k<3) (n:Nat):bx (rep (m5 k) n)=k/\bW (rep (m5 k) n)=true:=by
 unfold bx bW;rw [E6];have:k=0\/k=1\/k=2:=by lia
 unfold x9;rcases this with rfl | rfl | rfl
 ·rw [lF (by decide),f6 dig,f6 sgn];exact ⟨rfl,rfl⟩
 ·rw [lF (by decide),f6 dig,f6 low,f6 sgn];exact ⟨rfl,rfl⟩
 ·rw [lF (by decide),f6 dig,f6 low,f6 sgn];exact ⟨rfl,rfl⟩
def uQ (n:Nat):Pt->Str
 | .word x=>x
 | .hole m=>rep (m5 m) n
def Short (n:Nat) (p:Pt):Prop:=∀ y,p = .word y->y.length<=n
theorem Du:∀ (ps:List Pt),PW ps->∀ p∈ps,Short 500 p:=λps h p hp y e=>by
 subst e;exact (h _ hp).2.1
theorem AE {p:Pt} (hp:PtW p) (n:Nat):p.takes (uQ n p)=true:=by
 cases p with
 | word x=>simp [Pt.takes,uQ]
 | hole m=>
  rcases g8 hp with hm | rfl
  ·rw [fJ hm,decide_eq_true_eq];exact (rL (by lia) n).1
  ·exact (rL (k:=2) (by decide) n).2
theorem y0 {p q:Pt}{n:Nat} (hp:PtW p) (hq:PtW q) (hs:Short n q) (h:q.takes (uQ n p)=true):p.within q=true:=by
 cases p with
 | word x=>exact h
 | hole m=>
  have hm:m<3:=hp;rw [bH,Bool.or_eq_true,decide_eq_true_eq,decide_eq_true_eq];cases q with
  | word y=>
   exfalso;have e:rep (m5 m) n=y:=of_decide_eq_true h;have h1:=hs y rfl;have h2:=F3 (m5 m) n;rw [e] at h2;lia
  | hole j=>
   rcases g8 hq with hj | rfl
   ·rw [fJ hj,decide_eq_true_eq] at h;have h3:bx (rep (m5 m) n)=m:=(rL hm n).1;have h4:bx (rep (m5 m) n)=j:=h
    left
    rw [<-h4,h3]
   ·exact .inr rfl
theorem yL:∀ {ps:List Pt} (n:Nat),PW ps->aD ps (ps.map (uQ n))=true
 | [],_,_=>rfl
 | p::ps,n,h=>by
  rw [Oc,c8,AE (h p (N4 ..)),yL n λx hx=>h x (NY _ hx)];rfl
theorem kL:∀ {ps qs:List Pt} (n:Nat),PW ps->PW qs->(∀ q∈qs,Short n q)->aD qs (ps.map (uQ n))=true->aC ps qs=true
 | [],[],_,_,_,_,_=>rfl
 | [],_::_,_,_,_,_,h=>by cases h
 | p::ps,[],_,_,_,_,h=>by cases h
 | p::ps,q::qs,n,hp,hq,hs,h=>by
  rw [Oc,c8,Oa] at h;rw [qJ,Oa];exact ⟨y0 (hp p (N4 ..)) (hq q (N4 ..)) (hs q (N4 ..)) h.1,
   kL n (λx hx=>hp x (NY _ hx)) (λx hx=>hq x (NY _ hx)) (λx hx=>hs x (NY _ hx)) h.2⟩
theorem cover {ps:List Pt}{oss:List (List Pt)} (hp:PW ps) (ho:∀ os∈oss,PW os) (h:aB ps oss=false):∃ ws,aD ps ws=true/\bw oss ws=false:=by
 refine ⟨ps.map (uQ 500),yL _ hp,?_⟩;rw [Bool.eq_false_iff];intro q;unfold bw at q;rw [List.any_eq_true] at q;obtain ⟨os,h1,h2⟩:=q;have h3:=kL 500 hp (ho os h1) (Du os (ho os h1)) h2;have h4:aB ps oss=true:=by
  unfold aB;rw [List.any_eq_true];exact ⟨os,h1,h3⟩
 rw [h] at h4;cases h4
theorem jY {ps:List Pt}{oss:List (List Pt)}{ws:List Str} (hp:PW ps) (hw:aD ps ws=true) (hk:bw oss ws=false):aB ps oss=false:=by
 rw [Bool.eq_false_iff];intro q;rw [sE hp q hw] at hk;cases hk
def j6 (w:Str):List Pt->Bool
 | []=>false
 | p::_=>p.takes w
def aN (oss:List (List Pt)) (w:Str):List (List Pt):=(oss.filter (j6 w)).map List.tail
theorem xQ (p:Pt) (os:List Pt) (oss:List (List Pt)) (w:Str):aN ((p::os)::oss) w=if p.takes w=true then os::aN oss w else aN oss w:=by
 unfold aN;by_cases h:p.takes w=true
 ·rw [if_pos h,List.filter_cons_of_pos (p:=j6 w) (a:=p::os) h];rfl
 ·rw [if_neg h,List.filter_cons_of_neg (p:=j6 w) (a:=p::os) h]
theorem gM:∀ (oss:List (List Pt)) (w:Str) (ws:List Str),(∀ os∈oss,os≠[])->bw oss (w::ws)=bw (aN oss w) ws
 | [],_,_,_=>rfl
 | []::oss,_,_,h=>(h [] (N4 ..) rfl).elim
 | (p::os)::oss,w,ws,h=>by
  have ih:=gM oss w ws λx hx=>h x (NY _ hx);have e:bw ((p::os)::oss) (w::ws)=((p.takes w && aD os ws) || bw oss (w::ws)):=by
   show (aD (p::os) (w::ws) || _)=_;rw [c8];rfl
  rw [e,ih,xQ];cases p.takes w with
  | true=>rw [if_pos rfl];rfl
  | false=>rw [if_neg N6];rfl
theorem vq {oss:List (List Pt)}{w:Str} (h:∀ os∈oss,PW os):∀ os∈aN oss w,PW os:=λos ho=>by
 unfold aN at ho;obtain ⟨o1,h1,rfl⟩:=N5.mp ho;have h2:=(List.mem_filter.mp h1).1;exact λp hp=>h o1 h2 p (List.mem_of_mem_tail hp)
theorem zz {oss:List (List Pt)}{w:Str}{n:Nat} (h:∀ os∈oss,os.length=n+1):∀ os∈aN oss w,os.length=n:=λos ho=>by
 unfold aN at ho;obtain ⟨o1,h1,rfl⟩:=N5.mp ho;have h2:=h o1 (List.mem_filter.mp h1).1;rw [List.length_tail,h2];rfl
theorem lL (oss:List (List Pt)) (w:Str):(aN oss w).length<=oss.length:=by
 unfold aN;rw [NU];exact List.length_filter_le _ _
def wkD (w:Str):PyData:=.tuple [.int w.length,.str w]
def v3:Sh:=.cw .int (.cw .str .pZ)
theorem o9 (w:Str):v3.has (wkD w):=⟨_,_,rfl,⟨_,rfl⟩,_,_,rfl,⟨_,rfl⟩,rfl⟩
theorem Ik {a b:Str} (h:wkD a=wkD b):a=b:=by
 simp only [wkD,PyData.tuple.injEq,List.cons.injEq,PyData.str.injEq] at h;exact h.2.1
def lkD (ws:List Str):PyData:=.tuple [.int ws.length,.list (ws.map wkD)]
def Ge:Sh:=.cw .int (.cw (.list v3) .pZ)
theorem Jw (ws:List Str):(Sh.list v3).has (.list (ws.map wkD)):=⟨_,rfl,λx hx=>by
 obtain ⟨w,_,rfl⟩:=N5.mp hx;exact o9 w⟩
theorem uZ (ws:List Str):Ge.has (lkD ws):=⟨_,_,rfl,⟨_,rfl⟩,_,_,rfl,Jw ws,rfl⟩
theorem Ee (w:Str):(wkD w).depth<=5:=by simp [wkD,PyData.depth,PyData.depthAll]
theorem Fj (ws:List Str):(lkD ws).depth<=100:=by
 have h:PyData.depthAll (ws.map wkD)<=5:=eJ _ λd hd=>by
  obtain ⟨w,_,rfl⟩:=N5.mp hd;exact Ee w
 simp only [lkD,PyData.depth,PyData.depthAll];lia
def wlt (a b:Str):Bool:=ltv (wkD a) (wkD b)
theorem vX (a:Str):wlt a a=false:=(Sh.ok v3).irr _ (o9 a)
theorem Cf {a b c:Str} (h1:wlt a b=false) (h2:wlt b c=false):wlt a c=false:=by
 cases q:wlt a c with
 | false=>rfl
 | true=>
  rcases (Sh.ok v3).neg (o9 a) (o9 b) (o9 c) q with z | z
  ·unfold wlt at h1;rw [h1] at z;cases z
  ·unfold wlt at h2;rw [h2] at z;cases z
theorem vg {a b c:List Str} (h1:ltv (lkD a) (lkD b)=false) (h2:ltv (lkD b) (lkD c)=false):ltv (lkD a) (lkD c)=false:=by
 cases q:ltv (lkD a) (lkD c) with
 | false=>rfl
 | true=>
  rcases (Sh.ok Ge).neg (uZ a) (uZ b) (uZ c) q with z | z
  ·rw [h1] at z;cases z
  ·rw [h2] at z;cases z
theorem De (a b:Str):PyData.eqv (wkD a) (wkD b)=decide (a=b):=by
 rw [Bool.eq_iff_iff,decide_eq_true_eq,(Sh.ok v3).eqv _ _ (o9 a) (o9 b)];exact ⟨Ik,λh=>by rw [h]⟩
theorem AS (n:Int):PyData.eqv (.int n) (.int n)=true:=((Sh.ok .int).eqv _ _ ⟨_,rfl⟩ ⟨_,rfl⟩).mpr rfl
theorem Ep {m n:Int} (h:m≠n):PyData.eqv (.int m) (.int n)=false:=by
 rw [Bool.eq_false_iff];intro q;have:=((Sh.ok .int).eqv _ _ ⟨_,rfl⟩ ⟨_,rfl⟩).mp q;simp only [PyData.int.injEq] at this;exact h this
theorem Kp {vs ws:List Str} (hl:vs.length=ws.length) (h:aL (vs.map wkD) (ws.map wkD)=false):ltv (lkD vs) (lkD ws)=false:=by
 show aL [.int vs.length,.list (vs.map wkD)] [.int ws.length,.list (ws.map wkD)]=false;rw [hl,aZ,if_pos (AS _),aZ]
 split
 ·rfl
 ·exact h
theorem Gy {a b:Str} (h:b.length<a.length):wlt a b=false:=by
 show aL [.int a.length,.str a] [.int b.length,.str b]=false;rw [aZ,if_neg (by rw [Ep (by lia)];exact N6)];show decide ((a.length:Int)<b.length)=false;exact decide_eq_false (by lia)
theorem Ir {a b:Str} (h:a.length=b.length):wlt a b=(if a=b then false else decide (a.cps.toList<b.cps.toList)):=by
 show aL [.int a.length,.str a] [.int b.length,.str b]=_;rw [h,aZ,if_pos (AS _),aZ];have e:PyData.eqv (.str a) (.str b)=decide (a=b):=by
  rw [Bool.eq_iff_iff,decide_eq_true_eq,(Sh.ok .str).eqv _ _ ⟨_,rfl⟩ ⟨_,rfl⟩];simp
 rw [e];by_cases q:a=b
 ·rw [decide_eq_true q,if_pos rfl,if_pos q];rfl
 ·rw [decide_eq_false q,if_neg N6,if_neg q];rfl
def Bd (w:Str):Prop:=w.length<=500/\PyData.strOk w=true
structure LW (k:Nat) (named:List Str) (x:Str):Prop where
 wd:bW x=true
 kd:bx x=k
 no:x∉named
 le:∀ y,bW y=true->bx y=k->y∉named->wlt y x=false
 bd:Bd x
def named:List Pt->List Str
 | []=>[]
 | .word w::r=>w::named r
 | .hole _::r=>named r
theorem ju:∀ {qs:List Pt}{w:Str},w∈named qs↔Pt.word w∈qs
 | [],w=>by simp [named]
 | .word x::r,w=>by simp [named,ju (qs:=r)]
 | .hole _::r,w=>by simp [named,ju (qs:=r)]
theorem jH:∀ (qs:List Pt),(named qs).length<=qs.length
 | []=>NX _
 | .word x::r=>by simp [named];exact jH r
 | .hole _::r=>by simp [named];exact Nat.le_succ_of_le (jH r)
def heads (oss:List (List Pt)):List Pt:=oss.map λos=>os.headD (.hole 2)
def ED (p:Pt) (qs:List Pt) (ls:List Str):List Str:=match p with
 | .word x=>[x]
 | .hole m=>(named qs++ls).filter (Pt.hole m).takes
structure FW (p:Pt) (ps:List Pt) (oss:List (List Pt)) (w:Str):Prop where
 tk:p.takes w=true
 nd:aB ps (aN oss w)=false
 le:∀ y,p.takes y=true->aB ps (aN oss y)=false->wlt y w=false
 bd:Bd w
theorem xg {oss:List (List Pt)}{x y:Str} (h:∀ os∈oss,j6 x os=j6 y os):aN oss x=aN oss y:=by
 unfold aN;rw [List.filter_congr h]
theorem Gp {p:Pt}{ps:List Pt}{oss:List (List Pt)}{x0 x1 x2:Str} (hp:PtW p) (ho:∀ os∈oss,PW os/\os≠[]) (h0:LW 0 (named (heads oss)) x0) (h1:LW 1 (named (heads oss)) x1) (h2:LW 2 (named (heads oss)) x2) {y:Str}
  (ty:p.takes y=true) (ny:aB ps (aN oss y)=false):∃ x∈ED p (heads oss) [x0,x1,x2],aB ps (aN oss x)=false/\wlt y x=false:=by
 cases p with
 | word x=>
  have e:y=x:=of_decide_eq_true ty;subst e;exact ⟨y,N3.mpr rfl,ny,vX y⟩
 | hole m=>
  by_cases hy:y∈named (heads oss)
  ·exact ⟨y,List.mem_filter.mpr ⟨List.mem_append_left _ hy,ty⟩,ny,vX y⟩
  ·have wy:=nM hp ty;have hk:=pq y;have key:∀ (k:Nat) (x:Str),LW k (named (heads oss)) x->bx y=k->x∈[x0,x1,x2]->∃ x∈ED (Pt.hole m) (heads oss) [x0,x1,x2],aB ps (aN oss x)=false/\wlt y x=false:=λk x hx hk hm=>by
    have tx:(Pt.hole m).takes x=true:=by
     rcases g8 hp with h | rfl
     ·rw [fJ h,decide_eq_true_eq] at ty ⊢;rw [hx.kd,<-hk,ty]
     ·exact hx.wd
    refine ⟨x,List.mem_filter.mpr ⟨Od _ hm,tx⟩,?_,hx.le y wy hk hy⟩;rw [xg (y:=y) λos hos=>?_]
    ·exact ny
    ·obtain ⟨hw,hne⟩:=ho os hos;cases os with
     | nil=>exact (hne rfl).elim
     | cons q r=>
      have hq:q∈heads oss:=N5.mpr ⟨_,hos,rfl⟩;show q.takes x=q.takes y;cases q with
      | word z=>
       have hz:z∈named (heads oss):=ju.mpr hq;have n1:x≠z:=λe=>hx.no (e ▸ hz);have n2:y≠z:=λe=>hy (e ▸ hz);show decide (x=z)=decide (y=z);rw [decide_eq_false n1,decide_eq_false n2]
      | hole j=>
       have hj:PtW (.hole j):=hw _ (N4 ..);rcases g8 hj with h | rfl
       ·rw [fJ h,fJ h,hx.kd,hk]
       ·rw [uG,uG,hx.wd,wy]
   have:bx y=0\/bx y=1\/bx y=2:=by lia
   rcases this with e | e | e
   ·exact key 0 x0 h0 e (by simp)
   ·exact key 1 x1 h1 e (by simp)
   ·exact key 2 x2 h2 e (by simp)
theorem Ae {p:Pt}{qs:List Pt}{ls:List Str}{x:Str} (h:x∈ED p qs ls):p.takes x=true:=by
 cases p with
 | word w=>
  have:=N3.mp h;subst this;exact decide_eq_true rfl
 | hole m=>exact (List.mem_filter.mp h).2
theorem Gq {p:Pt}{qs:List Pt}{ls:List Str}{x:Str} (hp:PtW p) (hq:PW qs) (hl:∀ y∈ls,Bd y) (h:x∈ED p qs ls):Bd x:=by
 cases p with
 | word w=>
  have:=N3.mp h;subst this;exact hp.2
 | hole m=>
  rcases List.mem_append.mp (List.mem_filter.mp h).1 with z | z
  ·exact (hq _ (ju.mp z)).2
  ·exact hl x z
structure LP (ps:List Pt) (oss:List (List Pt)) (ws:List Str):Prop where
 tk:aD ps ws=true
 kn:bw oss ws=false
 le:∀ vs,aD ps vs=true->bw oss vs=false->aL (vs.map wkD) (ws.map wkD)=false
 bd:∀ w∈ws,Bd w
theorem LP.step {p:Pt}{ps:List Pt}{oss:List (List Pt)}{w:Str}{ws:List Str} (hp:PW (p::ps)) (ho:∀ os∈oss,os≠[]) (f:FW p ps oss w) (h:LP ps (aN oss w) ws):LP (p::ps) oss (w::ws):=by
 refine ⟨by rw [c8,f.tk,h.tk];rfl,by rw [gM _ _ _ ho];exact h.kn,λvs hv hk=>?_,λx hx=>?_⟩
 ·cases vs with
  | nil=>rw [o5] at hv;cases hv
  | cons v vs=>
   rw [c8,Oa] at hv;rw [gM _ _ _ ho] at hk;have hps:PW ps:=λx hx=>hp x (NY _ hx);have h1:=f.le v hv.1 (jY hps hv.2 hk);rw [Oc,Oc,aZ,De];by_cases e:v=w
   ·subst e;rw [decide_eq_true rfl,if_pos rfl];exact h.le vs hv.2 hk
   ·rw [decide_eq_false e,if_neg N6];exact h1
 ·rcases List.mem_cons.mp hx with rfl | hx
  ·exact f.bd
  ·exact h.bd x hx
theorem LP.nil {oss:List (List Pt)} (h:aB [] oss=false) (hl:∀ os∈oss,os.length=0):LP [] oss []:=by
 refine ⟨rfl,?_,λvs hv _=>?_,λx hx=>by cases hx⟩
 ·rw [Bool.eq_false_iff];intro q;unfold bw at q;rw [List.any_eq_true] at q;obtain ⟨os,h1,_⟩:=q;have h2:=List.eq_nil_of_length_eq_zero (hl os h1);subst h2;have:aB [] oss=true:=by
   unfold aB;rw [List.any_eq_true];exact ⟨[],h1,rfl⟩
  rw [h] at this;cases this
 ·cases vs with
  | nil=>rfl
  | cons v vs=>rw [xv] at hv;cases hv
theorem rQ {oss:List (List Pt)}{ps:List Pt}{ws:List Str} (h:aD ps ws=true):bw (oss.filter λos=>decide (os.length=ps.length)) ws=bw oss ws:=by
 unfold bw;rw [List.any_filter,Bool.eq_iff_iff,List.any_eq_true,List.any_eq_true];constructor
 ·rintro ⟨os,h1,h2⟩;rw [Oa] at h2;exact ⟨os,h1,h2.2⟩
 ·rintro ⟨os,h1,h2⟩;refine ⟨os,h1,?_⟩;rw [Oa,decide_eq_true_eq];exact ⟨by rw [ee h,ee h2],h2⟩
theorem LP.wide {ps:List Pt}{oss:List (List Pt)}{ws:List Str} (h:LP ps (oss.filter λos=>decide (os.length=ps.length)) ws):LP ps oss ws:=
 ⟨h.tk,by rw [<-rQ h.tk];exact h.kn,λvs hv hk=>h.le vs hv (by rw [rQ hv];exact hk),h.bd⟩
theorem ux {ps:List Pt}{oss:List (List Pt)} (h:aB ps oss=false):aB ps (oss.filter λos=>decide (os.length=ps.length))=false:=by
 rw [Bool.eq_false_iff] at h ⊢;intro q;apply h;unfold aB at q ⊢;rw [List.any_eq_true] at q ⊢;obtain ⟨os,h1,h2⟩:=q;exact ⟨os,(List.mem_filter.mp h1).1,h2⟩
structure PLn (pss qss:List (List Pt)) (ws:List Str):Prop where
 pa:bw pss ws≠bw qss ws
 wd:Words ws
 bd:∀ w∈ws,Bd w
 ne:ws≠[]
 ln:ws.length<=12
 le:∀ vs,bw pss vs≠bw qss vs->ltv (lkD vs) (lkD ws)=false
def AU (pss qss:List (List Pt)):Option (List Str)->Prop
 | none=>∀ vs,bw pss vs=bw qss vs
 | some ws=>PLn pss qss ws
structure e7 (pss qss:List (List Pt)) (L:List (List Str)):Prop where
 of:∀ ws∈L,∃ ps∈pss,LP ps qss ws
 all:∀ ps∈pss,aB ps qss=true\/∃ ws∈L,LP ps qss ws
def jz (pss:List (List Pt)):Prop:=∀ ps∈pss,PW ps/\ps≠[]/\ps.length<=12
theorem En {pss:List (List Pt)}{ps:List Pt}{ws:List Str} (h:ps∈pss) (ht:aD ps ws=true):bw pss ws=true:=by
 unfold bw;rw [List.any_eq_true];exact ⟨ps,h,ht⟩
theorem e7.part {pss qss:List (List Pt)}{L:List (List Str)} (h:e7 pss qss L) {ws:List Str} (hw:ws∈L):bw pss ws=true/\bw qss ws=false:=by
 obtain ⟨ps,h1,h2⟩:=h.of ws hw;exact ⟨En h1 h2.tk,h2.kn⟩
theorem e7.less {pss qss:List (List Pt)}{L:List (List Str)} (hp:jz pss) (h:e7 pss qss L) {vs:List Str} (h1:bw pss vs=true) (h2:bw qss vs=false):∃ ws∈L,ltv (lkD vs) (lkD ws)=false:=by
 unfold bw at h1;rw [List.any_eq_true] at h1;obtain ⟨ps,hm,ht⟩:=h1;rcases h.all ps hm with z | ⟨ws,hw,lp⟩
 ·rw [jY (hp ps hm).1 ht h2] at z;cases z
 ·exact ⟨ws,hw,Kp (by rw [<-ee ht,ee lp.tk]) (lp.le vs ht h2)⟩
theorem parts_nil {pss qss:List (List Pt)} (hp:jz pss) (hq:jz qss) (h1:e7 pss qss []) (h2:e7 qss pss []):AU pss qss none:=by
 intro vs;cases a:bw pss vs with
 | true=>
  cases b:bw qss vs with
  | true=>rfl
  | false=>obtain ⟨ws,hw,_⟩:=h1.less hp a b;cases hw
 | false=>
  cases b:bw qss vs with
  | false=>rfl
  | true=>obtain ⟨ws,hw,_⟩:=h2.less hq b a;cases hw
theorem AA {pss qss:List (List Pt)}{L M:List (List Str)}{ws:List Str} (hp:jz pss) (hq:jz qss) (h1:e7 pss qss L) (h2:e7 qss pss M) (hm:ws∈L++M) (hl:∀ vs∈L++M,ltv (lkD vs) (lkD ws)=false):AU pss qss (some ws):=by
 have key:∀ {rss sss:List (List Pt)}{N:List (List Str)},jz rss->e7 rss sss N->ws∈N->Words ws/\(∀ w∈ws,Bd w)/\ws≠[]/\ws.length<=12:=λ{rss sss N} hr hN hw=>by
  obtain ⟨ps,m1,m2⟩:=hN.of ws hw;obtain ⟨r1,r2,r3⟩:=hr ps m1;have hl:=ee m2.tk;refine ⟨lI r1 m2.tk,m2.bd,λe=>r2 (List.eq_nil_of_length_eq_zero (by rw [hl,e];rfl)),by lia⟩
 have kk:Words ws/\(∀ w∈ws,Bd w)/\ws≠[]/\ws.length<=12:=by
  rcases List.mem_append.mp hm with z | z
  ·exact key hp h1 z
  ·exact key hq h2 z
 refine ⟨?_,kk.1,kk.2.1,kk.2.2.1,kk.2.2.2,λvs hv=>?_⟩
 ·rcases List.mem_append.mp hm with z | z
  ·obtain ⟨a,b⟩:=h1.part z;rw [a,b];decide
  ·obtain ⟨a,b⟩:=h2.part z;rw [a,b];decide
 ·cases a:bw pss vs with
  | true=>
   cases b:bw qss vs with
   | true=>rw [a,b] at hv;exact (hv rfl).elim
   | false=>
    obtain ⟨us,hu,hle⟩:=h1.less hp a b;exact vg hle (hl us (List.mem_append_left _ hu))
  | false=>
   cases b:bw qss vs with
   | false=>rw [a,b] at hv;exact (hv rfl).elim
   | true=>
    obtain ⟨us,hu,hle⟩:=h2.less hq b a;exact vg hle (hl us (Od _ hu))
theorem zi {K:PySem.W.Frag}{sp:Sp}{Q:VK}{H:Hp}{l:Addr}{xs:List V}{kds:List PyData}{S:PyData->Prop} (o:rc S) (hq:SqL K H l xs) (hne:xs≠[]) (hl:xs.length=kds.length) (hS:∀ d∈kds,S d/\d.depth<=100)
  (hsp:∀ (m:Nat) (x:V) (d:PyData) (H2:Hp) (Q:VK),xs[m]? = some x->kds[m]? = some d->af H H2->(∀ k H',af H2 H'->Den K H' k d->Q k H')->sp [x] H2 Q E0) (hQ:∀ H',af H H'->Q (xs.getD (bz kds) .non) H'):Df K sp (.ref l) H Q:=by
 refine ⟨l,xs,rfl,hq,?_⟩;cases xs with
 | nil=>exact (hne rfl).elim
 | cons x r=>
  cases kds with
  | nil=>cases hl
  | cons d kr=>
   refine hsp 0 x d H _ rfl rfl (af.refl _) λk H' s' dk=>?_;refine xU o hq r kr 0 1 x k d H' (by simpa using hl) s' dk (hS d (N4 ..)).1 (λe he=>hS e (NY _ he)) rfl rfl (λm y e H2 Q2 h1 h2=>hsp (m+1) y e H2 Q2 (by simpa using h1) (by simpa using h2)) λH2 h2=>?_;exact hQ H2 h2
theorem y6:∀ {l m:List Str},l.Nodup->(∀ x∈l,x∈m)->l.length<=m.length
 | [],_,_,_=>Nat.zero_le _
 | x::r,m,hn,h=>by
  have hx:=h x (N4 ..);rw [List.nodup_cons] at hn;have:=y6 (l:=r) (m:=m.erase x) hn.2 λy hy=>(List.mem_erase_of_ne (show y≠x from λe=>hn.1 (by rw [<-e];exact hy))).mpr (h y (NY _ hy));rw [List.length_erase_of_mem hx] at this;have hp:0<m.length:=List.length_pos_of_mem hx;simp only [List.length_cons];lia
def sgL:List Nat:=kT.cps.toList
theorem zR:sgL.Pairwise (· < ·):=by unfold sgL;rw [sH];decide +kernel
theorem Hl:sgL.length=93:=by unfold sgL;rw [sH];decide +kernel
theorem rK {c:Nat}:c∈sgL↔sgn c=true:=by
 have h:=congrFun vp c;rw [<-h];unfold sgL;simp
theorem Fc (c:Nat):(sg c).length=1:=rfl
theorem IG {a b:Nat} (h:sg a=sg b):a=b:=by
 simp only [sg,Str.mk.injEq] at h;simpa using h
def Fy:Nat->List Nat
 | 0=>[48,49,50,51,52,53,54,55,56,57]
 | 1=>[97,98,99,100,101,102,103,104,105,106]
 | _=>[65,66,67,68,69,70,71,72,73,74]
theorem GS:∀ k<3,(Fy k).length=10/\((Fy k).map sg).Nodup/\∀ c∈Fy k,bx (sg c)=k/\sgn c=true:=by decide +kernel
theorem zt {k:Nat} (hk:k<3) {nm:List Str} (hn:nm.length<=9):∃ c∈sgL,bx (sg c)=k/\sg c∉nm:=by
 obtain ⟨h1,h2,h3⟩:=GS k hk;by_cases h:∀ x∈(Fy k).map sg,x∈nm
 ·have:=y6 h2 h;rw [NU,h1] at this;lia
 ·have:∃ x∈(Fy k).map sg,x∉nm:=by
   apply Classical.byContradiction;intro q;apply h;intro x hx;apply Classical.byContradiction;intro q2;exact q ⟨x,hx,q2⟩
  obtain ⟨x,hx,hq⟩:=this;obtain ⟨c,hc,rfl⟩:=N5.mp hx;exact ⟨c,rK.mpr (h3 c hc).2,(h3 c hc).1,hq⟩
theorem G8 {c:Nat} (h:sgn c=true):bW (sg c)=true:=by
 show cA sgn [c]=true;unfold cA;simp [h]
theorem one_sign {y:Str} (h:y.length=1) (hw:bW y=true):∃ c,y=sg c/\sgn c=true:=by
 have hl:y.cps.toList.length=1:=by simpa [Str.length] using h
 obtain ⟨c,hc⟩:=List.length_eq_one_iff.mp hl;refine ⟨c,kh (by rw [hc];rfl),?_⟩;unfold bW cA at hw;rw [hc] at hw;simpa using hw
theorem DA {y:Str} (hw:bW y=true):1<=y.length:=by
 have hl:y.length=y.cps.toList.length:=by simp [Str.length]
 rw [hl];unfold bW cA at hw;cases q:y.cps.toList with
 | nil=>rw [q] at hw;cases hw
 | cons a r=>simp
theorem Kw (a b:Nat):wlt (sg a) (sg b)=decide (a<b):=by
 rw [Ir (show (sg a).length=(sg b).length from rfl)];have e:decide ((sg a).cps.toList<(sg b).cps.toList)=decide (a<b):=lt1 a b;by_cases h:sg a=sg b
 ·rw [if_pos h,IG h];exact (decide_eq_false (Nat.lt_irrefl _)).symm
 ·rw [if_neg h,e]
theorem KD {c:Nat} (h:sgn c=true):Bd (sg c):=by
 refine ⟨by rw [Fc];decide,pP λd hd=>?_⟩;have e:d=c:=by simpa [sg] using hd
 subst e;unfold sgn at h;rw [Oa,Oa,decide_eq_true_eq,decide_eq_true_eq] at h;lia
theorem K4 {k:Nat}{nm:List Str}{i c:Nat} (hc:sgL[i]? = some c) (hk:bx (sg c)=k) (hn:sg c∉nm) (hb:∀ (j d:Nat),j<i->sgL[j]? = some d -> ¬ (bx (sg d)=k/\sg d∉nm)):LW k nm (sg c):=by
 have hs:sgn c=true:=rK.mp (NV hc);refine ⟨G8 hs,hk,hn,λy hw hy hny=>?_,KD hs⟩;have hp:=DA hw;by_cases h1:y.length=1
 ·obtain ⟨d,rfl,hd⟩:=one_sign h1 hw;rw [Kw];refine decide_eq_false λhlt=>?_;obtain ⟨j,hj⟩:=List.getElem?_of_mem (rK.mpr hd);rcases Nat.lt_or_ge j i with q | q
  ·exact hb j d q hj ⟨hy,hny⟩
  ·rcases Nat.eq_or_lt_of_le q with e | q
   ·subst e;rw [hc] at hj;cases hj;exact Nat.lt_irrefl _ hlt
   ·have hli:=aF hc;have hlj:=aF hj;have:=List.pairwise_iff_getElem.mp zR i j hli hlj q;rw [NW hli] at hc;rw [NW hlj] at hj;cases hc;cases hj;lia
 ·exact Gy (by rw [Fc];lia)
def lC (K:PySem.W.Frag):Sp:=λvs H Q _=>∃ z:Str,vs=[.str z]/\LOk z/\PyData.strOk z=true/\∀ r H',af H H'->Den K H' r (lkD (Txt.split z " "))->Q r H'
def iW (K:PySem.W.Frag):Sp:=λvs H Q _=>∃ (k:Nat) (b:Addr) (nm:List Str),vs=[.str (kO k),.ref b]/\k<3/\SqL K H b (nm.map V.str)/\nm.length<=9/\∀ x H',af H H'->LW k nm x->Q (.str x) H'
def fk (K:PySem.W.Frag):Sp:=λvs H Q _=>∃ (u:V) (b:Addr) (xs:List V) (ps:List Pt) (oss:List (List Pt)),vs=[u,.ref b]/\Den K H u (be ps)/\SqL K H b xs/\aI K H xs (oss.map be)/\POk ps/\(∀ os∈oss,POk os)/\xs.length<=1000/\∀ H',af H H'->Q (.bl (aB ps oss)) H'
def Bg (p:Pt) (qs:List Pt) (l:List Str):Prop:=∃ ls,l=ED p qs ls/\((∃ x,p = .word x)\/∃ x0 x1 x2,ls=[x0,x1,x2]/\LW 0 (named qs) x0/\LW 1 (named qs) x1/\LW 2 (named qs) x2)
def kR (K:PySem.W.Frag):Sp:=λvs H Q _=>∃ (v:V) (b:Addr) (xs:List V) (p:Pt) (qs:List Pt),vs=[v,.ref b]/\Den K H v p.dat/\SqL K H b xs/\aI K H xs (qs.map Pt.dat)/\PtW p/\PW qs/\qs.length<=9 /\
 ∀ D H' l,H D=none->af H H'->H' D=some (.lst (l.map V.str))->Bg p qs l->Q (.ref D) H'
def pU (K:PySem.W.Frag):Sp:=λvs H Q _=>∃ (a:Addr) (xs:List V) (oss:List (List Pt)) (w:Str),vs=[.ref a,.str w]/\SqL K H a xs/\aI K H xs (oss.map be)/\(∀ os∈oss,POk os/\os≠[])/\LOk w/\xs.length<=1000 /\
 ∀ D acc H',H D=none->af H H'->H' D=some (.lst acc)->aI K (lim H H') acc ((aN oss w).map be)->Q (.ref D) H'
def ie (K:PySem.W.Frag):Sp:=λvs H Q _=>∃ (u:V) (b:Addr) (xs:List V) (p:Pt) (ps:List Pt) (oss:List (List Pt)),vs=[u,.ref b]/\Den K H u (be (p::ps))/\SqL K H b xs/\aI K H xs (oss.map be)/\PW (p::ps)/\ps.length<12 /\
 (∀ os∈oss,PW os/\os≠[]/\os.length<=12)/\oss.length<=9/\aB (p::ps) oss=false/\∀ w H',af H H'->FW p ps oss w->Q (.str w) H'
def g7 (K:PySem.W.Frag):Sp:=λvs H Q _=>∃ (u:V) (b:Addr) (xs:List V) (ps:List Pt) (oss:List (List Pt)),vs=[u,.ref b]/\Den K H u (be ps)/\SqL K H b xs/\aI K H xs (oss.map be)/\PW ps/\ps≠[]/\ps.length<=12/\jz oss/\oss.length<=9 /\
 (aB ps oss=true->∀ H',af H H'->Q .non H')/\∀ ws H',af H H'->LP ps oss ws->Q (.str (Txt.join " " ws)) H'
def lnV (ws:List Str):V:=.str (Txt.join " " ws)
def mN (K:PySem.W.Frag):Sp:=λvs H Q _=>∃ (a b:Addr) (xs ys:List V) (pss qss:List (List Pt)),vs=[.ref a,.ref b]/\SqL K H a xs/\aI K H xs (pss.map be)/\SqL K H b ys/\aI K H ys (qss.map be)/\jz pss/\jz qss/\pss.length<=9/\qss.length<=9 /\
 ∀ D H' L,H D=none->af H H'->H' D=some (.lst (L.map lnV))->e7 pss qss L->L.length<=9->Q (.ref D) H'
def oS:Option (List Str)->V
 | none=>.non
 | some ws=>lnV ws
def kI (K:PySem.W.Frag):Sp:=λvs H Q _=>∃ (a b:Addr) (xs ys:List V) (pss qss:List (List Pt)),vs=[.ref a,.ref b]/\SqL K H a xs/\aI K H xs (pss.map be)/\SqL K H b ys/\aI K H ys (qss.map be)/\jz pss/\jz qss/\pss.length<=9/\qss.length<=9 /\
 ∀ o H',af H H'->AU pss qss o->Q (oS o) H'
def i4:Nat->List (List Pt)->List (List Pt)
 | 0,l=>l
 | n+1,l=>if aB (l.getD n []) (l.take n++l.drop (n+1))=true then i4 n (l.take n++l.drop (n+1)) else i4 n l
def gw (K:PySem.W.Frag):Sp:=λvs H Q _=>∃ (a:Addr) (xs:List V) (pss:List (List Pt)),vs=[.ref a]/\SqL K H a xs/\aI K H xs (pss.map be)/\jz pss/\pss.length<=9 /\
 ∀ D acc H' l,H D=none->af H H'->H' D=some (.lst acc)->l.Perm pss->lZ l->A5 H H' acc->(∀ x∈acc,x ≠ .ref D)->aI K (lim H H') acc ((i4 l.length l).map be)->Q (.ref D) H'
def jl (p q:Pt):Option Pt:=if p.within q=true then some p else if q.within p=true then some q else none
def ptO:Option Pt->PyData
 | none=>.none
 | some p=>p.dat
def eO (ps qs:List Pt):Option (List Pt):=if ps.length=qs.length/\((ps.zip qs).all λx=>(jl x.1 x.2).isSome)=true then some ((ps.zip qs).map λx=>(jl x.1 x.2).getD (.hole 2)) else none
def qQ (K:PySem.W.Frag):Sp:=λvs H Q _=>∃ (u v:V) (p q:Pt),vs=[u,v]/\Den K H u p.dat/\Den K H v q.dat/\p.ok/\q.ok/\∀ r H',af H H'->Den K H' r (ptO (jl p q))->Q r H'
def CT (K:PySem.W.Frag):Sp:=λvs H Q _=>∃ (u v:V) (ps qs:List Pt),vs=[u,v]/\Den K H u (be ps)/\Den K H v (be qs)/\POk ps/\POk qs/\∀ r H',af H H'->Den K H' r (oD (eO ps qs))->Q r H'
theorem qd (y:V) (ys:List V):jD (y::ys) (some 1) none=ys:=by
 unfold jD;have h1:HT.sIx (y::ys).length 0 (some ((1:Nat):Int))=1:=by rw [HT.wN];simp
 have h2:HT.sIx (y::ys).length 0 (some 1)=1:=h1;rw [h2,HT.yg];simp
theorem xI {xs:List V} (j:Nat):jD xs (some (j:Int)) none=xs.drop j:=by
 unfold jD;rw [HT.wN,HT.yg];rcases Nat.le_total j xs.length with h | h
 ·rw [Nat.min_eq_left h,NZ (by rw [List.length_drop];exact NX _)]
 ·rw [Nat.min_eq_right h,Nat.sub_self,List.take_zero,List.drop_of_length_le h]
theorem xt {p:Pt} (h:PtW p):p.within p=true:=by
 cases p with
 | word x=>exact decide_eq_true rfl
 | hole m=>rw [bH,decide_eq_true rfl];rfl
theorem vL {ps qs:List Pt} (hl:ps.length=qs.length) (h:∀ (i:Nat) p q,ps[i]? = some p->qs[i]? = some q->p.within q=true):aC ps qs=true:=by
 unfold aC;rw [decide_eq_true hl,Bool.true_and];exact Bk λi p q _ h1 h2=>h i p q h1 h2
theorem at_of {α:Type}{l:List α}{i:Nat} (h:i<l.length):∃ x,l[i]? = some x:=⟨l[i],NW h⟩
end LG
namespace LG
open PySem L2
theorem cf {C:St->Prop}{σ:St}{f:Option V->St} (h:∃ u0,σ=f u0) (k:∀ u0,C (f u0)):C σ:=by
 obtain ⟨u0,rfl⟩:=h;exact k _
theorem yc {C:St->Prop}{σ:St}{f:Option V->Option V->St} (h:∃ u0 u1,σ=f u0 u1) (k:∀ u0 u1,C (f u0 u1)):C σ:=by
 obtain ⟨u0,u1,rfl⟩:=h;exact k _ _
theorem KQ {C:St->Prop}{σ:St}{f:Option V->Option V->Option V->St} (h:∃ u0 u1 u2,σ=f u0 u1 u2) (k:∀ u0 u1 u2,C (f u0 u1 u2)):C σ:=by
 obtain ⟨u0,u1,u2,rfl⟩:=h;exact k _ _ _
theorem G6 {C:St->Prop}{σ:St}{f:Option V->Option V->Option V->Option V->Option V->St} (h:∃ u0 u1 u2 u3 u4,σ=f u0 u1 u2 u3 u4) (k:∀ u0 u1 u2 u3 u4,C (f u0 u1 u2 u3 u4)):C σ:=by
 obtain ⟨u0,u1,u2,u3,u4,rfl⟩:=h;exact k _ _ _ _ _
theorem Lz {C:St->Prop}{σ:St}{f:Option V->Option V->Option V->Option V->Option V->Option V->St} (h:∃ u0 u1 u2 u3 u4 u5,σ=f u0 u1 u2 u3 u4 u5) (k:∀ u0 u1 u2 u3 u4 u5,C (f u0 u1 u2 u3 u4 u5)):C σ:=by
 obtain ⟨u0,u1,u2,u3,u4,u5,rfl⟩:=h;exact k _ _ _ _ _ _
theorem K5 {C:St->Prop}{σ:St}{f:Option V->Option V->Option V->Option V->Option V->Option V->Option V->Option V->Option V->Option V->Option V->St} (h:∃ u0 u1 u2 u3 u4 u5 u6 u7 u8 u9 u10,σ=f u0 u1 u2 u3 u4 u5 u6 u7 u8 u9 u10) (k:∀ u0 u1 u2 u3 u4 u5 u6 u7 u8 u9 u10,C (f u0 u1 u2 u3 u4 u5 u6 u7 u8 u9 u10)):C σ:=by
 obtain ⟨u0,u1,u2,u3,u4,u5,u6,u7,u8,u9,u10,rfl⟩:=h;exact k _ _ _ _ _ _ _ _ _ _ _
end LG
namespace LG
open PySem L2 PySem.Builtin PySem.Builtin.Str
theorem DZ {p q r:Pt} (hp:PtW p) (hq:PtW q) (h1:p.within q=true) (h2:q.within r=true):p.within r=true:=by
 cases p with
 | word x=>exact oG hq h2 h1
 | hole k=>
  rw [bH,Bool.or_eq_true,decide_eq_true_eq,decide_eq_true_eq] at h1 ⊢;rcases h1 with rfl | rfl
  ·rw [bH,Bool.or_eq_true,decide_eq_true_eq,decide_eq_true_eq] at h2;exact h2
  ·rw [bH,Bool.or_eq_true,decide_eq_true_eq] at h2;exact .inr (h2.elim id id)
theorem G7 {p q:Pt} (h1:p.within q=true) (h2:q.within p=true):p=q:=by
 cases p with
 | word x=>
  cases q with
  | word y=>
   have e:x=y:=of_decide_eq_true h1;rw [e]
  | hole m=>
   rw [bH,Bool.or_eq_true,decide_eq_true_eq,decide_eq_true_eq] at h2;rcases h2 with z | z <;> cases z
 | hole k=>
  rw [bH,Bool.or_eq_true,decide_eq_true_eq,decide_eq_true_eq] at h1;rcases h1 with rfl | rfl
  ·rfl
  ·rw [bH,Bool.or_eq_true,decide_eq_true_eq] at h2;exact h2.elim id id
theorem oB {ps:List Pt} (h:PW ps):aC ps ps=true:=vL rfl λi p q h1 h2=>by
 rw [h1] at h2;cases h2;exact xt (h p (NV h1))
theorem vB {ps qs rs:List Pt} (hp:PW ps) (hq:PW qs) (h1:aC ps qs=true) (h2:aC qs rs=true):aC ps rs=true:=by
 have l1:=nz h1;have l2:=nz h2;refine vL (l1.trans l2) λi p r e1 e2=>?_;obtain ⟨q,e3⟩:=at_of (l:=qs) (i:=i) (by rw [<-l1];exact aF e1);exact DZ (hp p (NV e1)) (hq q (NV e3)) (mq h1 e1 e3) (mq h2 e3 e2)
theorem Fn {ps qs:List Pt} (h1:aC ps qs=true) (h2:aC qs ps=true):ps=qs:=by
 have l1:=nz h1;refine List.ext_getElem? λi=>?_;rcases Nat.lt_or_ge i ps.length with hi | hi
 ·obtain ⟨p,e1⟩:=at_of hi;obtain ⟨q,e2⟩:=at_of (l:=qs) (i:=i) (by lia);rw [e1,e2,G7 (mq h1 e1 e2) (mq h2 e2 e1)]
 ·rw [List.getElem?_eq_none hi,List.getElem?_eq_none (by lia)]
theorem oC {ps:List Pt}{oss:List (List Pt)}:aB ps oss=true↔∃ os∈oss,aC ps os=true:=by
 unfold aB;rw [List.any_eq_true]
def Kt (n:Nat) (l:List (List Pt)):Prop:=∀ (i j:Nat) p q,n<=i->i≠j->l[i]? = some p->l[j]? = some q->aC p q=false
theorem DC {α:Type}{l:List α}{n j:Nat}{q:α} (hn:n<l.length) (h:(l.take n++l.drop (n+1))[j]? = some q):∃ j',l[j']? = some q/\j'≠n/\(j<n->j' = j)/\(n<=j->j' = j+1):=by
 rcases Nat.lt_or_ge j n with z | z
 ·rw [List.getElem?_append_left (by rw [N7];lia),List.getElem?_take,if_pos z] at h;exact ⟨j,h,by lia,λ_=>rfl,λy=>by lia⟩
 ·rw [List.getElem?_append_right (by rw [N7];lia),List.getElem?_drop,N7] at h;refine ⟨j+1,?_,by lia,λy=>by lia,λ_=>rfl⟩;have e:n+1+(j - min n l.length)=j+1:=by lia
  rw [e] at h;exact h
theorem tF {l0:List (List Pt)} (h0:∀ p∈l0,PW p):∀ (n:Nat) (l:List (List Pt)),n<=l.length->(∀ p∈l,p∈l0)->(∀ p∈l0,∃ q∈l,aC p q=true)->Kt n l ->
  (∀ p∈l0,∃ q∈i4 n l,aC p q=true)/\Kt 0 (i4 n l)/\(i4 n l).Sublist l
 | 0,l,_,_,h2,h3=>⟨h2,h3,List.Sublist.refl _⟩
 | n+1,l,hn,h1,h2,h3=>by
  have hg:l.getD n []=l[n]:=by rw [N9,NW (by lia)];rfl
  have xS:(l.take n++l.drop (n+1)).Sublist l:=by
   have e:l.drop n=l[n]::l.drop (n+1):=List.drop_eq_getElem_cons (by lia);have e2:(l.take n++l.drop (n+1)).Sublist (l.take n++l.drop n):=by
    rw [e];exact List.Sublist.append (List.Sublist.refl _) (List.sublist_cons_self ..)
   rw [List.take_append_drop] at e2;exact e2
  unfold i4
  split
  ·rename_i h;rw [hg] at h;obtain ⟨y,hy,hw⟩:=oC.mp h;have r:=tF h0 n (l.take n++l.drop (n+1)) (by rw [List.length_append,N7,List.length_drop];lia) (λp hp=>h1 p (xS.subset hp)) (λp hp=>?_) (λi j p q hi hij e1 e2=>?_)
   ·exact ⟨r.1,r.2.1,r.2.2.trans xS⟩
   ·obtain ⟨q,hq,hpq⟩:=h2 p hp;obtain ⟨m,hm⟩:=List.getElem?_of_mem hq;by_cases e:m=n
    ·subst e;have:q=l[m]:=by
      rw [NW (by lia)] at hm;exact (Option.some.inj hm).symm
     subst this;exact ⟨y,hy,vB (h0 p hp) (h0 _ (h1 _ hq)) hpq hw⟩
    ·refine ⟨q,?_,hpq⟩;rw [List.mem_append];rcases Nat.lt_or_ge m n with z | z
     ·exact .inl (NV (i:=m) (by rw [List.getElem?_take,if_pos z];exact hm))
     ·refine .inr (NV (i:=m - (n+1)) ?_);rw [List.getElem?_drop];have:n+1+(m - (n+1))=m:=by lia
      rw [this];exact hm
   ·obtain ⟨i',f1,f2,f3,f4⟩:=DC (by lia) e1;obtain ⟨j',g1,g2,g3,g4⟩:=DC (by lia) e2;have hi':=f4 hi;refine h3 i' j' p q (by lia) ?_ f1 g1;rcases Nat.lt_or_ge j n with z | z
    ·have:=g3 z;lia
    ·have:=g4 z;lia
  ·rename_i h;rw [hg] at h;refine tF h0 n l (by lia) h1 h2 λi j p q hi hij e1 e2=>?_;rcases Nat.lt_or_ge n i with z | z
   ·exact h3 i j p q z hij e1 e2
   ·have:i=n:=by lia
    subst this;have hp:p=l[i]:=by
     rw [NW (by lia)] at e1;exact (Option.some.inj e1).symm
    subst hp;rw [Bool.eq_false_iff];intro w;apply h;refine oC.mpr ⟨q,?_,w⟩;rw [List.mem_append];rcases Nat.lt_or_ge j i with y | y
    ·exact .inl (NV (i:=j) (by rw [List.getElem?_take,if_pos y];exact e2))
    ·refine .inr (NV (i:=j - (i+1)) ?_);rw [List.getElem?_drop];have:i+1+(j - (i+1))=j:=by lia
     rw [this];exact e2
theorem JM {l:List (List Pt)} (h:∀ p∈l,PW p) (p:List Pt):p∈i4 l.length l↔p∈l/\∀ q∈l,aC p q=true->q=p:=by
 obtain ⟨h1,h2,h3⟩:=tF h l.length l (NX _) (λp hp=>hp) (λp hp=>⟨p,hp,oB (h p hp)⟩) (λi j p q hi _ e1 _=>by have:=aF e1;lia);constructor
 ·intro hp;have hpl:=h3.subset hp;refine ⟨hpl,λq hq hw=>?_⟩;obtain ⟨q',hq',hw'⟩:=h1 q hq;obtain ⟨i,hi⟩:=List.getElem?_of_mem hp;obtain ⟨j,hj⟩:=List.getElem?_of_mem hq';have KY:=vB (h p hpl) (h q hq) hw hw';by_cases e:i=j
  ·subst e;rw [hi] at hj;cases hj;exact (Fn hw hw').symm
  ·rw [h2 i j p q' (Nat.zero_le _) e hi hj] at KY;cases KY
 ·rintro ⟨hp,hm⟩;obtain ⟨q,hq,hw⟩:=h1 p hp;rw [<-hm q (h3.subset hq) hw];exact hq
theorem CP {l:List (List Pt)} (h:∀ p∈l,PW p):(i4 l.length l).Nodup:=by
 obtain ⟨h1,h2,h3⟩:=tF h l.length l (NX _) (λp hp=>hp) (λp hp=>⟨p,hp,oB (h p hp)⟩) (λi j p q hi _ e1 _=>by have:=aF e1;lia);unfold List.Nodup;rw [List.pairwise_iff_getElem];intro i j hi hj hij e;obtain ⟨q,hq⟩:=at_of hj;have hp:(i4 l.length l)[i]? = some q:=by rw [NW hi,e,<-NW hj];exact hq
 have:=h2 i j q q (Nat.zero_le _) (by lia) hp hq;rw [oB (h q (h3.subset (NV hq)))] at this;cases this
theorem JP {l:List (List Pt)} (h:∀ p∈l,PW p) (ho:lZ l):lZ (i4 l.length l):=by
 obtain ⟨h1,h2,h3⟩:=tF h l.length l (NX _) (λp hp=>hp) (λp hp=>⟨p,hp,oB (h p hp)⟩) (λi j p q hi _ e1 _=>by have:=aF e1;lia);exact ho.sublist h3
theorem Fp {a b:List (List Pt)} (ha:lZ a) (hb:lZ b) (na:a.Nodup) (nb:b.Nodup) (h:∀ p,p∈a↔p∈b):a=b:=
 lg ((List.perm_ext_iff_of_nodup na nb).mpr h) ha hb
end LG
namespace LG
open PySem L2
def Pt.place:Pt->PyData
 | .word w=>.tuple [.int 0,.int w.length,.str w]
 | .hole k=>.tuple [.int (k+1),.int 0,.str ""]
theorem LK (i j i' j':Int) (x x':Str):ltv (.tuple [.int i,.int j,.str x]) (.tuple [.int i',.int j',.str x'])=if i=i' then (if j=j' then (if x=x' then false else decide (x.cps.toList<x'.cps.toList)) else decide (j<j')) else decide (i<i'):=by
 simp only [ltv,aL,PyData.eqv,beq_iff_eq]
theorem KO (i j i' j':Int) (x x':Str):PyData.eqv (.tuple [.int i,.int j,.str x]) (.tuple [.int i',.int j',.str x'])=(decide (i=i') && decide (j=j') && decide (x=x')):=by
 simp only [PyData.eqv,PyData.eqvAll,Bool.and_true,Bool.and_assoc];rw [Bool.eq_iff_iff];simp
theorem HR (a b:PyData) (x y:List PyData):ltv (.tuple [a,.list x]) (.tuple [b,.list y])=if PyData.eqv a b=true then (if PyData.eqvAll x y=true then false else aL x y) else ltv a b:=by
 show aL [a,.list x] [b,.list y]=_;rw [aZ,aZ];rfl
end LG
namespace L2
open PySem PySem.Spec PyProof.Rows PySem.W
theorem Ki {P:Program}{w:World}{k:Key}{u:Value} (h:(bf P w).is k u=true):RelV (kV k) u:=by
 rcases bU (show rO k u=true from h) with ⟨i,t,rfl,rfl⟩ | ⟨x,t,rfl,rfl⟩
 ·exact ⟨t,rfl⟩
 ·exact ⟨t,rfl⟩
section
variable {X:Cx}{tg:Expr}
end
section
variable {X:Cx}{pins:List (Addr×Obj)}{σ:St}{H:Hp}{s:Shared}
end
end L2
namespace L2
open PySem PySem.Spec PyProof.Rows
section
variable {X:Cx}
def AO:V->List V->Hp->VK->Prop:=λx vs H Q=>∃ z y,x = .str z/\vs=[.str y]/\Q (.bl (Txt.startswith z y)) H
theorem Cu:MtR X "str.startswith" AO:=by
 intro pins s σ H x vs v us Q I rx rv h;obtain ⟨z,y,rfl,rfl,q⟩:=h;obtain ⟨t,rfl⟩:=rx;obtain ⟨u,rfl,t',rfl⟩:=rv.one;exact SC.startswith ⟨.bl _,H,I,rfl,q⟩
def JY:V->List V->Hp->VK->Prop:=λx vs H Q=>∃ l y r,x = .ref l/\vs=[.int 0]/\H l=some (.lst (y::r))/\Q y (upd H l (.lst r))
theorem FU:MtR X "list.pop" JY:=by
 intro pins s σ H x vs v us Q I rx rv h;obtain ⟨l,y,r,rfl,rfl,hH,q⟩:=h;cases rx;obtain ⟨u,rfl,t',rfl⟩:=rv.one;obtain ⟨z,its,n,rr,hl,e⟩:=I.G5 hH;cases rr with
 | cons ry rt=>
  rename_i w ws;refine call_meets F.slot_list_pop ⟨_,e,rfl⟩ F.entry_list_pop (F.args_list_pop_2 _ _) (PySem.MeetsSeq.list_pop_at l (w::ws).toArray n 0 t' 0 w (by decide) ?_ (by simp) (by rw [Ob];lia)) ⟨e,?_⟩
  ·unfold seqIndex?;simp
  ·refine ⟨y,_,I.Jb (m7:=ws) hH e ?_ rt ?_,ry,q⟩
   ·apply Array.toList_inj.mp;simp
   ·have:(y::r).length<=sizeLine:=z;simp at this;lia
def Nc (a b:Str) (te:TE):TE:=λσ H Q=>te σ H λx H1=>∃ z,x = .str z/\z.length<=100000/\Q (.str (a++z++b)) H1
def K7 (a:Str) (te:TE):TE:=λσ H Q=>te σ H λx H1=>∃ z,x = .str z/\z.length<=100000/\Q (.str (a++z)) H1
theorem yG {a:Str}{z:Str}{e:Expr}{te:TE}{fp:Pos}{rest:List (Sem Value)}{pins:List (Addr×Obj)}{s:Shared}{σ:St}{H:Hp}{Q:Value->Shared->Prop}{R:V->Hp->Prop} (he:PE X e te) (I:Inv X pins σ H s) (h:te σ H R)
  (k:∀ s1 H1 z,Inv X pins σ H1 s1->R (.str z) H1->(a++z).length<=sizeLine/\wpAny (model X.prog X.w) X.A (joinParts (a++z) rest) Q X.xe s1) (hz:∀ x H1,R x H1->∃ z,x = .str z/\z.length<=sizeLine) :
  wpAny (model X.prog X.w) X.A (joinParts a (eval (.FormattedValue e (-1) none fp) X.env::rest)) Q X.xe s:=by
 refine joinParts_cons (FormattedValue_plain (thn (he pins s σ H _ I h) λv s1 ⟨x,H1,I1,r1,q1⟩=>?_));obtain ⟨z,rfl,hl⟩:=hz x H1 q1;obtain ⟨t,rfl⟩:=r1;exact formatField_str (λt' tk=>k _ H1 z (I1.tok _) q1) hl
theorem JD {a b:Str}{e:Expr}{te:TE}{p1 p2 p3 p4:Pos}{j1 j2:Nat} (he:PE X e te) (ha:a.length<=1000:=by decide) (hb:b.length<=1000:=by decide) (h0:(Str.empty++a)=a:=by rfl) :
  PE X (.JoinedStr [.Constant (.str a) j1 p1,.FormattedValue e (-1) none p2,.Constant (.str b) j2 p3] p4) (Nc a b te):=by
 intro pins s σ H Q I h;have hs:=sizeLine_eq;refine JoinedStr_many (joinParts_cons (Calls.Constant_str ?_));show _<=sizeLine/\_;rw [h0];refine ⟨by lia,yG (z:=a) he (I.tok _) h (λs1 H1 z I1 q1=>?_) λx H1 q=>?_⟩
 ·obtain ⟨z',e,hl,q⟩:=q1;cases e;refine ⟨by rw [strLen_append];lia,joinParts_cons (Calls.Constant_str ?_)⟩;show _<=sizeLine/\_;exact ⟨by rw [strLen_append,strLen_append];lia,joinParts_nil ⟨.str _,H1,(I1.tok _).tok _,⟨_,rfl⟩,q⟩ (by rw [strLen_append,strLen_append];lia)⟩
 ·obtain ⟨z,e,hl,_⟩:=q;exact ⟨z,e,by lia⟩
theorem Ht {a:Str}{e:Expr}{te:TE}{p1 p2 p4:Pos}{j1:Nat} (he:PE X e te) (ha:a.length<=1000:=by decide) (h0:(Str.empty++a)=a:=by rfl) :
  PE X (.JoinedStr [.Constant (.str a) j1 p1,.FormattedValue e (-1) none p2] p4) (K7 a te):=by
 intro pins s σ H Q I h;have hs:=sizeLine_eq;refine JoinedStr_many (joinParts_cons (Calls.Constant_str ?_));show _<=sizeLine/\_;rw [h0];refine ⟨by lia,yG (z:=a) he (I.tok _) h (λs1 H1 z I1 q1=>?_) λx H1 q=>?_⟩
 ·obtain ⟨z',e,hl,q⟩:=q1;cases e;exact ⟨by rw [strLen_append];lia,joinParts_nil ⟨.str _,H1,I1.tok _,⟨_,rfl⟩,q⟩ (by rw [strLen_append];lia)⟩
 ·obtain ⟨z,e,hl,_⟩:=q;exact ⟨z,e,by lia⟩
end
theorem eG {α:Type}{M:Model}{A:Around}{t:Sem α}{Q:α->Shared->Prop}{E:Value->Shared->Prop}{s:Shared}{n:Nat} (hn:n<=s.toks) (h:wpAny M A t Q E s):wpAny M A t (λa s'=>Q a s'/\n<=s'.toks) E s:=
 wpAny_mono (wpAny_toks_of hn h) (λ_ _ x=>And.symm x) λ_ _ x=>x.2
theorem zG {α:Type}{M:Model}{A:Around}{t:Sem α}{Q:α->Shared->Prop}{E:Value->Shared->Prop}{s:Shared} (ht:∃ k,t=Sem.fresh k) (h:wpAny M A t Q E s):wpAny M A t (λa s'=>Q a s'/\0<s'.toks) E s:=by
 obtain ⟨k,rfl⟩:=ht;have one:wpAny M A (k s.toks) Q E { s with toks:=s.toks+1 }:=λΓ p g=>h Γ p g;exact λΓ p g=>eG (s:={ s with toks:=s.toks+1 }) (n:=1) (Nat.succ_pos _) one Γ p g
def Mg:PyData->Str
 | .str x=>x
 | d=>d.shown
structure Np (d:PyData):Prop where
 NK:d.showable=true
 nod:d.hasDict=false
 dep:d.depth<=100
 len:(∀ x,d ≠ .str x)->d.shown.length<=sizeLine
section
variable {X:Cx}
end
section
variable {X:Cx}
def PEq (X:Cx) (e:Expr) (t:TE):Prop:=
 ∀ (pins:List (Addr×Obj)) (s:Shared) (σ:St) (H:Hp) (Q:VK),0<s.toks->Inv X pins σ H s->t σ H Q->wpAny (model X.prog X.w) X.A (eval e X.env) (EP X pins σ Q) X.xe s
def GN (X:Cx) (st:List Stmt) (t:TS):Prop:=
 ∀ (pins:List (Addr×Obj)) (s:Shared) (σ:St) (H:Hp) (D:Ends),0<s.toks->Inv X pins σ H s->t D σ H->wpAny (model X.prog X.w) X.A (execs st X.env) (SP X pins D) X.xe s
def PTq (X:Cx) (e:Expr) (t:TT):Prop:=
 ∀ (whole:Sem Value) (pins:List (Addr×Obj)) (s:Shared) (σ:St) (H:Hp) (Q:Bool->Hp->Prop),Inv X pins σ H s->t σ H Q->wpAny (model X.prog X.w) X.A (isTrue e X.env whole) (λb s'=>TP X pins σ Q b s'/\(b=false->0<s'.toks)) X.xe s
theorem Iy {a b:Expr}{rest:List Expr}{tA tB:TT}{pos:Pos} (ha:PT X a tA) (hb:PTq X (.BoolOp .Or (b::rest) pos) tB):PTq X (.BoolOp .Or (a::b::rest) pos) (tOr tA tB):=by
 intro wh pins s σ H Q I h;refine isTrue_or (thn (ha pins s σ H _ I h) λc s1 ⟨H1,I1,q1⟩=>?_);cases c with
 | true=>exact ⟨⟨H1,I1,q1⟩,λz=>by cases z⟩
 | false=>exact hb wh pins s1 σ H1 Q I1 q1
def MH (tc:TT) (t u:TS):TS:=λD σ H=>tc σ H λb H1=>if b=true then t { D with nx:=λ_ _=>False } σ H1 else u D σ H1
theorem GF {c:Expr}{a rest:List Stmt}{tc:TT}{t u:TS}{pos:Pos} (hc:PTq X c tc) (ha:PSs X a t) (hr:GN X rest u):PSs X (.If c a [] pos::rest) (MH tc t u):=by
 intro pins s σ H D I h;refine wpAny_execs_cons ?_;refine wpAny_If (thn (hc _ pins s σ H _ I h) λd s1 ⟨⟨H1,I1,q1⟩,ht⟩=>?_);cases d with
 | true=>
  refine thn (ha pins s1 σ H1 _ I1 q1) λf s2 q=>?_;cases f with
  | next=>exact q.elim λ_ q=>q.elim λ_ q=>q.2.elim
  | ret v=>exact q
  | brk=>exact q
  | cont=>exact q
 | false=>exact wpAny_execs_nil (hr pins s1 σ H1 D (ht rfl) I1 q1)
def Ld (K:PySem.W.Frag) (y z:Str) (to:TE):TE:=λσ H Q=>to σ H λx H1=>∃ v,x = .str v/\(y == z)=false/\v.length<=10000/\z.length<=14/\Q (.str (Txt.replace v y z)) H1
theorem qC {o:Expr}{to:TE}{y z:Str}{k1 k2:Nat}{p1 p2 apos cQ:Pos} (ho:PE X o to)
  (tE:attributeBase o "replace" X.env (eval o X.env)=eval o X.env:=by rfl)
  (Dr:((backTo cQ (starEach [.Constant (.str y) k1 p1,.Constant (.str z) k2 p2] X.env)).all (λx=>!x.1) && (backToKw cQ (keywordEach [] X.env)).all (λx=>x.1.isSome)
   && decide (([.Constant (.str y) k1 p1,.Constant (.str z) k2 p2]:List Expr).length+([]:List Keyword).length+(if ([]:List Keyword).isEmpty then 0 else 1)<30))=true:=by rfl)
  (sJ:(apos.endLine == cQ.line)=true:=by rfl) :
  PEq X (.Call (.Attribute o "replace" apos) [.Constant (.str y) k1 p1,.Constant (.str z) k2 p2] [] cQ) (Ld X.K y z to):=by
 intro pins s σ H Q ht I h;refine wpAny_Call_method_late tE Dr sJ rfl (thn (eG (n:=1) ht (ho pins s σ H _ I h)) λu s1 ⟨⟨x,H1,I1,r1,v,e,hyz,hv,hz,q⟩,h1⟩=>?_);subst e;obtain ⟨t,rfl⟩:=r1;refine ⟨"str","str.replace",PySem.F.plainAttrs_str,PySem.F.slot_str_replace,PySem.F.type_str_replace,typeIs_str s1 v t,(λ_ e=>nomatch e),?_⟩
 ·refine Calls.callWith_builtin rfl (Calls.evalArgs_plain ?_);refine Calls.spliced_cons (x:=eval (.Constant (.str y) k1 p1) X.env) (Calls.Constant_str ?_);refine Calls.spliced_cons (x:=eval (.Constant (.str z) k2 p2) X.env) (rest:=[]) (Calls.Constant_str ?_);refine Calls.spliced_nil ?_;refine SC.replaceW (Nat.ne_of_gt h1) (Nat.succ_ne_zero _) (Nat.ne_of_lt (Nat.lt_succ_self _)) hyz (N2 hv (by decide)) hz λt' k=>?_;exact ⟨.str _,H1,I1.tok _,⟨_,rfl⟩,q⟩
structure PAj (X:Cx) (es:List Expr) (t:TA):Prop where
 go:PA X es t
structure PSj (X:Cx) (st:Stmt) (t:TS):Prop where
 go:PS X st t
structure NM (X:Cx) (st:List Stmt) (t:TS):Prop where
 go:PSs X st t
end
theorem vE {x:V}:∀ {xs:List V}{us:List Value},aV xs us->xs.all gy=true->us.countP (eqU x)=xs.countP λy=>eqV y x
 | _,_,.nil,_=>rfl
 | y::xs,u::us,.cons r t,f=>by
  rw [List.all_cons,Oa] at f;rw [List.countP_cons,List.countP_cons,zo r f.1,vE t f.2]
def C8 (K:PySem.W.Frag):V->List V->Hp->VK->Prop:=λx vs H Q=>∃ p xs y,x = .ref p/\vs=[y]/\SqL K H p xs/\gy y=true/\xs.all gy=true/\Q (.int (xs.countP λz=>eqV z y:Nat)) H
theorem Eh {X:Cx}:MtR X "list.count" (C8 X.K):=by
 intro pins s σ H x vs v us Q I rx rv h;obtain ⟨p,xs,y,rfl,rfl,hq,fy,fs,q⟩:=h;cases rx;obtain ⟨u,rfl,ru⟩:=rv.one;obtain ⟨its,r,pl,hz⟩:=I.list hq;obtain ⟨o,n,ho,hc,hd,hs⟩:=pl;cases o;cases hc;cases hd;cases hs;refine call_meets PySem.F.slot_list_count ⟨_,ho,rfl⟩ PySem.F.entry_list_count (PySem.F.args_list_count_2 _ _) (SeqAt.list_countAt p its.toArray n _ _ u (eqU y)) ⟨ho,λw hw=>jJ ru fy r fs w (by simpa using hw),?_⟩;refine ⟨.int _,H,I.tok _,⟨_,rfl⟩,?_⟩;rw [show its.toArray.toList=its from rfl,vE r fs];exact q
section
variable {X:Cx}{pins:List (Addr×Obj)}{σ:St}{H:Hp}{s:Shared}{a:Addr}{kvs:List (Key×V)}{k:Key}{x:V}{u r:Value}{A:Around}{E:Value->Shared->Prop}
theorem Dc {Q:Value->Shared->Prop} (I:Inv X pins σ H s) (e:H a=some (.dK kvs)) (ry:RelV (kV k) u) (rx:RelV x r) (hl:kvs.length<sizeLine)
  (h1:∀ v,jw kvs k=some v->∀ w' s',Inv X pins σ H s'->RelV v w'->Q w' s') (h2:jw kvs k=none->∀ s',Inv X pins σ (upd H a (.dK (putK kvs k x))) s'->Q r s') :
  wpAny (model X.prog X.w) A (call (.builtin "dict.setdefault") [.ref a,u,r]) Q E s:=by
 obtain ⟨z,hd,vs,rel,dd⟩:=Li I.hok e;have hv:=rel.val k;refine call_meetsIn PySem.F.slot_dict_setdefault dd.typeIs PySem.F.entry_dict_setdefault (PySem.F.args_dict_setdefault_3 _ _ _) (kt_meets_setdefault (bf X.prog X.w) a (HA ry) hd r)
  ⟨vs,dd,by rw [<-rel.length];exact z,λw' hw=>?_,λhn h' dd' hs=>?_⟩
 ·rw [hw] at hv;cases q:jw kvs k with
  | none=>rw [q] at hv;exact absurd hv (by simp [BF])
  | some v=>rw [q] at hv;exact h1 v q _ _ (I.tok _) hv
 ·rw [hn] at hv;cases q:jw kvs k with
  | some v=>rw [q] at hv;exact absurd hv (by simp [BF])
  | none=>
   have he:∃ q,h'.get? a=some q:=let ⟨q,_,_,hq,_⟩:=dd';⟨q,hq⟩;exact h2 q _ (Gf I (by rw [e];exact True.intro) hs he (JF (by have:=xx kvs k x;lia) hd (rel.put k rx) dd'))
end
def LA (td ty tx:TE):TE:=λσ H Q=>td σ H λx H1=>∃ a,x = .ref a/\IsD H1 a/\ty σ H1 λy H2=>tx σ H2 λz H3=>∃ kvs k,H3 a=some (.dK kvs)/\y=kV k/\kvs.length<sizeLine /\
 (∀ v,jw kvs k=some v->Q v H3)/\(jw kvs k=none->Q z (upd H3 a (.dK (putK kvs k z))))
section
variable {X:Cx}{o e f:Expr}{apos cQ:Pos}{td ty tx:TE}
theorem GQ (ho:PE X o td) (he:PE X e ty) (hf:PE X f tx) (m:M2 X o "setdefault" apos e f cQ):PE X (.Call (.Attribute o "setdefault" apos) [e,f] [] cQ) (LA td ty tx):=by
 intro pins s σ H Q I h;refine wpAny_Call_method m.base m.few m.line PySem.F.plainAttrs_dict PySem.F.slot_dict_setdefault PySem.F.type_dict_setdefault (thn (ho pins s σ H _ I h) λu s1 ⟨x,H1,I1,rx,a,ex,d,q1⟩=>?_);subst ex;obtain rfl:u=Value.ref a:=rx;obtain ⟨t1,t2,_⟩:=El I1 d;refine ⟨t1,t2,?_⟩;rw [m.HH];refine Calls.callWith_builtin rfl (Calls.evalArgs_plain (Calls.spliced_cons (thn (he pins s1 σ H1 _ I1 q1) λiv s2 ⟨y,H2,I2,ry,q2⟩=>
  Calls.spliced_cons (thn (hf pins s2 σ H2 _ I2 q2) λfv s3 ⟨z,H3,I3,rz,kvs,k,ea,ey,hl,q3,q4⟩=>Calls.spliced_nil ?_))))
 subst ey;exact Dc I3 ea ry rz hl (λv hv w' s4 I4 rw'=>⟨v,H3,I4,rw',q3 v hv⟩) λhn s4 I4=>⟨z,_,I4,rz,q4 hn⟩
end
theorem KV.vals {kvs:List (Key×V)}{vs:List (Key×Value)} (r:KV kvs vs):aV (kvs.map (·.2)) (vs.map (·.2)):=by
 induction r with
 | nil=>exact .nil
 | cons h _ ih=>exact .cons h.2 ih
def tLV (td:TE):TE:=λσ H Q=>td σ H λx H1=>∃ a kvs,x = .ref a/\Rd H1 a (.dK kvs)/\∀ p,H1 p=none->Q (.ref p) (upd H1 p (.lst (kvs.map (·.2))))
section
variable {X:Cx}{x:Str}{p apos cQ pos:Pos}{o:Expr}{td:TE}
theorem EG (hh:X.calm=true) (hg:Gl X x) (hm:X.mg x=none) (hv:bootBuiltins x=some (.type "list")) (ho:PE X o td)
  (hn:x ≠ "__name__" :=by decide) (hdb:(x == ("__debug__" : Str))=false:=by decide) (tE:attributeBase o "values" X.env (eval o X.env)=eval o X.env:=by rfl) (sJ:(apos.endLine == cQ.line)=true:=by rfl)
  (he:starEach [Expr.Call (.Attribute o "values" apos) [] [] cQ] X.env=(false,eval (Expr.Call (.Attribute o "values" apos) [] [] cQ) X.env)::starEach [] X.env:=by rfl) :
  PE X (.Call (.Name x p) [.Call (.Attribute o "values" apos) [] [] cQ] [] pos) (tLV td):=by
 intro pins s σ H Q I h;refine wpAny_Call_Name_kw (eD I hg hm hv ?_ hn hdb);refine PyProof.Rows.callWith_type1 ?_ he rfl;rw [he];refine Calls.spliced_cons (wpAny_Call_method0_late tE sJ (thn (ho pins s σ H _ I h) λu s1 ⟨y,H1,I1,ry,a,kvs,ey,d,q1⟩=>?_));subst ey;obtain rfl:u=Value.ref a:=ry;obtain ⟨t1,t2,_⟩:=El I1 (.inl ⟨kvs,d⟩);obtain ⟨z,hd,vs,rel,dd⟩:=Dw I1.hok d;refine ⟨"dict","dict.values",PySem.F.plainAttrs_dict,PySem.F.slot_dict_values,PySem.F.type_dict_values,t1,t2,Calls.callWith_builtin rfl (PySem.evalArgs_none ?_)⟩;refine call_meetsIn PySem.F.slot_dict_values dd.typeIs PySem.F.entry_dict_values (PySem.F.args_dict_values_1 _) (meets_dict_values (bf X.prog X.w) a hd) ⟨⟨vs,dd⟩,Calls.spliced_nil ?_⟩;obtain ⟨ep,hat⟩:=(dd.push { cls:=.type "dict_values",data:=.fields #[.ref a] }).dictAt;have I2:=I1.kept (t':=s1.toks) (h':=s1.heap.push { cls:=.type "dict_values",data:=.fields #[.ref a] }) λ_ _ q=>Heap.get?_push_of_some _ q;have vl:=rel.length;refine PySem.W.kdl_call (PySem.W.kdl_values (knd:=bf X.prog X.w) (kvs:=vs) (ep:=ep)) (I1.ok.hd hh) ⟨⟨_,Heap.get?_push_size _ rfl,rfl,rfl⟩,hat⟩ (by lia) λh' tk cB c' hk hS cZ=>?_;have hvs:cB.toList=vs.map (·.2):=PySem.W.kdl_vals_eq cB.toList (by rw [Array.length_toList];exact cZ.1) λj v hj=>cZ.2 j v (by rw [<-Array.getElem?_toList];exact hj)
 refine ⟨.ref _,_,I2.laid (o:=.lst (kvs.map (·.2))) hk (NX _) ⟨by rw [NU];exact z,cB.toList,c',by rw [hvs];exact rel.vals,by rw [Array.toArray_toList];exact hS⟩,rfl,q1 _ (I2.hok.fresh (NX _))⟩
end
section
open SetTable
def way (t:SetTable) (h:Int):Nat->Probe
 | 0=>t.probeStart h
 | n+1=>t.advance (way t h n)
end
section
open SetTable
variable {mask:Nat}
end
section
variable {P:Program}{w:World}{A:Around}{E:Value->Shared->Prop}{s:Shared}
abbrev tK (P:Program) (w:World):=tupleKind (bf P w)
variable {kf:Addr->Int×Str}{a x:Addr}{o:Obj}{es:Array (Int×Value)}{ep:Nat}{t:SetTable}
def hK (P:Program) (w:World) (k:Int×Str):Int:=(tK P w).hash [.inl k.1,.inr k.2]
end
def uC:Value->Str
 | .str x _=>x
 | _=>Str.empty
theorem FX (t:SetTable) (es:Array (Int×Value)) (h:Int) (x:Value):(layNew t es h x).2.1.led=t.led:=by
 unfold layNew
 split
 ·simp only [SetTable.put,SetTable.orStandIn,SetTable.standIn]
  repeat (first | rfl | split)
 ·rfl
theorem uE (t:SetTable) (es:Array (Int×Value)) (n:Nat):(relayAll t es n).2.1.led=t.led/\(t.plain=false->(relayAll t es n).2.1.plain=false):=by
 unfold relayAll
 split
 ·rename_i t' order e;simp only [SetTable.relaid,SetTable.laid] at e;have:t'.led=t.led/\t'.plain=t.plain:=by
   cases h:SetTable.layClean (SetTable.sizeAbove n - 1) (es.map (·.1)) with
   | none=>rw [h] at e;cases e
   | some o=>
    rw [h] at e;cases e;exact ⟨rfl,rfl⟩
  dsimp only
  split
  ·exact ⟨this.1,λz=>by rw [this.2];exact z⟩
  ·exact ⟨rfl,λ_=>rfl⟩
 ·exact ⟨rfl,λ_=>rfl⟩
section
variable {P:Program}{w:World}
def kU (P:Program) (w:World) (byT:Bool) (h:Heap) (a:Addr) (us:List Str):Prop:=∃ o es ep t,h.get? a=some o/\o.ExactSet/\o.data = .set es ep t/\ElemsOf (bf P w) es.toList/\es.size<scanBound/\t.fits es.size=true/\t.led=(!byT)/\(us≠[]->t.plain=false)/\(∀ e∈es.toList,∃ x tk,e.2 = .str x tk)/\(es.toList.map λe=>uC e.2).Perm us
theorem kU.keep {byT:Bool}{h h':Heap}{a:Addr}{us:List Str} (x:kU P w byT h a us) (k:∀ o,h.get? a=some o->h'.get? a=some o):kU P w byT h' a us:=by
 obtain ⟨o,es,ep,t,ho,r⟩:=x;exact ⟨o,es,ep,t,k o ho,r⟩
theorem Av {byT:Bool}{h:Heap}{a:Addr} (hg:h.get? a=some { cls:=.type "set",dict:=none,data:=.set #[] 0 (.fresh 0 0 (!byT)) }):kU P w byT h a []:=
 ⟨_,#[],0,_,hg,⟨rfl,rfl,rfl⟩,rfl,(λe he=>by simp at he),by decide,by rfl,rfl,λz=>(z rfl).elim,(λe he=>by simp at he),by simp⟩
theorem ki {byT:Bool}{h:Heap}{a:Addr}{o:Obj}{es es':Array (Int×Value)}{ep:Nat}{t t':SetTable}{us:List Str} (ho:h.get? a=some o) (hex:o.ExactSet) (hd:o.data = .set es ep t)
  (hel:ElemsOf (bf P w) es'.toList) (hb:es'.size<scanBound) (hf:t'.fits es'.size=true) (hl:t'.led = !byT) (hp:us≠[]->t'.plain=false) (hs:∀ e∈es'.toList,∃ x tk,e.2 = .str x tk) (hm:(es'.toList.map λe=>uC e.2).Perm us) :
  (h.update a (Obj.putSet es' t')).get? a=some { o with data:=.set es' (ep+1) t' }/\kU P w byT (h.update a (Obj.putSet es' t')) a us:=by
 have q:=Heap.get?_update_self (Obj.putSet es' t') ho (by rw [putSet_of es' t' hd];rfl);rw [putSet_of es' t' hd] at q;exact ⟨q,_,es',ep+1,t',q,hex,rfl,hel,hb,hf,hl,hp,hs,hm⟩
variable {s:Shared}{A:Around}{E:Value->Shared->Prop}
theorem FD {byT:Bool}{h:Heap}{a:Addr}{us:List Str}{x:Str}{es:Array (Int×Value)} (hs:∀ e∈es.toList,∃ x tk,e.2 = .str x tk) (hm:(es.toList.map λe=>uC e.2).Perm us):(∃ e∈es.toList,(bf P w).is (.inr x) e.2=true)↔x∈us:=by
 rw [<-hm.mem_iff,N5];constructor
 ·rintro ⟨e,he,hk⟩;obtain ⟨tk,e2⟩:=Ki hk;exact ⟨e,he,by rw [e2];rfl⟩
 ·rintro ⟨e,he,hk⟩;obtain ⟨y,tk,e2⟩:=hs e he;rw [e2] at hk;have:y=x:=hk;refine ⟨e,he,?_⟩;rw [e2,this];exact iJ P w x tk
theorem DL {byT:Bool}{a:Addr}{us:List Str}{x:Str}{tk:Tok}{Q:Bool->Shared->Prop} (hS:kU P w byT s.heap a us) (Lh:us.length+1<scanBound)
  (h:∀ h' b,Heap.SameBut a s.heap h'->kU P w byT h' a (if x∈us then us else us++[x])->Q b { s with heap:=h' }) :
  wpAny (model P w) A (setAddHashed a (.str x tk) ((bf P w).hash (.inr x))) Q E s:=by
 obtain ⟨o,es,ep,t,ho,hex,hd,hel,hb,hf,hl,hp,hs,hm⟩:=id hS;have F8:(bf P w).is (.inr x) (.str x tk)=true:=iJ P w x tk;have hsc:(Value.str x tk).scannable=true:=rfl;have hn:es.size=us.length:=by
  have:=hm.length_eq;rw [NU,Array.length_toList] at this;exact this
 have hb1:es.size+1<scanBound:=hn ▸ Lh;have scanned:=byScan_of hsc hb hel;unfold setAddHashed;refine wpAny_holding ?_;unfold setAddHashedIn;refine wpAny_bind (wpAny_setState_of ho hd hf ?_);dsimp only;rw [scanned,if_pos rfl];unfold setAddByScan;refine wpAny_bind (wpAny_bind (wpAny_rule (wpAny_bind (wpAny_setScan_of F8 ho hd hf hel ?_))));have Le:=FD (P:=P) (w:=w) (byT:=byT) (h:=s.heap) (a:=a) (x:=x) hs hm;cases hr:List.findIdx? (λe=>(bf P w).is (.inr x) e.2) es.toList with
 | some j=>
  dsimp only;obtain ⟨hj,hpj,_⟩:=List.findIdx?_eq_some_iff_getElem.mp hr;have hin:x∈us:=Le.mp ⟨es.toList[j],List.getElem_mem hj,hpj⟩;have same:=h s.heap false (Heap.SameBut.refl a s.heap) (by rw [if_pos hin];exact hS);exact wpAny_pure (wpAny_pure same)
 | none=>
  dsimp only;have hin:x∉us:=λz=>by
   obtain ⟨e,he,hk⟩:=Le.mpr z;have:=List.findIdx?_eq_none_iff.mp hr e he;rw [hk] at this;cases this
  have hgw:∀ (b:Bool) {s₁:Shared}{Q':Unit->Shared->Prop},Q' () s₁->wpAny (model P w) A (match b with | true=>rule "set.scan.the-table-gave-way" | false=>pure ()) Q' E s₁:=
   λb _ _ q=>match b with
    | true=>wpAny_rule q
    | false=>wpAny_pure q
  have a7:=layNew_perm t es ((bf P w).hash (.inr x)) (.str x tk);have Bi:=layNew_fits t es ((bf P w).hash (.inr x)) (.str x tk);have Gr:=FX t es ((bf P w).hash (.inr x)) (.str x tk);generalize layNew t es ((bf P w).hash (.inr x)) (.str x tk)=L at a7 Bi Gr ⊢;obtain ⟨es1,t1,dm,NB⟩:=L;dsimp only at a7 Bi Gr ⊢;rw [Array.toList_push] at a7;have GR:ElemsOf (bf P w) es1.toList:=(hel.push F8 hsc).perm a7;have hs1:∀ e∈es1.toList,∃ x tk,e.2 = .str x tk:=λe he=>by
   rcases List.mem_append.mp (a7.mem_iff.mp he) with z | z
   ·exact hs e z
   ·rw [N3.mp z];exact ⟨x,tk,rfl⟩
  have hm1:(es1.toList.map λe=>uC e.2).Perm (us++[x]):=by
   refine (a7.map _).trans ?_;rw [N8];exact hm.append_right _
  have CF:es1.size<scanBound:=by rw [<-Array.length_toList,a7.length_eq,List.length_append,Array.length_toList];simpa using hb1
  refine wpAny_bind (hgw _ ?_);have Gk:∀ h',Heap.SameBut a s.heap h'->kU P w byT h' a (us++[x])->Q true { s with heap:=h' }:=λh' sb hx=>h h' true sb (by rw [if_neg hin];exact hx);have pk:plainKind (.str x tk)=false:=rfl;have ft:({ t1 with plain:=false }:SetTable).fits es1.size=true/\({ t1 with plain:=false }:SetTable).led=(!byT)/\({ t1 with plain:=false }:SetTable).plain=false:=⟨SetTable.fits_plain_off Bi,Gr.trans hl,rfl⟩;have fs:t1.plain=false->t1.fits es1.size=true/\t1.led=(!byT)/\t1.plain=false:=λz=>⟨Bi,Gr.trans hl,z⟩;cases hpl:t1.plain
  ·have f2:=fs hpl;clear fs ft;rw [if_neg (by decide)];refine wpAny_bind (wpAny_pure ?_);simp only [if_true];generalize t1=t2 at f2 ⊢;obtain ⟨ho2,hS2⟩:=ki (P:=P) (w:=w) (us:=us++[x]) ho hex hd GR CF f2.1 f2.2.1 (λ_=>f2.2.2) hs1 hm1;have sb2:=Heap.SameBut.update s.heap a (Obj.putSet es1 t2);refine wpAny_bind (wpAny_storeSet_of ho hd ?_ (fits_of_scanBound CF));refine wpAny_ite_split (λ_=>?_) λ_=>wpAny_pure (wpAny_pure (Gk _ sb2 hS2));obtain ⟨rp,rf⟩:=And.intro (relayAll_perm t2 es1 (SetTable.grown es1.size)) (relayAll_fits t2 es1 (SetTable.grown es1.size));obtain ⟨rl1,rl2⟩:=uE t2 es1 (SetTable.grown es1.size);generalize relayAll t2 es1 (SetTable.grown es1.size)=Z at rp rf rl1 rl2 ⊢;have zb:Z.1.size<scanBound:=by
    have e:=rp.length_eq;rw [Array.length_toList,Array.length_toList] at e;rw [e];exact CF
   obtain ⟨_,hS3⟩:=ki (P:=P) (w:=w) (us:=us++[x]) ho2 hex rfl (GR.perm rp) zb rf (rl1.trans f2.2.1) (λ_=>rl2 f2.2.2) (λe he=>hs1 e (rp.mem_iff.mp he)) ((rp.map _).trans hm1);refine wpAny_bind (hgw _ (wpAny_bind (wpAny_storeSet_of ho2 rfl ?_ (fits_of_scanBound zb))));exact wpAny_pure (wpAny_pure (Gk _ (sb2.trans (Heap.SameBut.update _ a _)) hS3))
  ·have f2:=ft;clear fs ft;rw [if_pos rfl,hashByValue_scannable 8 hsc];refine wpAny_bind (wpAny_pure ?_);simp only [pk,Bool.false_eq_true,if_false];generalize ({ t1 with plain:=false }:SetTable)=t2 at f2 ⊢;obtain ⟨ho2,hS2⟩:=ki (P:=P) (w:=w) (us:=us++[x]) ho hex hd GR CF f2.1 f2.2.1 (λ_=>f2.2.2) hs1 hm1;have sb2:=Heap.SameBut.update s.heap a (Obj.putSet es1 t2);refine wpAny_bind (wpAny_storeSet_of ho hd ?_ (fits_of_scanBound CF));refine wpAny_ite_split (λ_=>?_) λ_=>wpAny_pure (wpAny_pure (Gk _ sb2 hS2));obtain ⟨rp,rf⟩:=And.intro (relayAll_perm t2 es1 (SetTable.grown es1.size)) (relayAll_fits t2 es1 (SetTable.grown es1.size));obtain ⟨rl1,rl2⟩:=uE t2 es1 (SetTable.grown es1.size);generalize relayAll t2 es1 (SetTable.grown es1.size)=Z at rp rf rl1 rl2 ⊢;have zb:Z.1.size<scanBound:=by
    have e:=rp.length_eq;rw [Array.length_toList,Array.length_toList] at e;rw [e];exact CF
   obtain ⟨_,hS3⟩:=ki (P:=P) (w:=w) (us:=us++[x]) ho2 hex rfl (GR.perm rp) zb rf (rl1.trans f2.2.1) (λ_=>rl2 f2.2.2) (λe he=>hs1 e (rp.mem_iff.mp he)) ((rp.map _).trans hm1);refine wpAny_bind (hgw _ (wpAny_bind (wpAny_storeSet_of ho2 rfl ?_ (fits_of_scanBound zb))));exact wpAny_pure (wpAny_pure (Gk _ (sb2.trans (Heap.SameBut.update _ a _)) hS3))
def jI:List Str->List Str->List Str
 | us,[]=>us
 | us,x::r=>jI (if x∈us then us else us++[x]) r
theorem Bl:∀ (zs us:List Str),(jI us zs).length<=us.length+zs.length
 | [],us=>NX _
 | x::r,us=>by
  have:=Bl r (if x∈us then us else us++[x]);unfold jI
  split at this
  ·rw [if_pos ‹_›];simp at *;lia
  ·rw [if_neg ‹_›];simp at *;lia
theorem mr:∀ (zs us:List Str),us.Nodup->(jI us zs).Nodup
 | [],us,h=>h
 | y::r,us,h=>by
  unfold jI;refine mr r _ ?_
  split
  ·exact h
  ·rename_i hn;exact List.nodup_append.mpr ⟨h,by simp,λa ha b hb e=>hn (by rw [N3.mp hb] at e;rw [<-e];exact ha)⟩
theorem CC {byT:Bool}{R:Result->Shared->Prop}{I:Addr}{fp wr:List Addr}{G:Array GenState->Array GenState->Prop}{n:Nat}{Pv:Nat->Value->Prop}{St:Nat->Shared->Prop} (W:WalksS P w A.in1 I fp wr G n Pv St) (S:Addr) (hSf:S∉fp)
  (zs:List Str) (hz:zs.length=n) (MS:∀ i v,Pv i v->∃ x t,zs[i]? = some x/\v = .str x t) (hb:n+1<scanBound) :
  ∀ (r:List Str) (i:Nat) (s:Shared) (us:List Str),r=zs.drop i->i<=n->us.length<=i->St i s->kU P w byT s.heap S us ->
   (∀ s',Moved (S::wr) G s s'->kU P w byT s'.heap S (jI us r)->R (.ok (.ret .none)) s') ->
   codeAny (model P w) A (.builtin "set.update.loop" ⟨[.ref S,.ref I],[]⟩) R s:=by
 have hSw:S∉wr:=mt (W.sub S) hSf;have iD:=λb (z:b∈wr)=>NY S z;intro r
 induction r with
 | nil=>
  intro i s us hr hi hus hst hS hR;have hin:i=n:=by
   have:=List.drop_eq_nil_iff.mp hr.symm;lia
  subst hin;refine codeAny_builtin PyProof.Rows.F.entry_set_update_loop ?_;rw [Around.under_plainId PyProof.Rows.F.plain_set_update_loop _];refine wpAny_bind (m:=pyNext (.ref I)) (W.done s _ _ hst λs' hm=>?_);exact wpAny_pure (hR s' (hm.mono iD) (hS.keep λo e=>hm.heap S _ hSw e))
 | cons x r ih=>
  intro i s us hr hi hus hst hS hR;have hlt:i<zs.length:=by
   rcases Nat.lt_or_ge i zs.length with z | z
   ·exact z
   ·rw [List.drop_of_length_le z] at hr;cases hr
  have hxe:zs[i]? = some x/\r=zs.drop (i+1):=by
   rw [List.drop_eq_getElem_cons hlt] at hr;injection hr with e1 e2;exact ⟨by rw [NW hlt,<-e1],e2⟩
  refine codeAny_builtin PyProof.Rows.F.entry_set_update_loop ?_;rw [Around.under_plainId PyProof.Rows.F.plain_set_update_loop _];refine wpAny_bind (m:=pyNext (.ref I)) (W.item i s _ _ (by lia) hst λv s' hP Er hm=>?_);obtain ⟨x',t,hx',rfl⟩:=MS i v hP;rw [hxe.1] at hx';cases hx';have hS':kU P w byT s'.heap S us:=hS.keep λo e=>hm.heap S _ hSw e;show wpAny _ A.in1 (holding [Value.str x t] (setAdd S (.str x t)) >>= _) _ _ s';refine wpAny_bind (wpAny_holding ?_);unfold setAdd;refine wpAny_holding ?_;refine wpAny_bind ((bf P w).pyHash (k:=.inr x) (iJ P w x t) ?_);refine DL (s:={ s' with toks:=s'.toks+1 }) hS' (by lia) λh' b sb hS2=>?_;refine wpAny_pure ⟨plainId_quiet PyProof.Rows.F.plain_set_update_loop _,ih (i+1) _ _ hxe.2 (by lia) ?_ (W.frame _ s' _ _ Er (Nat.le_succ _) λb hb o e=>?_) hS2 λs'' M5 ME=>?_⟩
  ·split
   ·lia
   ·simp;lia
  ·rw [sb.2 b (λh:b=S=>hSf (by rw [<-h];exact hb))];exact e
  ·have first:=hm.mono iD
   have put:=first.then_heap (Nat.le_succ s'.toks) (h':=h') λb o hb e=>(sb.2 b λz=>hb (z ▸ N4)).trans e;exact hR s'' (Moved.trans W.gtrans put M5) ME
def ja (w:World):Bool:=w.params.followText "set-order"
def BY (w:World):Obj:={ cls:=.type "set",dict:=none,data:=.set #[] 0 (.fresh 0 0 (!ja w)) }
theorem Hi (a:Value) {Q₁:Value->Shared->Prop} (h:Q₁ (.ref s.heap.objs.size) { s with heap:=s.heap.push (BY w) }) :
  codeAny (model P w) A (.call (.builtin "set.__new__") ⟨[.type "set",a],[]⟩) (wants Q₁ E) s:=by
 have key:∀ led,led=(!ja w)->Q₁ (.ref s.heap.objs.size) { s with heap:=s.heap.push { cls:=.type "set",dict:=none,data:=.set #[] 0 (.fresh 0 0 led) } }:=λled e=>by subst e;exact h
 refine codeAny_of_tree (wpAny_bind (m:=checkBuiltinCall "set.__new__" ⟨[.type "set",a],[]⟩) (wpAny_of_eq (PySem.F.newCall_set_1 a) (wpAny_pure ⟨plainId_quiet PySem.F.plain_set_new _,codeAny_builtin PySem.F.entry_set_new ?_⟩)));rw [Around.under_plainId PySem.F.plain_set_new _];unfold Builtin.«set.__new__» Builtin.Frozenset.newClass;have iD:=sub_set_self;clear h;obtain ⟨hp,g,d,tk,os⟩:=s;dsimp only at key ⊢
 wp_walk
 refine wpAny_askSetting (wpAny_pure ?_);dsimp only;simp only [newObj];exact wpAny_bind (wpAny_alloc (wpAny_pure (wpAny_pure (key _ rfl))))
theorem Fb {l a:Addr}{items:Array Value}{zs:List Str}{Q:PySem.Fin->Shared->Prop} (hh:A.handled=none) (hl:s.heap.IsList l items) (hi:aV (zs.map V.str) items.toList) (hb:items.size+1<scanBound) (ha:s.heap.get? a=some (BY w)) (hal:l≠a)
  (h:∀ (h':Heap) (tk:Nat),kU P w (ja w) h' a (jI [] zs)->(∀ b o,b≠a->s.heap.get? b=some o->h'.get? b=some o)->Q (.done (.ret .none)) { s with heap:=h',toks:=tk }) :
  wpAny (model P w) A (Builtin.«set.__init__» ⟨[.ref a,.ref l],[]⟩) Q E s:=by
 have hT:s.TypeIs (.ref a) "set" :=⟨_,ha,rfl⟩;obtain ⟨ol,hol,hcl,nl,hdl⟩:=id hl;obtain ⟨Nz,Nt,Nk,MO⟩:=ol;simp only at hcl hdl;subst hcl hdl;have NF:=PySem.F.sub_list_set;have ND:=PySem.F.sub_list_frozenset;have hne:(Value.type "list" == Value.type "dict")=false:=by decide
 have ha':s.heap.get? a=some { cls:=.type "set",dict:=none,data:=.set #[] 0 (.fresh 0 0 (!ja w)) }:=ha;unfold Builtin.«set.__init__» noKeywords Builtin.Frozenset.updateFrom;generalize hPI:pyIter=PI
 wp_walk
 subst hPI;refine wpAny_pyIter_list hl (wpAny_bind (wpAny_runValue ?_));have hla:l<s.heap.objs.size:=Heap.lt_size hol;have haa:a<s.heap.objs.size:=Heap.lt_size ha;have hlen:zs.length=items.size:=by have:=hi.length;rw [NU,Array.length_toList] at this;exact this
 refine CC (byT:=ja w) ((Walks.list (show A.in1.handled=none from hh) s.heap.objs.size l (Nat.ne_of_lt hla) items).toS) a (by simp only [List.mem_cons,List.not_mem_nil,or_false,not_or];exact ⟨Nat.ne_of_lt haa,hal.symm⟩) zs hlen (λi v hv=>?_) hb zs 0 _ [] rfl (Nat.zero_le _) (NX _)
  ⟨⟨_,Heap.get?_push_size _ rfl,rfl,rfl⟩,hl.push _⟩ (Av (Heap.get?_push_of_some _ ha')) λs' hm hS'=>?_
 ·have hv':items.toList[i]? = some v:=by rw [Array.getElem?_toList];exact hv
  have hiz:i<zs.length:=by rw [hlen];rw [Array.getElem?_toList] at hv';exact (Array.getElem?_eq_some_iff.mp hv').1
  obtain ⟨x,hx⟩:∃ x,zs[i]? = some x:=⟨zs[i],NW hiz⟩;obtain ⟨u,hu,ru⟩:=hi.get (i:=i) (x:=.str x) (by rw [N1,hx];rfl);rw [hv'] at hu;cases hu;obtain ⟨t,rfl⟩:=ru;exact ⟨x,t,hx,rfl⟩
 ·obtain ⟨h',g',d',tk',os'⟩:=s';obtain rfl:g' = s.gens:=hm.gens;obtain rfl:d' = s.drawn:=hm.drawn;obtain rfl:os' = s.os:=hm.os;refine wpAny_pure (wpAny_pure (h h' tk' hS' λb o hb e=>hm.heap b o (λz=>?_) (Heap.get?_push_of_some _ e)));rcases List.mem_cons.mp z with z | z
  ·exact hb z
  ·exact absurd (Heap.lt_size e) (by rw [N3.mp z];exact Nat.lt_irrefl _)
set_option maxHeartbeats 3000000 in
theorem uq {l:Addr}{items:Array Value}{zs:List Str}{Q:Value->Shared->Prop} (hh:A.handled=none) (hl:s.heap.IsList l items) (hi:aV (zs.map V.str) items.toList) (hb:items.size+1<scanBound)
  (h:∀ (h':Heap) (tk:Nat),kU P w (ja w) h' s.heap.objs.size (jI [] zs)->(∀ b o,s.heap.get? b=some o->h'.get? b=some o)->Q (.ref s.heap.objs.size) { s with heap:=h',toks:=tk }) :
  wpAny (model P w) A (call (.type "set") [.ref l]) Q E s:=by
 obtain ⟨c,tl,NI⟩:=PySem.F.called_set.mro;have Nr:=PySem.F.called_set.made;have iD:=PySem.F.called_set.sub;have h1:=PySem.F.called_set.notType;have h2:=PySem.F.called_set.canCreate;have hct:=PySem.F.typeCall_set_1 (.ref l);refine wpAny_call (codeAny_of_tree (show wpAny _ _ (callAny (.type "set") _) _ _ _ from wpAny_pure ⟨Code.quiet_builtin _ (by decide +kernel),codeAny_builtin PySem.F.entry_type_call ?_⟩));rw [Around.under_plain (weight_type_call_type "set" [.ref l] []) rfl]
 repeat any_goals (first | assumption | wp_step)
 refine codeAny_mono (Hi (P:=P) (w:=w) (.ref l) (E:=E) (Q₁:=λobj s₁=>obj = .ref s.heap.objs.size/\s₁={ s with heap:=s.heap.push (BY w) }) ⟨rfl,rfl⟩) λr s₁ hr=>?_;cases r with
 | error e=>exact hr
 | ok fl=>
  cases fl with
  | ret obj=>
   obtain ⟨rfl,rfl⟩:=hr;have hS:(s.heap.push (BY w)).get? s.heap.objs.size=some (BY w):=Heap.get?_push_size _ rfl;have hT:Shared.TypeIs { s with heap:=s.heap.push (BY w) } (.ref s.heap.objs.size) "set" :=⟨_,hS,rfl⟩;have hli:=PySem.F.called_set.init.lookup;have hbi:=PySem.F.called_set.init.bind (.ref s.heap.objs.size)
   repeat any_goals (first | assumption | wp_step)
   refine codeAny_mono (codeAny_call_builtin (R:=wants (λr s₂=>r = .none/\Q (.ref s.heap.objs.size) s₂) E) PySem.F.called_set.init.plain PySem.F.entry_set_init (check_set_init_1 hT ?_)) λr₂ s₂ hr₂=>?_
   ·have hla:l<s.heap.objs.size:=by obtain ⟨_,e,_⟩:=hl;exact Heap.lt_size e
    refine Fb (A:=A.in1.in1) hh (hl.push _) hi hb hS (Nat.ne_of_lt hla) λh' tk hx hk=>?_;exact ⟨rfl,h h' tk hx λb o e=>hk b o (Nat.ne_of_lt (Heap.lt_size e)) (Heap.get?_push_of_some _ e)⟩
   ·cases r₂ with
    | error e=>exact hr₂
    | ok fl₂=>
     cases fl₂ with
     | ret r=>
      obtain ⟨rfl,hq⟩:=hr₂
      repeat any_goals (first | assumption | wp_step)
     | _=>exact hr₂.elim
  | _=>exact hr.elim
end
end L2
namespace L2
open PySem PySem.Spec PyProof.Rows PySem.W
namespace SF
theorem slot_next:Slot "set_iterator" "__next__" "set_iterator.__next__" :=
 .of (owner:= "set_iterator") (n:= "__next__") (by rw [typeLookup_type,builtinLookup_eq_fast];kernel_rfl) (by decide +kernel) (by decide +kernel) (by decide +kernel) (by first | exact .inl (by decide +kernel) | exact .inr (by decide +kernel)) (by rw [isSubtype_type];kernel_rfl)
theorem uO:Slot "set_iterator" "__iter__" "set_iterator.__iter__" :=
 .of (owner:= "set_iterator") (n:= "__iter__") (by rw [typeLookup_type,builtinLookup_eq_fast];kernel_rfl) (by decide +kernel) (by decide +kernel) (by decide +kernel) (by first | exact .inl (by decide +kernel) | exact .inr (by decide +kernel)) (by rw [isSubtype_type];kernel_rfl)
theorem entry_next:entryFor table "set_iterator.__next__" = some Builtin.«set_iterator.__next__»:=entryFor_of_tree (by kernel_rfl)
theorem args_next (a:Value):argsOk "set_iterator.__next__" ⟨[a],[]⟩:=by unfold argsOk;kernel_rfl
theorem BV (a:Value):argsOk "set_iterator.__iter__" ⟨[a],[]⟩:=by unfold argsOk;kernel_rfl
theorem si:entryFor table "set.__iter__" = some Builtin.«frozenset.__iter__»:=entryFor_alias (id':= "frozenset.__iter__") (by kernel_rfl) rfl (by decide +kernel) (by kernel_rfl)
theorem z5:entryFor table "set_iterator.__iter__" = some Builtin.«dict_keyiterator.__iter__»:=entryFor_alias (id':= "dict_keyiterator.__iter__") (by kernel_rfl) rfl (by decide +kernel) (by kernel_rfl)
end SF
section
variable {P:Program}{w:World}{A:Around}{E:Value->Shared->Prop}{s:Shared}
theorem w8 {M:Model}{src:Source}{n:Nat}{Q:Nat->Shared->Prop} (hn:n≠0) (h:∀ i d,i<n->Q i { s with drawn:=d }):wpAny M A (choose src n) Q E s:=λΓ p hΓ=>by
 unfold choose;rw [Sem.wp_choose];exact ⟨hn,h _ _ (Nat.mod_lt _ (Nat.pos_of_ne_zero hn))⟩
theorem nL {α:Type}:∀ (l:List α) (i:Nat) (h:i<l.length),(l[i]::l.eraseIdx i).Perm l
 | [],_,h=>by cases h
 | x::r,0,_=>List.Perm.refl _
 | x::r,i+1,h=>by
  have ih:=nL r i (by simpa using h);exact (List.Perm.swap _ _ _).trans (List.Perm.cons _ ih)
theorem kN {M:Model}{α:Type}:∀ (n:Nat) (xs:List α) (s:Shared) {Q:List α->Shared->Prop},xs.length=n->(∀ ys d,ys.Perm xs->Q ys { s with drawn:=d })->wpAny M A (drawOrder n xs) Q E s
 | 0,xs,s,Q,hn,h=>by
  have:xs=[]:=List.length_eq_zero_iff.mp hn;subst this;exact wpAny_pure (h [] s.drawn (List.Perm.refl _))
 | n+1,[],s,Q,hn,h=>by cases hn
 | n+1,x::xs,s,Q,hn,h=>by
  unfold drawOrder;refine wpAny_bind (w8 (by simp) λi d hi=>?_);rw [NW hi];dsimp only;refine wpAny_bind (kN n _ _ (by rw [List.length_eraseIdx_of_lt hi];simpa using hn) λys d' hp=>wpAny_pure (h _ d' ?_));exact (List.Perm.cons _ hp).trans (nL _ i hi)
def lX (first:Value) (i:Nat) (a:Addr) (n ep:Nat):Obj:={ cls:=.type "set_iterator",data:=.fields #[first,.int i 0,.ref a,.int n 0,.int ep 0] }
structure SAt (h:Heap) (a:Addr) (es:Array (Int×Value)) (ep:Nat) (t:SetTable):Prop where
 ob:∃ o,h.get? a=some o/\o.ExactSet/\o.data = .set es ep t
 ft:t.fits es.size=true
theorem d3 {a:Addr}{es:Array (Int×Value)}{ep:Nat}{tb:SetTable}{Q:Array (Int×Value)->Shared->Prop} (hs:SAt s.heap a es ep tb) (h:Q es s):wpAny (model P w) A (setEntries a) Q E s:=by
 obtain ⟨o,ho,_,hd⟩:=hs.ob;exact wpAny_bind (wpAny_setState_of ho hd hs.ft (wpAny_pure h))
theorem mn (n:Nat):¬ (((n:Int) != (n:Int))=true):=by simp
theorem yV {M:Model}{α:Type}{R:α->Shared->Prop} (hh:A.handled=none) (h:∀ h' e o,(∀ b o,s.heap.get? b=some o->h'.get? b=some o)->h'.get? e=some o->o.cls = .type "StopIteration" -> E (.ref e) { s with heap:=h' }):wpAny M A (newExc (.type "StopIteration") [] >>= λe=>(raiseNew e:Sem α)) R E s:=by
 refine wpAny_bind ?_;unfold newExc newTuple;refine wpAny_bind (wpAny_newObj_type ?_ (by size_fits));have fa:(firstArgMember (.type "StopIteration") []:Sem Value)=pure Value.none:=by first | rfl | (unfold firstArgMember;rfl)
 rw [fa];refine wpAny_bind (wpAny_pure (wpAny_newObj_type ?_ (by size_fits)));unfold raiseNew;refine wpAny_bind (wpAny_handled ?_);rw [hh];exact wpAny_bind (wpAny_pure (wpAny_throw (h _ _ _ (λb o e=>Heap.get?_push_of_some _ (Heap.get?_push_of_some _ e)) (Heap.get?_push_size _ rfl) rfl)))
theorem ou {it a:Addr}{first:Value}{i n ep:Nat}{Q:Option Value->Shared->Prop} (hit:s.heap.get? it=some (lX first i a n ep))
  (h:wpAny (model P w) A.in1 (Builtin.«set_iterator.__next__» ⟨[.ref it],[]⟩) (λf s'=>∃ v,f = .done (.ret v)/\Q (some v) s') (λe s'=>∃ b o,e = .ref b/\s'.heap.get? b=some o/\o.cls = .type "StopIteration" /\ Q none s') s) :
  wpAny (model P w) A (pyNext (.ref it)) Q E s:=by
 have hty:s.TypeIs (.ref it) "set_iterator" :=⟨_,hit,rfl⟩;unfold pyNext;refine wpAny_bind (wpAny_attempt (wpAny_callSpecial?_slot (name:=Str.ofString "__next__") hty SF.slot_next (wpAny_call_entry SF.slot_next hty SF.entry_next ?_ (SF.args_next _))));refine wpAny_mono h (λf s' ⟨v,e,q⟩=>?_) λe s' ⟨b,o,eb,ho,hc,q⟩=>?_
 ·exact ⟨v,e,wpAny_pure q⟩
 ·subst eb;exact wpAny_bind (wpAny_isInstance (T:= "StopIteration") (b:=true) ⟨o,ho,hc⟩ isSubtype_stop (wpAny_pure q))
theorem me {it a:Addr}{first x:Value}{i n ep k:Nat}{vs:Array Value}{Q:Unit->Shared->Prop} (hit:s.heap.get? it=some { cls:=.type "set_iterator",data:=.fields vs }) (hk:k<vs.size)
  (h:∀ h',Heap.SameBut it s.heap h'->h'.get? it=some { cls:=.type "set_iterator",data:=.fields (vs.setIfInBounds k x) }->Q () { s with heap:=h' }):wpAny (model P w) A (setField (.ref it) k x) Q E s:=
 wpAny_setField_rec hit hk λh' e sb=>h h' sb e
theorem xC {it a:Addr}{slot i ep nx:Nat}{x:Value}{es:Array (Int×Value)}{tb:SetTable}{Q:Option Value->Shared->Prop} (hit:s.heap.get? it=some (lX (.int slot 0) i a es.size ep)) (hs:SAt s.heap a es ep tb)
  (hn:∀ (A:Around) (E:Value->Shared->Prop) (R:Option (Value×Nat)->Shared->Prop),R (some (x,nx)) s->wpAny (model P w) A (setNext a slot i ep) R E s)
  (h:∀ h',Heap.SameBut it s.heap h'->h'.get? it=some (lX (.int nx 0) (i+1:Nat) a es.size ep)->Q (some x) { s with heap:=h' }):wpAny (model P w) A (pyNext (.ref it)) Q E s:=by
 refine ou hit ?_;unfold Builtin.«set_iterator.__next__»;refine wpAny_bind (wpAny_pure ?_);refine wpAny_bind (wpAny_fieldsOf hit rfl ?_);show wpAny _ _ (setEntries a >>= _) _ _ _;refine wpAny_bind (d3 hs ?_);rw [if_neg (mn es.size)];show wpAny _ _ (setNext a slot i ep >>= _) _ _ _;refine wpAny_bind (hn _ _ _ ?_);dsimp only;refine wpAny_bind (me (a:=a) (first:=x) (i:=i) (n:=0) (ep:=ep) hit (by simp) λh1 sb1 yQ=>?_);refine wpAny_bind (me (a:=a) (first:=x) (i:=i) (n:=0) (ep:=ep) yQ (by simp) λh2 sb2 um=>?_);exact wpAny_pure ⟨x,rfl,h h2 (sb1.trans sb2) um⟩
theorem yx {it a:Addr}{slot i ep:Nat}{es:Array (Int×Value)}{tb:SetTable}{Q:Option Value->Shared->Prop} (hh:A.handled=none) (hit:s.heap.get? it=some (lX (.int slot 0) i a es.size ep)) (hs:SAt s.heap a es ep tb)
  (hn:∀ (A:Around) (E:Value->Shared->Prop) (R:Option (Value×Nat)->Shared->Prop),R none s->wpAny (model P w) A (setNext a slot i ep) R E s)
  (h:∀ h',(∀ b o,b≠it->s.heap.get? b=some o->h'.get? b=some o)->Q none { s with heap:=h' }):wpAny (model P w) A (pyNext (.ref it)) Q E s:=by
 refine ou hit ?_;unfold Builtin.«set_iterator.__next__»;refine wpAny_bind (wpAny_pure ?_);refine wpAny_bind (wpAny_fieldsOf hit rfl ?_);show wpAny _ _ (setEntries a >>= _) _ _ _;refine wpAny_bind (d3 hs ?_);rw [if_neg (mn es.size)];show wpAny _ _ (setNext a slot i ep >>= _) _ _ _;refine wpAny_bind (hn _ _ _ ?_);dsimp only;refine wpAny_bind (me (a:=a) (first:=.none) (i:=i) (n:=0) (ep:=ep) hit (by simp) λh1 sb1 yQ=>?_);refine yV (s:={ s with heap:=h1 }) (show A.in1.handled=none from hh) λh' e o hk ho hc=>⟨e,o,rfl,ho,hc,h h' λb ob hb he=>hk b ob ((sb1.2 b hb).trans he)⟩
theorem Cq {it a T:Addr}{i ep k:Nat}{hx:Int}{x:Value}{ps:List Nat}{es:Array (Int×Value)}{tb:SetTable}{oT:Obj}{nT:Nat}{Q:Option Value->Shared->Prop} (hit:s.heap.get? it=some (lX (.ref T) i a es.size ep)) (hs:SAt s.heap a es ep tb)
  (hT:s.heap.get? T=some oT) (dT:oT.data = .seq (ps.map λ(j:Nat)=>rawInt j).toArray nT) (hp:ps[i]? = some k) (he:es[k]? = some (hx,x)) (h:∀ h',Heap.SameBut it s.heap h'->h'.get? it=some (lX (.ref T) (i+1:Nat) a es.size ep)->Q (some x) { s with heap:=h' }) :
  wpAny (model P w) A (pyNext (.ref it)) Q E s:=by
 refine ou hit ?_;unfold Builtin.«set_iterator.__next__»;refine wpAny_bind (wpAny_pure ?_);refine wpAny_bind (wpAny_fieldsOf hit rfl ?_);show wpAny _ _ (setEntries a >>= _) _ _ _;refine wpAny_bind (d3 hs ?_);rw [if_neg (mn es.size)];show wpAny _ _ (seqItems? (.ref T) >>= _) _ _ _;refine wpAny_bind (wpAny_seqItems hT dT ?_);have e1:(ps.map λ(j:Nat)=>rawInt j).toArray[(i:Int).toNat]? = some (.int k 0):=by
  rw [Int.toNat_natCast,List.getElem?_toArray,N1,hp];rfl
 dsimp only;rw [e1];dsimp only;refine wpAny_bind ?_;unfold setNextDrawn;obtain ⟨o,ho,_,hd⟩:=hs.ob;refine wpAny_bind (wpAny_setState_of ho hd hs.ft ?_);dsimp only;rw [if_neg (by simp)];refine wpAny_bind (wpAny_pure ?_);rw [Int.toNat_natCast,he];refine wpAny_pure ?_;refine wpAny_bind (me (a:=a) (first:=x) (i:=i) (n:=0) (ep:=ep) hit (by simp) λh1 sb1 yQ=>?_);exact wpAny_pure ⟨x,rfl,h h1 sb1 yQ⟩
theorem BB {it a T:Addr}{i ep:Nat}{ps:List Nat}{es:Array (Int×Value)}{tb:SetTable}{oT:Obj}{nT:Nat}{Q:Option Value->Shared->Prop} (hh:A.handled=none) (hit:s.heap.get? it=some (lX (.ref T) i a es.size ep)) (hs:SAt s.heap a es ep tb)
  (hT:s.heap.get? T=some oT) (dT:oT.data = .seq (ps.map λ(j:Nat)=>rawInt j).toArray nT) (hp:ps[i]? = none) (h:∀ h',(∀ b o,b≠it->s.heap.get? b=some o->h'.get? b=some o)->Q none { s with heap:=h' }) :
  wpAny (model P w) A (pyNext (.ref it)) Q E s:=by
 refine ou hit ?_;unfold Builtin.«set_iterator.__next__»;refine wpAny_bind (wpAny_pure ?_);refine wpAny_bind (wpAny_fieldsOf hit rfl ?_);show wpAny _ _ (setEntries a >>= _) _ _ _;refine wpAny_bind (d3 hs ?_);rw [if_neg (mn es.size)];show wpAny _ _ (seqItems? (.ref T) >>= _) _ _ _;refine wpAny_bind (wpAny_seqItems hT dT ?_);have e1:(ps.map λ(j:Nat)=>rawInt j).toArray[(i:Int).toNat]? = none:=by
  rw [Int.toNat_natCast,List.getElem?_toArray,N1,hp];rfl
 dsimp only;rw [e1];dsimp only;refine wpAny_bind (me (a:=a) (first:=.none) (i:=i) (n:=0) (ep:=ep) hit (by simp) λh1 sb1 yQ=>?_);refine wpAny_bind (me (a:=a) (first:=.none) (i:=i) (n:=0) (ep:=ep) yQ (by simp) λh2 sb2 um=>?_);refine yV (s:={ s with heap:=h2 }) (show A.in1.handled=none from hh) λh' e o hk ho hc=>⟨e,o,rfl,ho,hc,h h' λb ob hb he=>hk b ob (((sb1.trans sb2).2 b hb).trans he)⟩
theorem mE {α:Type} (next:Nat->Nat):∀ (n k:Nat) (l:List α) (out:Array α),l.length=n->((pickOrder.go next n k l out).toList).Perm (out.toList++l)
 | 0,k,l,out,hn=>by
  have:l=[]:=List.length_eq_zero_iff.mp hn;subst this;unfold pickOrder.go;simp
 | n+1,k,l,out,hn=>by
  unfold pickOrder.go;have hl:next k % l.length<l.length:=Nat.mod_lt _ (by lia);rw [NW hl];dsimp only;refine (mE next n (k+1) _ _ (by rw [List.length_eraseIdx_of_lt hl];lia)).trans ?_;rw [Array.toList_push,List.append_assoc];exact List.Perm.append_left _ (nL l _ hl)
theorem om {a:Addr}{slot i ep:Nat}{es:Array (Int×Value)}{tb:SetTable}{R:Option (Value×Nat)->Shared->Prop} (hb:ja w=true) (hs:SAt s.heap a es ep tb)
  (h:R (((pickOrder (w.params.setOrder a ep) es)[i]?).map λe=>(e.2,slot)) s):wpAny (model P w) A (setNext a slot i ep) R E s:=by
 obtain ⟨o,ho,_,hd⟩:=hs.ob;unfold setNext setsByText;refine wpAny_bind (wpAny_setState_of ho hd hs.ft ?_);dsimp only;refine wpAny_bind (wpAny_bind (wpAny_askSetting (wpAny_pure ?_)));show wpAny _ _ (if ja w=true then _ else _) _ _ _;rw [if_pos hb,if_neg (by simp)];refine wpAny_bind ?_;unfold setWalk setsByText;refine wpAny_bind (wpAny_setState_of ho hd hs.ft ?_);dsimp only;refine wpAny_bind (wpAny_bind (wpAny_askSetting (wpAny_pure ?_)));show wpAny _ _ (if ja w=true then _ else _) _ _ _;rw [if_pos hb];exact wpAny_bind (wpAny_askSetting (wpAny_pure (wpAny_pure h)))
theorem qT {a:Addr}{slot i ep:Nat}{es:Array (Int×Value)}{tb:SetTable}{R:Option (Value×Nat)->Shared->Prop} (hb:ja w=false) (hl:tb.led=true) (h1:es.size<=1) (hs:SAt s.heap a es ep tb)
  (h:R (match es[SetTable.below tb.place slot]?,tb.place[SetTable.below tb.place slot]? with | some (_,x),some j=>some (x,j+1) | _,_=>none) s):wpAny (model P w) A (setNext a slot i ep) R E s:=by
 obtain ⟨o,ho,_,hd⟩:=hs.ob;unfold setNext setsByText;refine wpAny_bind (wpAny_setState_of ho hd hs.ft ?_);dsimp only;refine wpAny_bind (wpAny_bind (wpAny_askSetting (wpAny_pure ?_)));show wpAny _ _ (if ja w=true then _ else _) _ _ _;rw [if_neg (by rw [hb];decide)];refine wpAny_bind (wpAny_pure ?_);show wpAny _ _ (if (!tb.plain && decide (es.size > 1))=true then _ else _) _ _ _;rw [if_neg (by simp;lia)];refine wpAny_bind ?_;show wpAny _ _ (if (!tb.led && !es.isEmpty)=true then _ else _) _ _ _;rw [if_neg (by simp [hl])];exact wpAny_pure (wpAny_pure h)
theorem sv (xs:Array Nat) (h:xs.size<=1):SetTable.below xs 0=0:=by
 unfold SetTable.below;have:xs.size=0\/xs.size=1:=by lia
 rcases this with e | e
 ·rw [e];rfl
 ·rw [e];show SetTable.below.go xs 0 1 0 1=0;unfold SetTable.below.go;simp [SetTable.below.go]
theorem zu (j:Nat):SetTable.below #[j] (j+1)=1:=by
 unfold SetTable.below;show SetTable.below.go #[j] (j+1) 1 0 1=1;unfold SetTable.below.go;simp [SetTable.below.go]
structure Handed (es:Array (Int×Value)) (vs:List Value):Prop where
 perm:vs.Perm (es.toList.map (·.2))
theorem dQ {h h':Heap}{a:Addr}{es:Array (Int×Value)}{ep:Nat}{t:SetTable} (x:SAt h a es ep t) (k:∀ o,h.get? a=some o->h'.get? a=some o):SAt h' a es ep t:=by
 obtain ⟨o,e,r⟩:=x.ob;exact ⟨⟨o,k o e,r⟩,x.ft⟩
theorem sX {it a:Addr}{first:Value}{i n ep:Nat}{Q:Value->Shared->Prop} (hit:s.heap.get? it=some (lX first i a n ep)) (h:Q (.ref it) s):wpAny (model P w) A (pyIter (.ref it)) Q E s:=by
 have hty:s.TypeIs (.ref it) "set_iterator" :=⟨_,hit,rfl⟩;refine wpAny_pyIter_slot hty SF.uO (wpAny_call_entry SF.uO hty SF.z5 ?_ (SF.BV _));exact wpAny_pure ⟨_,rfl,"set_iterator",_,hty,SF.slot_next.lookup,h⟩
theorem BE {it a:Addr}{ep:Nat}{es:Array (Int×Value)}{tb:SetTable} (hh:A.handled=none) (hne:a≠it) (hb:ja w=true) :
  Walks P w A it [it,a] [it] es.size (λi v=>((pickOrder (w.params.setOrder a ep) es).toList.map (·.2))[i]? = some v) (λi h=>h.get? it=some (lX (.int 0 0) i a es.size ep)/\SAt h a es ep tb) where
 sub:=λb hb=>by rw [N3.mp hb];exact .head _
 frame:=λi h h' st k=>⟨k it (by simp) _ st.1,dQ st.2 λo e=>k a (by simp) o e⟩
 item:=λi s Q E hi st hQ=>by
  have hl:(pickOrder (w.params.setOrder a ep) es).size=es.size:=by
   have:=(mE (w.params.setOrder a ep) es.size 0 es.toList #[] (by simp)).length_eq;unfold pickOrder;simpa using this
  have hi':i<(pickOrder (w.params.setOrder a ep) es).size:=by lia
  refine xC (slot:=0) (nx:=0) (x:=(pickOrder (w.params.setOrder a ep) es)[i].2) st.1 st.2 (λA E R hR=>om hb st.2 (by rw [Array.getElem?_eq_getElem hi'];exact hR)) λh' sb hit=>?_;refine hQ _ h' s.toks ?_ ⟨hit,dQ st.2 λo e=>(sb.2 a hne).trans e⟩ λb o hb e=>(sb.2 b (by simpa using hb)).trans e;rw [N1,Array.getElem?_toList,Array.getElem?_eq_getElem hi'];rfl
 done:=λs Q E st hQ=>by
  have hl:(pickOrder (w.params.setOrder a ep) es).size=es.size:=by
   have:=(mE (w.params.setOrder a ep) es.size 0 es.toList #[] (by simp)).length_eq;unfold pickOrder;simpa using this
  refine yx (slot:=0) hh st.1 st.2 (λA E R hR=>om hb st.2 (by rw [Array.getElem?_eq_none (by lia)];exact hR)) λh' k=>hQ h' s.toks λb o hb e=>k b o (by simpa using hb) e
 self:=λi s Q E st h=>sX st.1 h
theorem Am {it a T:Addr}{ep nT:Nat}{oT:Obj}{ps:List Nat}{es:Array (Int×Value)}{tb:SetTable} (hh:A.handled=none) (hne:a≠it) (hnT:T≠it) (hp:ps.Perm (List.range es.size)) (dT:oT.data = .seq (ps.map λ(j:Nat)=>rawInt j).toArray nT) :
  Walks P w A it [it,a,T] [it] es.size (λi v=>(ps.map λk=>(es.getD k (0,.none)).2)[i]? = some v) (λi h=>h.get? it=some (lX (.ref T) i a es.size ep)/\SAt h a es ep tb/\h.get? T=some oT) where
 sub:=λb hb=>by rw [N3.mp hb];exact .head _
 frame:=λi h h' st k=>⟨k it (by simp) _ st.1,dQ st.2.1 λo e=>k a (by simp) o e,k T (by simp) _ st.2.2⟩
 item:=λi s Q E hi st hQ=>by
  have hl:ps.length=es.size:=by rw [hp.length_eq];simp
  have hi':i<ps.length:=by lia
  have hk:ps[i]<es.size:=by have:=hp.mem_iff.mp (List.getElem_mem hi');simpa using this
  refine Cq (hx:=es[ps[i]].1) (x:=es[ps[i]].2) st.1 st.2.1 st.2.2 dT (NW hi') (Array.getElem?_eq_getElem hk) λh' sb hit=>?_;refine hQ _ h' s.toks ?_ ⟨hit,dQ st.2.1 λo e=>(sb.2 a hne).trans e,(sb.2 T hnT).trans st.2.2⟩ λb o hb e=>(sb.2 b (by simpa using hb)).trans e;rw [N1,NW hi',Option.map_some];simp [Array.getD,hk]
 done:=λs Q E st hQ=>by
  have hl:ps.length=es.size:=by rw [hp.length_eq];simp
  refine BB hh st.1 st.2.1 st.2.2 dT (List.getElem?_eq_none (by lia)) λh' k=>hQ h' s.toks λb o hb e=>k b o (by simpa using hb) e
 self:=λi s Q E st h=>sX st.1 h
theorem ES {it a:Addr}{ep:Nat}{es:Array (Int×Value)}{tb:SetTable} (hh:A.handled=none) (hne:a≠it) (hb:ja w=false) (hl:tb.led=true) (h1:es.size<=1) (hf:tb.fits es.size=true) :
  Walks P w A it [it,a] [it] es.size (λi v=>(es.toList.map (·.2))[i]? = some v) (λi h=>h.get? it=some (lX (.int (if i=0 then 0 else tb.place.getD 0 0+1:Nat) 0) i a es.size ep)/\SAt h a es ep tb) where
 sub:=λb hb=>by rw [N3.mp hb];exact .head _
 frame:=λi h h' st k=>⟨k it (by simp) _ st.1,dQ st.2 λo e=>k a (by simp) o e⟩
 item:=λi s Q E hi st hQ=>by
  obtain rfl:i=0:=by lia
  have hpl:tb.place.size=es.size:=by simp only [SetTable.fits,Oa,beq_iff_eq] at hf;exact hf.1
  have e0:=sv tb.place (by lia);have hp0:0<tb.place.size:=by lia
  refine xC (slot:=0) (nx:=tb.place[0]+1) (x:=es[0].2) st.1 st.2 (λA E R hR=>qT hb hl h1 st.2 (by rw [e0,Array.getElem?_eq_getElem hi,Array.getElem?_eq_getElem hp0];exact hR)) λh' sb hit=>?_;refine hQ _ h' s.toks ?_ ⟨?_,dQ st.2 λo e=>(sb.2 a hne).trans e⟩ λb o hb e=>(sb.2 b (by simpa using hb)).trans e
  ·rw [N1,Array.getElem?_toList,Array.getElem?_eq_getElem hi];rfl
  ·rw [hit];simp [Array.getD,hp0]
 done:=λs Q E st hQ=>by
  have hpl:tb.place.size=es.size:=by simp only [SetTable.fits,Oa,beq_iff_eq] at hf;exact hf.1
  refine yx hh st.1 st.2 (λA E R hR=>qT hb hl h1 st.2 ?_) λh' k=>hQ h' s.toks λb o hb e=>k b o (by simpa using hb) e;rcases Nat.lt_or_ge 0 es.size with z | z
  ·have z1:es.size=1:=by lia
   obtain ⟨j,ej⟩:∃ j,tb.place = #[j]:=by
    match hq:tb.place,(show tb.place.size=1 by lia) with
    | ⟨[j]⟩,_=>exact ⟨j,rfl⟩
   rw [if_neg (by lia),ej];have:(#[j]:Array Nat).getD 0 0=j:=rfl;rw [this,zu,Array.getElem?_eq_none (by lia)];exact hR
  ·rw [if_pos (by lia),sv tb.place (by lia),Array.getElem?_eq_none z];exact hR
 self:=λi s Q E st h=>sX st.1 h
theorem xm {a:Addr}{es:Array (Int×Value)}{ep:Nat}{tb:SetTable}{Q:Bool->Shared->Prop} (hs:SAt s.heap a es ep tb) (h:Q (!ja w && (!tb.plain && decide (es.size > 1))) s):wpAny (model P w) A (setDrawn a) Q E s:=by
 obtain ⟨o,ho,_,hd⟩:=hs.ob;unfold setDrawn setsByText;refine wpAny_bind (wpAny_setState_of ho hd hs.ft ?_);dsimp only;exact wpAny_bind (wpAny_bind (wpAny_askSetting (wpAny_pure (wpAny_pure h))))
theorem zk {es:Array (Int×Value)}{ps:List Nat} (hp:ps.Perm (List.range es.size)):(ps.map λk=>(es.getD k (0,.none)).2).Perm (es.toList.map (·.2)):=by
 refine (hp.map _).trans ?_;have e:(List.range es.size).map (λk=>(es.getD k (0,.none)).2)=es.toList.map (·.2):=by
  apply List.ext_getElem?;intro i;rw [N1,N1];by_cases hi:i<es.size
  ·rw [List.getElem?_range hi];simp [Array.getD,hi]
  ·rw [List.getElem?_eq_none (by simp;lia),List.getElem?_eq_none (by simp;lia)];rfl
 rw [e]
theorem Ff {a:Addr}{us:List Str}{Q:Value->Shared->Prop} (hh:A.handled=none) (hS:kU P w (ja w) s.heap a us)
  (h:∀ (I:Addr) (vs:List Value) (h':Heap) (d:Drawn) (fp:List Addr) (St:Nat->Heap->Prop),(∀ b o,s.heap.get? b=some o->h'.get? b=some o)->(∀ b∈fp,b=a\/s.heap.objs.size<=b)->s.heap.objs.size<=I->vs.length=us.length->(∃ us':List Str,us'.Perm us/\aV (us'.map V.str) vs) ->
   Walks P w A I fp [I] vs.length (λi v=>vs[i]? = some v) St->St 0 h'->Q (.ref I) { s with heap:=h',drawn:=d }) :
  wpAny (model P w) A (pyIter (.ref a)) Q E s:=by
 obtain ⟨o,es,ep,t,ho,hex,hd,hel,hb,hf,hl,hp,hs,hm⟩:=id hS;have sat:SAt s.heap a es ep t:=⟨⟨o,ho,hex,hd⟩,hf⟩;have hT:s.TypeIs (.ref a) "set" :=⟨o,ho,hex.1⟩;have hn:es.size=us.length:=by
  have:=hm.length_eq;rw [NU,Array.length_toList] at this;exact this
 have vals:∀ vs:List Value,vs.Perm (es.toList.map (·.2))->vs.length=us.length/\∃ us':List Str,us'.Perm us/\aV (us'.map V.str) vs:=λvs hv=>by
  refine ⟨by rw [hv.length_eq,NU,Array.length_toList,hn],vs.map uC,((hv.map uC).trans (by rw [List.map_map];exact hm)),?_⟩;have fc:∀ v∈vs,∃ x tk,v = .str x tk:=λv hv'=>by
   obtain ⟨e,he,rfl⟩:=N5.mp (hv.mem_iff.mp hv');exact hs e he
  clear hv
  induction vs with
  | nil=>exact .nil
  | cons v r ih=>
   obtain ⟨x,tk,rfl⟩:=fc v (.head _);exact .cons ⟨tk,rfl⟩ (ih λv hv=>fc v (.tail _ hv))
 refine wpAny_pyIter_slot hT PySem.F.slot_set_iter (wpAny_call_entry PySem.F.slot_set_iter hT SF.si ?_ (PySem.F.args_set_iter_1 _));unfold Builtin.«frozenset.__iter__»;refine wpAny_bind (wpAny_pure ?_);refine wpAny_bind (m:=Builtin.Frozenset.sizeOf a) (wpAny_bind (d3 sat (wpAny_pure ?_)));refine wpAny_bind (xm sat ?_);dsimp only;have hla:a<s.heap.objs.size:=Heap.lt_size ho;by_cases hdr:(!ja w && (!t.plain && decide (es.size > 1)))=true
 ·rw [if_pos hdr];refine wpAny_bind (kN es.size _ s (by simp) λps d hps=>?_);refine wpAny_bind (wpAny_newTuple ?_ (by rw [NU,hps.length_eq,List.length_range,sizeLine_eq];unfold scanBound at hb;lia));have hoT:(s.heap.push { cls:=.type "tuple",data:=.seq (ps.map λ(i:Nat)=>rawInt i).toArray }).get? s.heap.objs.size=some { cls:=.type "tuple",data:=.seq (ps.map λ(i:Nat)=>rawInt i).toArray }:=Heap.get?_push_size _ rfl;generalize hh1:s.heap.push { cls:=.type "tuple",data:=.seq (ps.map λ(i:Nat)=>rawInt i).toArray }=h1 at hoT ⊢;have k1:∀ b o,s.heap.get? b=some o->h1.get? b=some o:=λb o e=>by rw [<-hh1];exact Heap.get?_push_of_some _ e
  have Mb:SAt h1 a es ep t:=dQ sat (k1 a);have z1:h1.objs.size=s.heap.objs.size+1:=by rw [<-hh1,Heap.size_push]
  refine wpAny_bind (wpAny_setEpoch_of (s:={ s with heap:=h1,drawn:=d }) (k1 a o ho) hd hf ?_);refine wpAny_bind (wpAny_newObj_type ?_ (by size_fits));have hoI:(h1.push (lX (.ref s.heap.objs.size) (0:Nat) a es.size ep)).get? h1.objs.size=some (lX (.ref s.heap.objs.size) (0:Nat) a es.size ep):=Heap.get?_push_size _ rfl;have k2:∀ b o,h1.get? b=some o->(h1.push (lX (.ref s.heap.objs.size) (0:Nat) a es.size ep)).get? b=some o:=λb o e=>Heap.get?_push_of_some _ e;obtain ⟨v1,v2⟩:=vals _ (zk hps);have hvl:(ps.map λk=>(es.getD k (0,Value.none)).2).length=es.size:=by rw [NU,hps.length_eq,List.length_range]
  have W:=Am (P:=P) (w:=w) (A:=A) (it:=h1.objs.size) (a:=a) (T:=s.heap.objs.size) (ep:=ep) (tb:=t) hh (Nat.ne_of_lt (by rw [z1];exact Nat.lt_succ_of_lt hla)) (Nat.ne_of_lt (by rw [z1];exact Nat.lt_succ_self _)) hps (oT:={ cls:=.type "tuple",data:=.seq (ps.map λ(i:Nat)=>rawInt i).toArray }) rfl;rw [<-hvl] at W;refine wpAny_pure ⟨_,rfl,"set_iterator",_,⟨_,hoI,rfl⟩,SF.slot_next.lookup,?_⟩;refine h h1.objs.size _ _ d [h1.objs.size,a,s.heap.objs.size] _ (λb o e=>k2 b o (k1 b o e)) (λb hb=>?_) (by rw [z1];exact Nat.le_succ _) v1 v2 W ⟨?_,dQ Mb (k2 a),k2 _ _ hoT⟩
  ·simp only [List.mem_cons,List.not_mem_nil,or_false] at hb;rcases hb with e | e | e
   ·exact .inr (by rw [e,z1];exact Nat.le_succ _)
   ·exact .inl e
   ·exact .inr (by rw [e];exact NX _)
  ·rw [hvl];exact hoI
 ·rw [if_neg hdr];refine wpAny_bind (wpAny_pure ?_);refine wpAny_bind (wpAny_setEpoch_of ho hd hf ?_);refine wpAny_bind (wpAny_newObj_type ?_ (by size_fits));have hoI:(s.heap.push (lX (.int (0:Nat) 0) (0:Nat) a es.size ep)).get? s.heap.objs.size=some (lX (.int (0:Nat) 0) (0:Nat) a es.size ep):=Heap.get?_push_size _ rfl;have k2:∀ b o,s.heap.get? b=some o->(s.heap.push (lX (.int (0:Nat) 0) (0:Nat) a es.size ep)).get? b=some o:=λb o e=>Heap.get?_push_of_some _ e;refine wpAny_pure ⟨_,rfl,"set_iterator",_,⟨_,hoI,rfl⟩,SF.slot_next.lookup,?_⟩;have fpx:∀ b∈[s.heap.objs.size,a],b=a\/s.heap.objs.size<=b:=λb hb=>by
   simp only [List.mem_cons,List.not_mem_nil,or_false] at hb;rcases hb with e | e
   ·exact .inr (by rw [e];exact NX _)
   ·exact .inl e
  cases hbt:ja w with
  | true=>
   have hpp:(pickOrder (w.params.setOrder a ep) es).toList.Perm es.toList:=by
    have:=mE (w.params.setOrder a ep) es.size 0 es.toList #[] (by simp);unfold pickOrder;simpa using this
   obtain ⟨v1,v2⟩:=vals _ (hpp.map (·.2))
   have hvl:((pickOrder (w.params.setOrder a ep) es).toList.map (·.2)).length=es.size:=by rw [NU,hpp.length_eq,Array.length_toList]
   have W:=BE (P:=P) (w:=w) (A:=A) (it:=s.heap.objs.size) (a:=a) (ep:=ep) (es:=es) (tb:=t) hh (Nat.ne_of_lt hla) hbt;rw [<-hvl] at W;refine h s.heap.objs.size _ _ s.drawn [s.heap.objs.size,a] _ k2 fpx (NX _) v1 v2 W ⟨?_,dQ sat (k2 a)⟩;rw [hvl];exact hoI
  | false=>
   have h1:es.size<=1:=by
    rcases Nat.lt_or_ge 1 es.size with z | z
    ·have hne:us≠[]:=λe=>by rw [e] at hn;rw [hn] at z;exact absurd z (by decide)
     rw [hbt,hp hne] at hdr;simp at hdr;lia
    ·exact z
   obtain ⟨v1,v2⟩:=vals _ (List.Perm.refl _);have hvl:(es.toList.map (·.2)).length=es.size:=by rw [NU,Array.length_toList]
   have W:=ES (P:=P) (w:=w) (A:=A) (it:=s.heap.objs.size) (a:=a) (ep:=ep) (es:=es) (tb:=t) hh (Nat.ne_of_lt hla) hbt (by rw [hl,hbt];rfl) h1 hf;rw [<-hvl] at W;refine h s.heap.objs.size _ _ s.drawn [s.heap.objs.size,a] _ k2 fpx (NX _) v1 v2 W ⟨?_,dQ sat (k2 a)⟩;rw [hvl];exact hoI
theorem Fz {r:Addr}{Q:Bool->Shared->Prop} (hT:s.TypeIs (.ref r) "set") (h:Q false s):wpAny (model P w) A (Builtin.List.listLengthHint (.ref r)) Q E s:=by
 unfold Builtin.List.listLengthHint;refine wpAny_bind (wpAny_specialOf hT PySem.F.slot_set_len.lookup ?_);generalize hid:("set.__len__" : String)=id0
 wp_delta
 have sp:splitId id0=some ("set","__len__"):=by subst hid;decide +kernel
 rw [sp];subst hid;refine wpAny_bind (wpAny_isInstance (T:= "set") (b:=true) hT (by rw [isSubtype_type];kernel_rfl) ?_);refine wpAny_ite_split (λz=>absurd z (by decide)) λ_=>?_;refine wpAny_ite_split (λ_=>?_) λz=>absurd (by decide +kernel) z;exact wpAny_bind (wpAny_typeOf hT (wpAny_pure h))
theorem yo {a:Addr}{us:List Str}{R:List Value->Shared->Prop} (hh:A.handled=none) (hS:kU P w (ja w) s.heap a us) (hn:us.length<=sizeLine)
  (h:∀ (h':Heap) (tk:Nat) (d:Drawn) (vs:List Value) (us':List Str),(∀ b o,s.heap.get? b=some o->h'.get? b=some o)->us'.Perm us->aV (us'.map V.str) vs->R vs { s with heap:=h',toks:=tk,drawn:=d }) :
  wpAny (model P w) A (collect (.ref a)) R E s:=by
 obtain ⟨o,_,_,_,ho,hex,_⟩:=id hS;have hla:a<s.heap.objs.size:=Heap.lt_size ho;unfold collect;refine wpAny_bind (wpAny_runValue (codeAny_builtin entry_proto_collect' ?_));rw [Around.under_plainId PySem.F.plain_proto_collect _];refine wpAny_bind (m:=newList []) (wpAny_newList ?_ (Nat.zero_le _));have oS:(s.heap.push (seqObj "list" #[] 0)).get? s.heap.objs.size=some (seqObj "list" #[] 0):=Heap.get?_push_size _ rfl;have k1:∀ b o,s.heap.get? b=some o->(s.heap.push (seqObj "list" #[] 0)).get? b=some o:=λb o e=>Heap.get?_push_of_some _ e;have z1:(s.heap.push (seqObj "list" #[] 0)).objs.size=s.heap.objs.size+1:=Heap.size_push _ _;refine wpAny_pure ⟨plainId_quiet PySem.F.plain_list_iadd _,codeAny_builtin entry_list_iadd' ?_⟩;rw [Around.under_plainId PySem.F.plain_list_iadd _];show wpAny _ _ (Builtin.List.listExtendWith (.ref s.heap.objs.size) (.ref a) (.ref s.heap.objs.size)) _ _ { s with heap:=s.heap.push (seqObj "list" #[] 0) };generalize s.heap.push (seqObj "list" #[] 0)=h1 at oS k1 z1 ⊢;have hS1:kU P w (ja w) h1 a us:=hS.keep (k1 a);have hT1:Shared.TypeIs { s with heap:=h1 } (.ref a) "set" :=⟨o,k1 a o ho,hex.1⟩;generalize hd1:s.heap.objs.size=S at oS z1 hla ⊢;have hSa:S≠a:=Nat.ne_of_gt hla;unfold Builtin.List.listExtendWith;refine wpAny_bind (wpAny_typeOf hT1 ?_);have e1:Builtin.List.listSameRef (.ref S) (.ref a)=false:=by simp [Builtin.List.listSameRef,hSa]
 have e2:(Value.type "set" == Value.type "list")=false:=by decide
 have e3:(Value.type "set" == Value.type "tuple")=false:=by decide
 simp only [e1,e2,e3,Bool.or_false,Bool.false_eq_true,if_false];refine wpAny_bind (Ff (s:={ s with heap:=h1 }) (show A.in1.handled=none from hh) hS1 λI vs h2 d fp St k2 hfp hI hvl hvs W st=>?_);obtain ⟨us',hp',hv'⟩:=hvs;have hSI:S<I:=by rw [z1] at hI;exact hI
 have hSf:S∉fp:=λz=>(hfp S z).elim hSa λz=>absurd z (by rw [z1];exact Nat.not_succ_le_self _);have oS2:=k2 S _ oS;have key:∀ (h3:Heap) (c tk:Nat),St 0 h3->(∀ b o,b≠S->h2.get? b=some o->h3.get? b=some o)->h3.get? S=some (seqObj "list" #[] c) ->
   codeAny (model P w) A (.builtin "list.extend.loop" ⟨[.ref S,.ref I,.ref S],[]⟩) (λq s'=>∃ (h':Heap) (tk:Nat) (acc:Array Value) (c':Nat),q = .ok (.ret (.ref S))/\s' = { s with heap:=h',toks:=tk,drawn:=d }/\(∀ b o,s.heap.get? b=some o->h'.get? b=some o)/\h'.get? S=some (seqObj "list" acc c')/\acc.toList=vs) { s with heap:=h3,toks:=tk,drawn:=d }:=λh3 c tk st3 k3 o3=>by
  refine codeAny_extend_loopS W.toS (by rw [hvl];exact hn) S hSf (.ref S) vs.length 0 _ #[] c rfl (Nat.zero_le _) st3 o3 (ItemsOf.nil _) λs' acc c' hm oS' cZ=>?_;rw [Moved.eq_with hm];refine ⟨s'.heap,s'.toks,acc,c',rfl,rfl,λb o e=>?_,oS',?_⟩
  ·have hbl:b<S:=by rw [<-hd1];exact Heap.lt_size e
   refine hm.heap b o (λz=>?_) (k3 b o (Nat.ne_of_lt hbl) (k2 b o (k1 b o e)));rcases List.mem_cons.mp z with z | z
   ·exact absurd z (Nat.ne_of_lt hbl)
   ·exact absurd (N3.mp z) (Nat.ne_of_lt (Nat.lt_trans hbl hSI))
  ·apply List.ext_getElem?;intro i;rw [Array.getElem?_toList];cases q:acc[i]? with
   | none=>
    have:=Array.getElem?_eq_none_iff.mp q;rw [cZ.1] at this;exact (List.getElem?_eq_none this).symm
   | some v=>exact (cZ.2 i v q).symm
 refine wpAny_bind (wpAny_holding (Fz ⟨o,k2 a o (k1 a o ho),hex.1⟩ ?_));rw [if_pos (by decide)];refine wpAny_bind (wpAny_rule ?_);have u1:=get?_update_seq oS2 λ(xs:Array Value)=>xs.push Value.none;have u2:=get?_update_seq u1 λ(xs:Array Value)=>xs.pop;refine wpAny_bind (m:=Builtin.List.listTouch _) ?_;unfold Builtin.List.listTouch;refine wpAny_bind (listUpdate_at oS2 rfl ?_ (Nat.zero_le _) (by show 1<=_;rw [sizeLine_eq];lia));refine listUpdate_at u1 rfl ?_ (by show 1<=_;rw [sizeLine_eq];lia) (Nat.zero_le _);have k3:∀ b o,b≠S->h2.get? b=some o->((h2.update S (Obj.mapSeq λxs=>xs.push Value.none)).update S (Obj.mapSeq λxs=>xs.pop)).get? b=some o:=λb o hb e=>(Heap.get?_update_other _ _ (Ne.symm hb)).trans ((Heap.get?_update_other _ _ (Ne.symm hb)).trans e);refine wpAny_pure ⟨plainId_quiet PySem.F.plain_extend_loop _,codeAny_mono (key _ _ s.toks (W.frame 0 _ _ st λb hb o e=>k3 b o (λz=>hSf (z ▸ hb)) e) k3 u2) λq s' hq=>?_⟩;obtain ⟨h',tk,acc,c',rfl,rfl,hk,hoS,hv⟩:=hq;refine wpAny_bind (wpAny_load hoS (wpAny_pure ?_));subst hv;exact h h' tk d acc.toList us' hk hp' hv'
end
def UpS (ms:List Str):Prop:=ms.Pairwise λx y=>ltv (.str y) (.str x)=false
def Dx (X:Cx) (f:Value) (r:List Str->Hp->VK->Prop):Prop:=
 ∀ (pins:List (Addr×Obj)) (s:Shared) (σ:St) (H:Hp) (D:Addr) (us:List Str) (Q:VK),Inv X pins σ H s->kU X.prog X.w (ja X.w) s.heap D us->r us H Q->wpAny (model X.prog X.w) X.A (call f [.ref D]) (EP X pins σ Q) X.xe s
def tFS (r:List Str->Hp->VK->Prop) (t:TA):TE:=λσ H Q=>t σ H λvs H1=>∃ a zs,vs=[.ref a]/\Rd H1 a (.lst (zs.map V.str))/\zs.length<4000/\r (jI [] zs) H1 Q
section
variable {X:Cx}{x y:Str}{p q pos zB:Pos}{e:Expr}{t:TA}{id:String}{r:List Str->Hp->VK->Prop}
theorem Inv.Il {pins:List (Addr×Obj)}{σ:St}{H:Hp}{s:Shared}{h':Heap}{tk:Nat}{d:Drawn} (I:Inv X pins σ H s) (k:∀ b o,s.heap.get? b=some o->h'.get? b=some o):Inv X pins σ H { s with heap:=h',toks:=tk,drawn:=d }:=by
 have J:=I.kept (t':=tk) k;exact ⟨J.ok,J.os,J.bare,J.base,J.loc,J.cell,J.free,J.kP,J.pin,J.hok,J.len⟩
theorem wx (hc:Dx X (.builtin id) r) (hh:X.calm=true) (hg:Gl X x) (hm:X.mg x=none) (hv:bootBuiltins x=some (.builtin id)) (hg2:Gl X y) (hm2:X.mg y=none) (hv2:bootBuiltins y=some (.type "set")) (ha:PA X [e] t)
  (hn:x ≠ "__name__" :=by decide) (hdb:(x == ("__debug__" : Str))=false:=by decide) (hn2:y ≠ "__name__" :=by decide) (Nf:(y == ("__debug__" : Str))=false:=by decide)
  (he:starEach [Expr.Call (.Name y q) [e] [] zB] X.env=(false,eval (Expr.Call (.Name y q) [e] [] zB) X.env)::starEach [] X.env:=by rfl) (he2:starEach [e] X.env=(false,eval e X.env)::starEach [] X.env:=by rfl) :
  PE X (.Call (.Name x p) [.Call (.Name y q) [e] [] zB] [] pos) (tFS r t):=by
 intro pins s σ H Q I h;refine wpAny_Call_Name_kw (eD I hg hm hv ?_ hn hdb);refine PyProof.Rows.callWith_builtin1 ?_ he rfl;rw [he];refine Calls.spliced_cons (thn (Q:=λv s'=>∃ D us H1,v = .ref D/\Inv X pins σ H1 s'/\kU X.prog X.w (ja X.w) s'.heap D us/\r us H1 Q) ?_ λv s' ⟨D,us,H1,ev,I1,hS,q1⟩=>?_)
 ·refine wpAny_Call_Name_kw (eD I hg2 hm2 hv2 ?_ hn2 Nf);refine PyProof.Rows.callWith_type1 (thn (ha zB pins s σ H _ I h) λus s1 ⟨vs,H1,I1,r1,q1⟩=>?_) he2 rfl;obtain ⟨a,zs,rfl,hr,hl,q1⟩:=q1;obtain ⟨u,rfl,ru⟩:=r1.one;cases ru;obtain ⟨_,its,n,vv,ho⟩:=hr.ok I1.hok;have vl:=vv.length;rw [NU] at vl;refine uq (I1.ok.hd hh) ⟨_,ho,rfl,n,rfl⟩ vv (by rw [Ob];unfold scanBound;lia) λh' tk hS k=>?_;exact ⟨_,_,H1,rfl,I1.Il k,hS,q1⟩
 ·subst ev;exact Calls.spliced_nil (hc pins s' σ H1 D us Q I1 hS q1)
end
theorem tw:∀ {ns:List Str}{us:List Value},aV (ns.map V.str) us->∀ v∈us,∃ i t,v=Value.str i t
 | [],_,r,v,hv=>by rw [List.map_nil] at r;cases r;cases hv
 | n::ns,_,r,v,hv=>by
  rw [Oc] at r;cases r with
  | cons h t=>
   obtain ⟨tk,rfl⟩:=h;rcases List.mem_cons.mp hv with e | e
   ·exact ⟨n,tk,e⟩
   ·exact tw t v e
theorem zU {P:Program}{w:World}{A:Around}{ns:List Str}{us:List Value} (hv:aV (ns.map V.str) us) (s':Shared) (G:Array Nat->Shared->Prop) (h2:2<=us.length)
  (h:∀ p:Array Nat,p.toList.Perm (List.range us.length)->(∀ i j,i<=j->j<us.length->ltv ((ns.map PyData.str).getD (p.getD j 0) .none) ((ns.map PyData.str).getD (p.getD i 0) .none)=false)->G p s') :
  wpAny (model P w) A (keyKind' us.toArray) (λκ s''=>(kas_sort us.length).kasWp (kas_ask P w A κ us) G s'') (λ_ _=>False) s':=by
 refine kas_kind (T:=.type "str") h2 (λv hm=>?_) (by decide) (by decide) ?_
 ·obtain ⟨i,t,rfl⟩:=tw hv v hm;exact .of_pure rfl
 have l1:us.length=ns.length:=by rw [<-hv.length,NU]
 have o:=Sh.ok .str;have pJ:∀ i,i<us.length->(ns.map PyData.str).getD i .none = .str (ns.getD i Str.empty):=λi hi=>by
  have hi':i<ns.length:=by lia
  simp [N9,hi']
 have hgs:∀ i,i<us.length->Sh.str.has ((ns.map PyData.str).getD i .none):=λi hi=>⟨_,pJ i hi⟩;refine AW (n:=us.length) (lt:=λi j=>ltv ((ns.map PyData.str).getD i .none) ((ns.map PyData.str).getD j .none)) (P:=λs''=>s'' = s') ⟨λi hi=>o.irr _ (hgs i hi),λi j k hi hj hk q=>o.neg (hgs i hi) (hgs j hj) (hgs k hk) q,λi j hi hj q=>o.asymm (hgs i hi) (hgs j hj) q⟩
  (λi j C s'' hi hj e q=>?_) (by lia) rfl λp s'' e hp up=>by subst e;exact h p hp up
 subst e;show wpAny (model P w) A (keyLt' oneType' (us.getD i .none) (us.getD j .none)) C (λ_ _=>False) s'';have ri:=jr hv i;have rj:=jr hv j;have qq:=q s'' rfl;rw [pJ i hi,pJ j hj] at qq;have gi:∀ i,i<us.length->(ns.map V.str).getD i .non = .str (ns.getD i Str.empty):=λi hi=>by
  have hi':i<ns.length:=by lia
  simp [N9,hi']
 rw [gi i hi] at ri;rw [gi j hj] at rj;obtain ⟨ti,ei⟩:=ri;obtain ⟨tj,ej⟩:=rj;rw [ei,ej,keyLt'_oneType];exact oneLt_str qq
theorem Fg {ns:List Str}{p:List Nat} (h:p.Perm (List.range ns.length)):(p.map λi=>ns.getD i Str.empty).Perm ns:=by
 have e:=eU ns Str.empty;exact (h.map λi=>ns.getD i Str.empty).trans (by rw [e])
def KH:List Str->Hp->VK->Prop:=λus H Q=>us.length<64/\∀ (D:Addr) (ms:List Str),H D=none->ms.Perm us->UpS ms->Q (.ref D) (upd H D (.lst (ms.map V.str)))
section
variable {X:Cx}
theorem pE {k:Nat} (hc:X.calm=true) (hr:cC k X.A):Dx X (.builtin "sorted") KH:=by
 intro pins s σ H S us Q I hS h;obtain ⟨h64,q⟩:=h
 (refine Calls.call_function_entry kind_sorted plain_sorted entry_sorted (args_sorted1 _) ?_)
 unfold Builtin.«sorted»
 (refine wpAny_bind (m:=checkCount "sorted" 1 1 _) (wpAny_pure ?_))
 refine wpAny_bind (yo (A:=X.A.in1) (show X.A.in1.handled=none from I.ok.hd hc) hS (by rw [sizeLine_eq];lia) λh1 tk d acc us' hk hp hv=>?_);have hul:us'.length=us.length:=hp.length_eq;have hal:acc.length=us'.length:=by rw [<-hv.length,NU]
 (refine wpAny_bind (wpAny_newList ?_ (by rw [hal,hul,sizeLine_eq];lia)))
 have I1:Inv X pins σ H { s with heap:=h1,toks:=tk,drawn:=d }:=I.Il hk;have hoL:(h1.push (seqObj "list" acc.toArray 0)).get? h1.objs.size=some (seqObj "list" acc.toArray 0):=Heap.get?_push_size _ rfl;have keep:∀ b o,s.heap.get? b=some o->(h1.push (seqObj "list" acc.toArray 0)).get? b=some o:=λb o e=>Heap.get?_push_of_some _ (hk b o e);show wpAny _ _ (_ >>= λ_=>_) _ _ { s with heap:=h1.push (seqObj "list" acc.toArray 0),toks:=tk,drawn:=d };generalize h1.push (seqObj "list" acc.toArray 0)=h2 at hoL keep ⊢;have I2:Inv X pins σ H { s with heap:=h2,toks:=tk,drawn:=d }:=I.Il keep;have hDn:H h1.objs.size=none:=I1.hok.fresh (NX _);have fD:b9 X pins H h1.objs.size:=I1.qZ (NX _) hDn;generalize h1.objs.size=D at hoL hDn fD ⊢
 (refine wpAny_bind (wpAny_holding (wpAny_call_entry slot_list_sort ⟨_,hoL,rfl⟩ entry_list_sort ?body (args_list_sort _))))
 case body=>
  refine Dt (s:={ s with heap:=h2,toks:=tk,drawn:=d }) (ds:=us'.map PyData.str) I2 hoL fD hv (λs' G _ h2 hG=>zU hv s' G h2 hG) (by lia) λp h' hp2 gu I'=>?_;refine ⟨_,rfl,wpAny_pure ⟨_,rfl,?_⟩⟩;rw [NU] at hp2;have hlt:∀ i∈p,i<us'.length:=λi hi=>by have:=hp2.mem_iff.mp hi;simpa using this
  have e1:picked (us'.map V.str) p=(p.map λi=>us'.getD i Str.empty).map V.str:=by
   unfold picked;rw [List.map_map];refine List.map_congr_left λi hi=>?_;simp [N9,hlt i hi]
  have e2:(p.map λi=>(us'.map PyData.str).getD i .none)=(p.map λi=>us'.getD i Str.empty).map PyData.str:=by
   rw [List.map_map];refine List.map_congr_left λi hi=>?_;simp [N9,hlt i hi]
  have so:UpS (p.map λi=>us'.getD i Str.empty):=by
   unfold fZ at gu;rw [e2,List.pairwise_map] at gu;exact gu
  rw [e1] at I';exact ⟨.ref _,_,I',rfl,q _ _ hDn ((Fg hp2).trans hp) so⟩
def LR:List Str->Hp->VK->Prop:=λus H Q=>Q (.int us.length) H
theorem B3:Dx X (.builtin "len") LR:=by
 intro pins s σ H S us Q I hS h;obtain ⟨o,es,ep,t,ho,hex,hd,_,hb,hf,_,_,_,hm⟩:=id hS;have e:=hm.length_eq;rw [NU,Array.length_toList] at e;exact call_len_set ho hex hd hf (by unfold scanBound at hb;lia) ⟨.int us.length,H,I.tok _,⟨_,by rw [e]⟩,h⟩
end
end L2
namespace L2
open PySem PySem.Spec PyProof.Rows
section
variable {P:Program}{w:World}{A:Around}{E:Value->Shared->Prop}{s:Shared}{kf:Addr->Int×Str}
end
end L2
namespace L2
open PySem PySem.Spec PyProof.Rows PySem.W
section
variable {P:Program}{w:World}{A:Around}{E:Value->Shared->Prop}{s:Shared}
end
end L2
namespace L2
open PySem PySem.Spec PyProof.Rows
section
variable {X:Cx}{x y:Str}{p q pos zB:Pos}{e:Expr}{t:TA}
end
end L2
namespace LG
open PySem L2 PySem.Builtin PySem.Builtin.Str
structure Mx (P N:List (List Pt)):Prop where
 nd:N.Nodup
 ko:lZ N
 mem:∀ p,p∈N↔p∈P/\∀ q∈P,aC p q=true->q=p
def jn:List (List Nat)->List Nat
 | []=>[]
 | [t]=>t
 | t::u::r=>t++44::32::jn (u::r)
def HW (pss:List (List Pt)):PyData:=.list (pss.map be)
def kyD (n:Nat) (one other:List (List Pt)):PyData:=.list [.int n,HW one,HW other]
structure Nu (P Q:List (List Pt)) (l:List Str):Prop where
 wd:∀ x∈l,bW x=true/\Bd x
 up:l.Pairwise λa b=>wlt b a=false
 all:∀ y,bW y=true->∃ x∈l,wlt y x=false/\aN P x=aN P y/\aN Q x=aN Q y
def dr (n:Nat) (P:List (List Pt)):List (List Pt):=P.map (List.drop n)
def at_ (n:Nat) (w:Str) (P:List (List Pt)):List (List Pt):=P.filter λps=>(ps.getD n (.hole 2)).takes w
def ky (n:Nat) (P Q:List (List Pt)):Key:=.inr (Mg (kyD n P Q))
structure Base (m:Nat) (P0 Q0:List (List Pt)):Prop where
 m12:m<=12
 p:∀ ps∈P0,PW ps/\ps.length=m
 q:∀ ps∈Q0,PW ps/\ps.length=m
 lp:P0.length<=7
 lq:Q0.length<=8
structure KnK (P0 Q0:List (List Pt)) (kvs:List (Key×V)):Prop where
 nd:(kvs.map (·.1)).Nodup
 of:∀ k∈kvs.map (·.1),∃ n P Q,n<13/\P.Sublist P0/\Q.Sublist Q0/\k=ky n P Q
end LG
namespace LG
open PySem L2
section
variable {K:PySem.W.Frag}
def ptV:Pt->List V
 | .word w=>[.str "word",.str w]
 | .hole k=>[.str "hole",.str (bK k)]
def Ii (H:Hp) (v:V) (p:Pt):Prop:=∃ t,v = .ref t/\H t=some (.tup (ptV p))
def NL (o:HO):Prop:=∀ xs,o ≠ .lst xs
def tO (H:Hp):Hp:=λa=>match H a with
 | some (.lst _)=>none
 | o=>o
theorem w5 {H:Hp}{a:Addr}{o:HO} (h:tO H a=some o):NL o/\H a=some o:=by
 unfold tO at h
 split at h
 ·cases h
 ·rename_i n;exact ⟨λxs e=>n xs (by rw [h,e]),h⟩
theorem EC {H:Hp}{a:Addr}{o:HO} (h:H a=some o) (n:NL o):tO H a=some o:=by
 unfold tO
 split
 ·rename_i xs e;rw [h] at e;cases e;exact (n xs rfl).elim
 ·exact h
theorem Bz {H:Hp}:af (tO H) H:=λa o h=>(w5 h).2
theorem Bp {H H':Hp} (k:∀ a o,NL o->H a=some o->H' a=some o):af (tO H) (tO H'):=λa o h=>by
 obtain ⟨n,e⟩:=w5 h;exact EC (k a o n e) n
theorem Dm {xs:List V}:NL (.tup xs):=λys e=>by cases e
inductive PL (K:PySem.W.Frag) (H:Hp):List Addr->List (List Pt)->Prop
 | nil:PL K H [] []
 | cons {a:Addr}{ys:List V}{as:List Addr}{ps:List Pt}{pss:List (List Pt)} (h1:H a=some (.lst ys)) (h2:aI K (tO H) ys (ps.map Pt.dat)) (h3:a∉as) (t:PL K H as pss):PL K H (a::as) (ps::pss)
theorem Ii.den {H:Hp}{v:V}{p:Pt} (h:Ii H v p) (ok:PtW p):Den K (tO H) v p.dat:=by
 obtain ⟨t,rfl,h⟩:=h;cases p with
 | word w=>exact .tup (.of (EC h Dm)) (.cons (.str (by decide +kernel)) (.cons (.str ok.2.2) .nil))
 | hole k=>exact .tup (.of (EC h Dm)) (.cons (.str (by decide +kernel)) (.cons (.str t8) .nil))
theorem Hz {H H':Hp} (s:af H H'):af (tO H) (tO H'):=Bp λa o _ h=>s a _ h
theorem DI {H:Hp}{a:Addr}{xs ys:List V} (h:H a=some (.lst xs)):af (tO H) (tO (upd H a (.lst ys))):=Bp λc o n hc=>by
 have:c≠a:=λz=>by rw [z,h] at hc;cases hc;exact n _ rfl
 rw [ay this];exact hc
end
end LG
namespace L2
open PySem PySem.Spec PyProof.Rows PySem.W
abbrev IZ (X:Cx) (qual:Str) (scope:Scope) (q:Addr) (cd:Value) (L:Addr):Env:=envX qual scope L q cd (gc X.env.cells scope.names [])
def Bc (X:Cx) (N':List Str) (qual:Str) (scope:Scope) (q:Addr) (cd:Value) (s:Shared) (H:Hp):Cx where
 prog:=X.prog
 w:=X.w
 K:=X.K
 mg:=X.mg
 base:=X.base
 A:=X.A.in1.deeper (IZ X qual scope q cd s.heap.objs.size)
 N:=N'
 s₀:=s
 H₀:=H
 env:=IZ X qual scope q cd s.heap.objs.size
 outer:=X.stack
 stack:=IZ X qual scope q cd s.heap.objs.size::X.stack
 ex:=[]
 calm:=true
 fn:=λ_=>false
 pn:=[]
 xe:=λ_ _=>False
structure wI (X:Cx) (scope:Scope) (N':List Str) (y:Str) (fi:List Nat):Prop where
 kind:scope.kind = .function
 co:scope.isCoroutine=false
 gen:scope.isGenerator=false
 D8:∀ x∈scope.names,x.2 ≠ .cell
 par:scope.names.lookup y=some .local
 free:∀ z∈scope.names,z.2 = .free->X.env.kindOf z.1=some .cell\/X.env.kindOf z.1=some .free
 hd:N'[0]? = some y
 len:N'.length=fi.length+1
 at':∀ (j:Nat) (k:Nat),fi[j]? = some k->∃ x,N'[j+1]? = some x/\X.N[k]? = some x/\scope.names.lookup x=some .free
def Gj (v:V) (fi:List Nat) (σ:St):St:=some v::fi.map λk=>(σ[k]?).join
theorem lW {x:Str}:∀ {l:List (Str×NameKind)},l.lookup x=some .free->(x,NameKind.free)∈l
 | [],e=>by cases e
 | (n',q)::r,e=>by
  rw [List.lookup_cons] at e;cases hb:x == n' with
  | true=>rw [hb] at e;cases e;rw [beq_iff_eq.mp hb];exact N4
  | false=>rw [hb] at e;exact NY _ (lW e)
section
variable {X:Cx}{pins:List (Addr×Obj)}{σ:St}{H:Hp}{s:Shared}{scope:Scope}{N':List Str}{y:Str}{fi:List Nat}{h':Heap}{qual:Str}{q:Addr}{cd:Value}{v:V}{u:Value}{tk:Tok}
theorem Hw (I:Inv X pins σ H s) (hc:X.calm=true) (S:wI X scope N' y fi) (rv:RelV v u) (hns:h'.Ns s.heap.objs.size (λx=>[(y,u)].reverse.lookup x)) (hk:∀ b o,s.heap.get? b=some o->h'.get? b=some o) :
  Inv (Bc X N' qual scope q cd s H) [] (Gj v fi σ) H { s with heap:=h',toks:=tk }:=by
 have e0:=I.Gu.in1;have sub:∀ {x:Str}{c:Addr},(gc X.env.cells scope.names []).lookup x=some c->X.env.cells.lookup x=some c:=λ{x c} h=>nR _ _ (λ_ _ z=>by cases z) h;have has:∀ {x:Str},(x,NameKind.free)∈scope.names->∃ d,(gc X.env.cells scope.names []).lookup x=some d:=λ{x} hm=>pL _ _ (.inr ⟨hm,I.ok.has _ (S.free _ hm rfl)⟩);have noA:∀ b:Addr,b∉(Bc X N' qual scope q cd s H).ex:=λb z=>absurd (show b∈([]:List Addr) from z) (by simp);refine ⟨⟨e0.mod,S.kind,rfl,rfl,NX _,λx z c h1 h2=>?_,λx hx=>?_,λx c hx _=>?_,λ_=>I.ok.hd hc,Around.frames_deeper e0.frames,.inr ⟨rfl,rfl⟩,λb z=>absurd z (noA b),e0.bs,e0.bsz,λb _ _=>noA b,λb z=>absurd z (noA b),e0.pX,e0.frf⟩,
  rfl,e0.bare,Un.kept hk,⟨_,hns,λi x w h1 h2 h3=>?_⟩,λx c h=>?_,e0.hok.fresh (NX _),λx c h=>?_,λp hp=>absurd (show p∈([]:List (Addr×Obj)) from hp) (by simp),e0.hok.kept hk,?_⟩
 ·exact I.ok.inj x z c (sub h1) (sub h2)
 ·have hx:scope.names.lookup x=some .cell\/scope.names.lookup x=some .free:=hx;rcases hx with hx | hx
  ·exact absurd rfl (S.D8 _ (PySem.mem_of_lookup hx))
  ·exact has (lW hx)
 ·have hx:false=true:=hx;cases hx
 ·cases i with
  | zero=>
   have h1':N'[0]? = some x:=h1;rw [S.hd] at h1';cases h1';have h2':some (some v)=some (some w):=h2;cases h2';exact ⟨u,rv,.inl ⟨S.par,by simp⟩⟩
  | succ j=>
   have h2':(fi.map λk=>(σ[k]?).join)[j]? = some (some w):=h2;rw [N1] at h2';cases ek:fi[j]? with
   | none=>rw [ek] at h2';cases h2'
   | some k=>
    rw [ek] at h2';have vZ:(σ[k]?).join=some w:=Option.some.inj h2';have hσ:σ[k]? = some (some w):=by
     cases z:σ[k]? with
     | none=>rw [z] at vZ;cases vZ
     | some w'=>rw [z] at vZ;exact congrArg some vZ
    obtain ⟨x',e1,e2,e3⟩:=S.at' j k ek;have h1':N'[j+1]? = some x:=h1;rw [e1] at h1';cases h1';have hm:=lW e3;have kx:=S.free _ hm rfl;have vis:Vis X.env.scope x:=kx.elim (λz=>.inr (.inl z)) λz=>.inr (.inr z);obtain ⟨m0,hn0,hl0⟩:=I.loc;obtain ⟨u',ru,lk⟩:=hl0 k x w e2 hσ vis;refine ⟨u',ru,.inr ⟨.inr e3,?_⟩⟩;rcases lk with ⟨kl,_⟩ | ⟨_,c,ec,vk⟩
    ·rcases kx with z | z <;> (rw [show X.env.kindOf x=_ from kl] at z;cases z)
    ·obtain ⟨d,hd⟩:=has hm;have:=sub hd;rw [ec] at this;cases this;exact ⟨c,hd,vk.keeps hk⟩
 ·obtain ⟨z,hz⟩:=I.cell x c (sub h);exact ⟨z,hz.keeps hk⟩
 ·exact I.kP x c (sub h)
 ·show (Gj v fi σ).length=N'.length;rw [S.len];simp [Gj]
def qR (c:Addr) (qual:Str):HO:=.ext λh=>h.CodeRec (.ref c) qual
def EX (te:TE) (fi:List Nat) (σ:St) (c:Addr) (qual:Str):Sp:=λvs H Q _=>∃ v,vs=[v]/\H c=some (qR c qual)/\te (Gj v fi σ) H Q
theorem Cv {k:Nat}{name:Str}{params:Arguments}{body:Expr}{pm ctv:Value}{c':Addr}{te:TE} (hc:X.calm=true) (hr:cC (k+1) X.A) (S:wI X scope N' y fi)
  (hq:(q,kla_obj name qual params body scope (gc X.env.cells scope.names []) pm c' ctv)∈pins)
  (hb:∀ w,bindArgs (kla_fn name qual params body scope (gc X.env.cells scope.names []) pm (.ref c') ctv) ⟨[w],[]⟩=pure [(y,w)])
  (jy:∀ s H,PE (Bc X N' qual scope q (.ref c') s H) body te):uD X pins σ q (EX te fi σ c' qual):=by
 intro more H s x u Q I rx h;obtain ⟨v,e,hcx,h⟩:=h;cases e;have pin:=λp hp=>(I.pin p (Od _ (List.mem_append_left _ hp))).1;refine kla_callFunE hr.in1.depth (pin _ hq) rfl S.co S.gen rfl (I.hok _ _ hcx).1 ?_;show wpAny _ _ (bindArgs (kla_fn name qual params body scope (gc X.env.cells scope.names []) pm (.ref c') ctv) ⟨[u],[]⟩) _ _ _;rw [hb];refine wpAny_pure (wpAny_newFunctionEnv S.D8 (λz hz=>by rw [N3.mp hz];exact S.par) (λh₁ hns hsb=>?_) S.kind);have hk₁:∀ b o,s.heap.get? b=some o->h₁.get? b=some o:=λb o e=>hsb.extBut b o (Nat.ne_of_lt (Heap.lt_size e)) (Heap.get?_push_of_some _ e);refine ⟨I.nolimit.keeps hk₁,?_⟩;refine kla_codeExpr (wpAny_mono (jy s H [] _ _ H Q (Hw (pins:=pins++more) (σ:=σ) I hc S rx hns hk₁) h) (λv' s' z=>?_) λ_ _ z=>z.elim);obtain ⟨w,H',J,rw',qw⟩:=z;exact ⟨w,H',J.os,J.bare,J.base,J.hok,rw',qw⟩
theorem Dn {P:Program}{w:World}{H:Hp}{h:Heap}{c:Addr} (x:h.CodeRec (.ref c) qual):cm P w H h c (qR c qual):=by
 refine ⟨x,?_,λh1 h2 a k=>?_⟩
 ·obtain ⟨c0,o,vs,t,e,g,r⟩:=x;cases e;exact ⟨o,g⟩
 ·obtain ⟨c0,o,vs,t,e,g,r⟩:=a;cases e;exact ⟨c,o,vs,t,rfl,k _ g,r⟩
theorem Inv.grown {P c':Addr}{ps more:Array Value}{t':Tok} (I:Inv X pins σ H s) (hP:H P=some (.tbl ps)) (hk:Heap.ExtBut P s.heap h') (hc:s.heap.objs.size<=c') (ht:h'.get? P=some (tabObj (ps++more))) (hr:h'.CodeRec (.ref c') qual) :
  Inv X pins σ (upd (upd H P (.tbl (ps++more))) c' (qR c' qual)) { s with heap:=h',toks:=t' }:=by
 have hn:H c' = none:=I.hok.fresh hc;have hPc:P≠c':=ao hP hn;have hPl:P≠X.env.locals:=ao hP I.free;have at_:∀ b,b≠P->b≠c'->upd (upd H P (.tbl (ps++more))) c' (qR c' qual) b=H b:=λb h1 h2=>by rw [ay h2,ay h1]
 have lt:∀ {b:Addr}{o:Obj},s.heap.get? b=some o->b≠c':=λ{b o} e z=>by
  have:=Heap.lt_size e;rw [z] at this;exact absurd (Nat.lt_of_lt_of_le this hc) (Nat.lt_irrefl _)
 have nP:∀ {b:Addr},H b=none->b≠P:=λ{b} e z=>by rw [z,hP] at e;cases e
 refine I.step (g':=s.gens) (d':=s.drawn) (ch:=[]) (λb z=>absurd z (by simp)) (λb o _ _ _ e n=>hk b o (nP n) e) (λb o _ _ _ e n=>⟨o.slots,hk b o (nP n) e⟩) (λb o _ e n=>?_) (λb o _ e=>?_) (λb xs e=>?_) (λb o u e=>?_) (λb qs e=>?_) (λm hm=>?_) ?_ I.bare
 ·rw [at_ b (nP n) (lt e)];exact n
 ·by_cases hb:b=P
  ·exact ⟨_,by rw [hb];exact ht⟩
  ·exact ⟨o,hk b o hb e⟩
 ·have h1:b≠P:=λz=>by rw [z,hP] at e;cases e
  rw [at_ b h1 (ao e hn)];exact e
 ·have h1:b≠P:=λz=>by rw [z,hP] at e;cases e
  rw [at_ b h1 (ao e hn)];exact e
 ·by_cases hb:b=P
  ·subst hb;rw [hP] at e;cases e;exact ⟨more,by rw [ay hPc,ab]⟩
  ·exact ⟨#[],by rw [at_ b hb (ao e hn),e];simp⟩
 ·obtain ⟨o,es,ep,e,r⟩:=hm;exact ⟨o,es,ep,hk _ _ (Ne.symm hPl) e,r⟩
 ·intro b u e;by_cases hb:b=c'
  ·subst hb;rw [ab] at e;cases e;exact Dn hr
  ·rw [ay hb] at e;by_cases hp:b=P
   ·subst hp;rw [ab] at e;cases e;exact ht
   ·rw [ay hp] at e;refine (I.hok b u e).vR (λc o hc' q=>hk c o ?_ q) (λc q=>?_) λc xs q=>?_
    ·rintro rfl;rcases hc' with z | z
     ·exact hp z.symm
     ·rw [hP] at z;cases z
    ·have h1:c≠P:=λz=>by rw [z,hP] at q;cases q
     rw [at_ c h1 (ao q hn)];exact q
    ·have h1:c≠P:=λz=>by rw [z,hP] at q;cases q
     rw [at_ c h1 (ao q hn)];exact q
end
def qS (P:Addr) (pos:Pos) (qual:Str) (H:Hp):Prop:=∃ ps,H P=some (.tbl ps)/\TriplesOk ps.toList/\(codeAmong pos ps.toList=none\/∃ c,codeAmong pos ps.toList=some (.ref c)/\H c=some (qR c qual))
def LQ (K:PySem.W.Frag) (P:Addr) (uo:Pos) (qual:Str) (te:TE) (fi:List Nat) (ta:TA):TE:=λσ H Q=>ta σ H λvs H1=>∃ x,vs=[x]/\qS P uo qual H1 /\
 ∀ c H2,(H2=H1\/∃ ps,H1 P=some (.tbl ps)/\H1 c=none/\H2=upd (upd H1 P (.tbl (ps ++ #[rawInt uo.line,rawInt uo.col,.ref c]))) c (qR c qual))->qS P uo qual H2->H2 c=some (qR c qual)->vt K (EX te fi σ c qual) x H2 Q
section
variable {X:Cx}
def Mz (X:Cx):Prop:=∃ bm o,X.mg "__builtins__" = some (.ref bm)/\bm≠builtinsNs/\bm≠mainGlobals/\X.K.lookup bm=some o/\o.cls = .type "module" /\ o.dict=some builtinsNs/\o.data = .plain
theorem oV {a b:Int}{c:Value}:∀ {l:List Value},TriplesOk l->TriplesOk (l++[.int a 0,.int b 0,c])
 | [],_=>trivial
 | .int _ _ :: .int _ _::_::r,h=>oV (l:=r) h
 | .int _ _ :: .int _ _::[],h=>h.elim
 | .int _ _::[],h=>h.elim
theorem GV {k:Nat}{c P:Addr}{y:Str}{e:Expr}{ta:TA}{te:TE}{kn:Nat}{p uo pos kp pd kp2:Pos}{params:Arguments}{body:Expr}{scope:Scope}{N':List Str}{fi:List Nat} (hc:X.calm=true) (hr:cC (k+1) X.A) (S:wI X scope N' y fi)
  (HQ:X.env.code = .ref c) (hC:∀ h:Heap,X.K.In h->CodeHd h c P) (hB:Mz X)
  (jy:∀ q c' s H,PE (Bc X N' (X.env.qual ++ "<lambda>") scope q (.ref c') s H) body te)
  (hg:Gl X "min") (hm:X.mg "min" = none) (ha:PA X [e] ta)
  (hb:∀ cl pm c' ctv w,bindArgs (kla_fn "<lambda>" (X.env.qual ++ "<lambda>") params body scope cl pm (.ref c') ctv) ⟨[w],[]⟩=pure [(y,w)]:=by intros;rfl) (MA:defaultsOf params X.env=([],[]):=by rfl)
  (he:backTo pos (starEach [e] X.env)=(false,eval e X.env)::backTo pos (starEach [] X.env):=by rfl) (il:(backTo pos (starEach [e] X.env)).any (·.1)=false:=by rfl)
  (fc:(backToKw pos (keywordEach [⟨some "key",.Lambda params body scope uo,kp⟩,⟨some "default",.Constant .none kn pd,kp2⟩] X.env)).all (·.1.isSome)=true:=by rfl) (hkw:(backToKw pos (keywordEach [⟨some "key",.Lambda params body scope uo,kp⟩,⟨some "default",.Constant .none kn pd,kp2⟩] X.env)).any (·.1.isNone)=false:=by rfl) :
  PE X (.Call (.Name "min" p) [e] [⟨some "key",.Lambda params body scope uo,kp⟩,⟨some "default",.Constant .none kn pd,kp2⟩] pos) (LQ X.K P uo (X.env.qual ++ "<lambda>") te fi ta):=by
 intro pins s σ H Q I h;refine wpAny_Call_Name_kw (eD I hg hm zI ?_);refine callWith_kw (thn (ha pos pins s σ H _ I h) λus s1 ⟨vs,H1,I1,r1,q1⟩=>?_) he il fc hkw;obtain ⟨x,rfl,la,q⟩:=q1;obtain ⟨u,rfl,ru⟩:=r1.one;obtain ⟨ps,hP,ht,hcs⟩:=id la;have hPg:s1.heap.get? P=some (tabObj ps):=I1.hok P _ hP;have hcl:closureFor scope X.env=pure (gc X.env.cells scope.names []):=nc λz hz hk=>I1.ok.has _ (S.free z hz hk);have hgl:s1.heap.Ns mainGlobals X.mg:=I1.mod.glob.keeps I1.bk;have gN:H1 mainGlobals=none:=by
  obtain ⟨o,es,ep,e',_⟩:=I1.mod.glob;exact (I1.bs _ _ e').2
 have hgP:mainGlobals≠P:=λz=>by rw [z,hP] at gN;cases gN
 have hbu:s1.heap.BuiltinsAt X.mg P:=by
  obtain ⟨bm,o,b1,b2,b3,b4,b5⟩:=hB;have hb4:=I1.mod.kin bm o b4;have:=(I1.bs _ _ hb4).2;exact ⟨bm,o,b1,b2,b3,(λz=>by rw [z,hP] at this;cases this),(I1.bs _ _ hb4).1,b5⟩
 have fin:∀ (c':Addr) (ctv:Value) (h':Heap) (tk:Tok) (H2:Hp),Inv X pins σ H2 { s1 with heap:=h',toks:=tk }->vt X.K (EX te fi σ c' (X.env.qual ++ "<lambda>")) x H2 Q ->
   wpAny (model X.prog X.w) X.A (evalAll ((backToKw pos (keywordEach [⟨some "default",.Constant .none kn pd,kp2⟩] X.env)).map (·.2))) (λkvs s₂=>wpAny (model X.prog X.w) X.A (call (.builtin "min") [u] (((backToKw pos (keywordEach [⟨some "key",.Lambda params body scope uo,kp⟩,⟨some "default",.Constant .none kn pd,kp2⟩] X.env)).filterMap (·.1)).zip (.ref h'.objs.size::kvs))) (EP X pins σ Q) X.xe s₂) X.xe
    { s1 with heap:=h'.push (kla_obj "<lambda>" (X.env.qual ++ "<lambda>") params body scope (gc X.env.cells scope.names []) ((X.mg "__name__").getD .none) c' ctv),toks:=tk }:=λc' ctv h' tk H2 I2 q2=>by
  refine kws_cons (Constant_none (kws_nil ?_));have hn:H2 h'.objs.size=none:=I2.hok.fresh (NX _);have I3:Inv X pins σ H2 { s1 with heap:=h'.push (kla_obj "<lambda>" (X.env.qual ++ "<lambda>") params body scope (gc X.env.cells scope.names []) ((X.mg "__name__").getD .none) c' ctv),toks:=tk }:=I2.kept (s:={ s1 with heap:=h',toks:=tk }) (t':=tk) λb o e=>Heap.get?_push_of_some _ e;have I4:Inv X (pins++[(h'.objs.size,kla_obj "<lambda>" (X.env.qual ++ "<lambda>") params body scope (gc X.env.cells scope.names []) ((X.mg "__name__").getD .none) c' ctv)]) σ H2 { s1 with heap:=h'.push (kla_obj "<lambda>" (X.env.qual ++ "<lambda>") params body scope (gc X.env.cells scope.names []) ((X.mg "__name__").getD .none) c' ctv),toks:=tk }:=I3.px λz hz=>by
   rcases List.mem_append.mp hz with w | w
   ·exact I3.pin z (Od _ w)
   ·rw [N3.mp w];exact ⟨Heap.get?_push_size _ rfl,hn,Nat.ne_of_gt I2.lt,I2.Ko (NX _),λv z=>by cases z⟩
  exact thn (tJ (Cv (k:=k) hc hr S (Od _ (N3.mpr rfl)) (hb _ _ _ _) (jy _ _)) hr hc I4 ru q2) λv s' ⟨w,H',J,rw',qw⟩=>⟨w,H',J.eX,rw',qw⟩
 refine kws_cons (kla_eval MA ?_);rcases hcs with hnf | ⟨c',hf,hcx⟩
 ·refine kla_makeFunction hcl I1.ok.glob hgl HQ (hC _ I1.kIn) hPg ht hnf hgP hbu λc' ctv h' tk hk h1 h2 h3 h4=>?_;have hn:H1 c' = none:=I1.hok.fresh h1;have hPc:P≠c':=ao hP hn;have I2:=I1.grown (t':=tk) hP hk h1 h4 h3;refine fin c' ctv h' tk _ I2 (q c' _ (.inr ⟨ps,hP,hn,rfl⟩) ⟨_,by rw [ay hPc,ab],?_,.inr ⟨c',?_,ab⟩⟩ ab)
  ·rw [Array.toList_append];exact oV ht
  ·rw [Array.toList_append];exact codeAmong_snoc _ ht hnf
 ·refine kla_makeFunctionHit hcl I1.ok.glob hgl HQ (hC _ I1.kIn) hPg ht hf hbu λctv h' tk hk h1=>?_;have I2:Inv X pins σ H1 { s1 with heap:=h',toks:=tk }:=I1.kept (t':=tk) hk;exact fin c' ctv h' tk _ I2 (q c' _ (.inl rfl) la hcx)
end
def LJ (sc osc:Scope) (N N':List Str) (y:Str) (fi:List Nat):Bool:=
 decide (sc.kind = .function) && decide (sc.isCoroutine=false) && decide (sc.isGenerator=false) && decide (∀ x∈sc.names,x.2 ≠ .cell) && decide (sc.names.lookup y=some .local)
 && decide (∀ z∈sc.names,z.2 = .free->osc.names.lookup z.1=some .cell\/osc.names.lookup z.1=some .free)
 && decide (N'[0]? = some y) && decide (N'.length=fi.length+1)
 && (List.range fi.length).all λj=>match fi[j]? with
  | some k=>match N'[j+1]? with
   | some x=>decide (N[k]? = some x) && decide (sc.names.lookup x=some .free)
   | none=>false
  | none=>false
theorem JA {X:Cx}{sc:Scope}{N':List Str}{y:Str}{fi:List Nat} (osc:Scope) (N:List Str) (h:LJ sc osc N N' y fi=true) (e1:X.env.scope=osc:=by rfl) (e2:X.N=N:=by rfl):wI X sc N' y fi:=by
 subst e1 e2;simp only [LJ,Oa,decide_eq_true_eq] at h;obtain ⟨⟨⟨⟨⟨⟨⟨⟨h1,h2⟩,h3⟩,h4⟩,h5⟩,h6⟩,h7⟩,h8⟩,h9⟩:=h;refine ⟨h1,h2,h3,h4,h5,h6,h7,h8,λj k hj=>?_⟩;have hlt:j<fi.length:=by
  rcases Nat.lt_or_ge j fi.length with q | q
  ·exact q
  ·rw [List.getElem?_eq_none q] at hj;cases hj
 have g:=List.all_eq_true.mp h9 j (List.mem_range.mpr hlt);rw [hj] at g;dsimp only at g;cases e:N'[j+1]? with
 | none=>rw [e] at g;cases g
 | some x=>
  rw [e] at g;simp only [Oa,decide_eq_true_eq] at g;exact ⟨x,rfl,g.1,g.2⟩
structure IM (K:PySem.W.Frag) (mg:Str->Option Value) (fd:FuncData) (c P:Addr):Prop where
 code:fd.code = .ref c
 hd:∀ h:Heap,K.In h->CodeHd h c P
 bm:∃ bm o,mg "__builtins__" = some (.ref bm)/\bm≠builtinsNs/\bm≠mainGlobals/\K.lookup bm=some o/\o.cls = .type "module" /\ o.dict=some builtinsNs/\o.data = .plain
structure Jv (K:PySem.W.Frag) (x qual:Str) (st:Stmt) (f:Addr) (fd:FuncData):Prop where
 ex:∃ (oc:Value) (od:Option Addr) (dV kV doc pm:Value) (an:Option Addr) (cdv ct:Value) (osl:Array (Option Value)),
  fd=PySem.W.fnOf x qual (eZ st) (cT st) (ag st) dV kV doc pm an cdv ct/\K.lookup f=some ⟨oc,od,.func fd,osl⟩/\PySem.W.codeIn K cdv qual=true
 kp:PySem.W.keepIn K (.ref f)=true
structure CS (K:PySem.W.Frag) (mg:Str->Option Value) (x:Str) (st:Stmt) (ps:List Str) (f:Addr) (fd:FuncData):Prop where
 fn:Jv K x x st f fd
 bd:Binds K fd ps []
 mg:mg x=some (.ref f)
section
variable {P:Program}{w:World}{K:PySem.W.Frag}{mg:Str->Option Value}{base:Heap}
theorem Fun.okC {x qual:Str}{st:Stmt}{f c:Addr}{fd:FuncData}{N ps:List Str}{k:Nat}{sp:Sp} (F:Fun K x qual st f fd) (hcc:fd.code = .ref c) (S:aA N ps (ag st)) (len:∀ vs H Q E,sp vs H Q E->vs.length=ps.length)
  (jy:∀ (A:Around) (outer:List Env) (s:Shared) (H:Hp) (vs:List V) (Q:VK) (E:XK),cC k (A.deeper (envOfC qual (ag st) s.heap.objs.size f (.ref c)))->sp vs H Q E ->
   ∃ t,PSs (xB CX0 P w K mg base N qual (ag st) f (.ref c) A outer s H E).nox (cT st) t/\t { nx:=λ_ H'=>Q .non H',rt:=Q } (start N vs) H):au P w K mg base CX0 (k+1) f fd ps sp:=by
 obtain ⟨oc,od,kV,doc,pm,an,cdv,ct,osl,rfl,lk,hcd⟩:=F.ex;obtain rfl:cdv = .ref c:=hcc;refine Eg lk hcd S len λA outer s H vs Q E hr hsp=>?_;obtain ⟨t,h,q⟩:=jy A outer s H vs Q E hr hsp;exact ⟨t,h.nox,q⟩
theorem Jv.ok {x qual:Str}{st:Stmt}{f:Addr}{fd:FuncData}{N ps:List Str}{k:Nat}{sp:Sp} (F:Jv K x qual st f fd) (S:aA N ps (ag st)) (len:∀ vs H Q E,sp vs H Q E->vs.length=ps.length)
  (jy:∀ (cdv:Value) (A:Around) (outer:List Env) (s:Shared) (H:Hp) (vs:List V) (Q:VK) (E:XK),cC k (A.deeper (envOfC qual (ag st) s.heap.objs.size f cdv))->sp vs H Q E ->
   ∃ t,PSs (xB CX0 P w K mg base N qual (ag st) f cdv A outer s H E).nox (cT st) t/\t { nx:=λ_ H'=>Q .non H',rt:=Q } (start N vs) H):au P w K mg base CX0 (k+1) f fd ps sp:=by
 obtain ⟨oc,od,dV,kV,doc,pm,an,cdv,ct,osl,rfl,lk,hcd⟩:=F.ex;refine Eg lk hcd S len λA outer s H vs Q E hr hsp=>?_;obtain ⟨t,h,q⟩:=jy cdv A outer s H vs Q E hr hsp;exact ⟨t,h.nox,q⟩
end
end L2
namespace LG
open PySem L2
def bJ {α:Type} (st:List (Key×List α)) (k:Key) (x:α):List (Key×List α):=
 if (st.any λp=>decide (p.1=k))=true then st.map (λp=>if p.1=k then (p.1,p.2++[x]) else p) else st++[(k,[x])]
def b0 {α:Type} (l:List (Key×α)):List (Key×List α):=l.foldl (λst p=>bJ st p.1 p.2) []
def grp {α:Type} (ks:List Key) (xs:List α):List (List α):=(b0 (ks.zip xs)).map (·.2)
theorem yP {α:Type}{l:List (Key×α)}{i:Nat}{p:Key×α} (h:l[i]? = some p):b0 (l.take (i+1))=bJ (b0 (l.take i)) p.1 p.2:=by
 unfold b0;rw [List.take_add_one,h,List.foldl_append];rfl
inductive fX {α β:Type} (R:α->β->Prop):List α->List β->Prop
 | nil:fX R [] []
 | cons {a:α}{b:β}{l:List α}{m:List β} (h:R a b) (t:fX R l m):fX R (a::l) (b::m)
theorem fX.len {α β:Type}{R:α->β->Prop}{l:List α}{m:List β} (h:fX R l m):l.length=m.length:=by
 induction h with
 | nil=>rfl
 | cons _ _ ih=>rw [List.length_cons,List.length_cons,ih]
theorem fX.mono {α β:Type}{R S:α->β->Prop} (f:∀ a b,R a b->S a b) {l:List α}{m:List β} (h:fX R l m):fX S l m:=by
 induction h with
 | nil=>exact .nil
 | cons h _ ih=>exact .cons (f _ _ h) ih
theorem fX.snoc {α β:Type}{R:α->β->Prop}{l:List α}{m:List β}{a:α}{b:β} (h:fX R l m) (r:R a b):fX R (l++[a]) (m++[b]):=by
 induction h with
 | nil=>exact .cons r .nil
 | cons h _ ih=>exact .cons h ih
theorem fX.at {α β:Type}{R:α->β->Prop}{l:List α}{m:List β} (h:fX R l m):∀ {i:Nat}{a:α},l[i]? = some a->∃ b,m[i]? = some b/\R a b:=by
 induction h with
 | nil=>intro i a e;cases e
 | cons h _ ih=>
  intro i a e;cases i with
  | zero=>cases e;exact ⟨_,rfl,h⟩
  | succ i=>exact ih e
def E4 {α β:Type} (R:α->β->Prop) (p:Key×List α) (q:Key×List β):Prop:=p.1=q.1/\fX R p.2 q.2
theorem FP {α β:Type}{R:α->β->Prop}{st:List (Key×List α)}{tt:List (Key×List β)}{k:Key}{x:α}{y:β} (h:fX (E4 R) st tt) (r:R x y):fX (E4 R) (bJ st k x) (bJ tt k y):=by
 have ea:(st.any λp=>decide (p.1=k))=(tt.any λp=>decide (p.1=k)):=by
  induction h with
  | nil=>rfl
  | cons h _ ih=>rw [List.any_cons,List.any_cons,ih,h.1]
 unfold bJ;rw [ea]
 split
 ·rename_i hh;clear ea hh
  induction h with
  | nil=>exact .nil
  | @cons a b l m h _ ih=>
   refine .cons ?_ ih;show E4 R (if a.1=k then (a.1,a.2++[x]) else a) (if b.1=k then (b.1,b.2++[y]) else b);rw [h.1]
   split
   ·exact ⟨rfl,h.2.snoc r⟩
   ·exact h
 ·exact h.snoc ⟨rfl,.cons r .nil⟩
theorem Bx {α β:Type}{R:α->β->Prop}{xs:List α}{ys:List β} (h:fX R xs ys) (ks:List Key):fX (fX R) (grp ks xs) (grp ks ys):=by
 have go:∀ (ks:List Key) {xs:List α}{ys:List β}{st:List (Key×List α)}{tt:List (Key×List β)},fX R xs ys->fX (E4 R) st tt->fX (E4 R) ((ks.zip xs).foldl (λst p=>bJ st p.1 p.2) st) ((ks.zip ys).foldl (λst p=>bJ st p.1 p.2) tt):=λks=>by
  induction ks with
  | nil=>intro xs ys st tt _ h;simpa using h
  | cons k ks ih=>
   intro xs ys st tt h1 h2;cases h1 with
   | nil=>simpa using h2
   | cons r t=>exact ih t (FP h2 r)
 have z:=go ks h (st:=[]) (tt:=[]) .nil;unfold grp b0;generalize (ks.zip xs).foldl (λst p=>bJ st p.1 p.2) []=a at z;generalize (ks.zip ys).foldl (λst p=>bJ st p.1 p.2) []=b at z
 induction z with
 | nil=>exact .nil
 | cons h _ ih=>exact .cons h.2 ih
inductive GL (H0 H:Hp) (D:Addr):List Addr->List (Key×V)->List (Key×List V)->Prop
 | nil:GL H0 H D [] [] []
 | cons {a:Addr}{k:Key}{g:List V}{as:List Addr}{kvs:List (Key×V)}{st:List (Key×List V)} (h:H a=some (.lst g)) (hn:H0 a=none) (hD:a≠D) (ha:a∉as) (hk:k∉kvs.map (·.1)) (hs:st.map (·.1)=kvs.map (·.1)) (t:GL H0 H D as kvs st):GL H0 H D (a::as) ((k,.ref a)::kvs) ((k,g)::st)
theorem GL.keys {H0 H:Hp}{D:Addr}{as:List Addr}{kvs:List (Key×V)}{st:List (Key×List V)} (h:GL H0 H D as kvs st):st.map (·.1)=kvs.map (·.1):=by
 cases h with
 | nil=>rfl
 | cons _ _ _ _ _ hs _=>simp [hs]
theorem GL.vals {H0 H:Hp}{D:Addr}{as:List Addr}{kvs:List (Key×V)}{st:List (Key×List V)} (h:GL H0 H D as kvs st):kvs.map (·.2)=as.map V.ref:=by
 induction h with
 | nil=>rfl
 | cons _ _ _ _ _ _ _ ih=>simp [ih]
theorem GL.lists {H0 H:Hp}{D:Addr}{as:List Addr}{kvs:List (Key×V)}{st:List (Key×List V)} (h:GL H0 H D as kvs st):fX (λa g=>H a=some (.lst g)) as (st.map (·.2)):=by
 induction h with
 | nil=>exact .nil
 | cons h _ _ _ _ _ _ ih=>exact .cons h ih
theorem GL.mem {H0 H:Hp}{D:Addr}{as:List Addr}{kvs:List (Key×V)}{st:List (Key×List V)} (h:GL H0 H D as kvs st):∀ a∈as,(∃ g,H a=some (.lst g))/\H0 a=none/\a≠D:=by
 induction h with
 | nil=>intro a ha;cases ha
 | cons h hn hD _ _ _ _ ih=>
  intro a ha;rcases List.mem_cons.mp ha with e | ha
  ·rw [e];exact ⟨⟨_,h⟩,hn,hD⟩
  ·exact ih a ha
theorem GL.keep {H0 H H':Hp}{D:Addr}{as:List Addr}{kvs:List (Key×V)}{st:List (Key×List V)} (h:GL H0 H D as kvs st) (k:∀ a∈as,H' a=H a):GL H0 H' D as kvs st:=by
 induction h with
 | nil=>exact .nil
 | cons h hn hD ha hk hs t ih=>exact .cons ((k _ (.head _)).trans h) hn hD ha hk hs (ih λa z=>k a (.tail _ z))
theorem GL.snoc {H0 H:Hp}{D L:Addr}{k:Key}{g:List V}{as:List Addr}{kvs:List (Key×V)}{st:List (Key×List V)} (h:GL H0 H D as kvs st) (hL:H L=some (.lst g)) (hn:H0 L=none) (hD:L≠D) (ha:L∉as) (hk:k∉kvs.map (·.1)) :
  GL H0 H D (as++[L]) (kvs++[(k,.ref L)]) (st++[(k,g)]):=by
 induction h with
 | nil=>exact .cons hL hn hD (by simp) (by simp) rfl .nil
 | @cons a k' g' as kvs st h hn' hD' ha' hk' hs t ih=>
  rw [List.mem_cons,not_or] at ha;simp only [Oc,List.mem_cons,not_or] at hk;refine .cons h hn' hD' ?_ ?_ (by simp [hs]) (ih ha.2 hk.2)
  ·show a∉as++[L];rw [List.mem_append,not_or];exact ⟨ha',λz=>ha.1 (N3.mp z).symm⟩
  ·show k'∉(kvs++[(k,V.ref L)]).map (·.1)
   rw [N8,List.mem_append,not_or];exact ⟨hk',λz=>hk.1 (N3.mp z).symm⟩
theorem Dq {kvs:List (Key×V)}{k:Key} (h:jw kvs k=none):k∉kvs.map (·.1)/\(kvs.any λkv=>decide (kv.1=k))=false:=by
 induction kvs with
 | nil=>exact ⟨by simp,rfl⟩
 | cons p r ih=>
  by_cases e:p.1=k
  ·rw [tY e] at h;cases h
  ·have h':jw r k=none:=by
    unfold jw at h ⊢;rw [List.find?_cons,decide_eq_false e] at h;exact h
   obtain ⟨h1,h2⟩:=ih h';refine ⟨λz=>?_,by rw [List.any_cons,decide_eq_false e,h2];rfl⟩;rcases List.mem_cons.mp z with w | w
   ·exact e w.symm
   ·exact h1 w
theorem any_keys {α β:Type}{st:List (Key×α)}{kvs:List (Key×β)} (h:st.map (·.1)=kvs.map (·.1)) (k:Key):(st.any λp=>decide (p.1=k))=(kvs.any λp=>decide (p.1=k)):=by
 have a:∀ {γ:Type} (l:List (Key×γ)),(l.any λp=>decide (p.1=k))=(l.map (·.1)).any λx=>decide (x=k):=λl=>by
  rw [List.any_map];rfl
 rw [a,a,h]
theorem GL.grow {H0 H:Hp}{D:Addr}{as:List Addr}{kvs:List (Key×V)}{st:List (Key×List V)}{k:Key}{v x:V} (h:GL H0 H D as kvs st):jw kvs k=some v->∃ a g,v = .ref a/\a∈as/\H a=some (.lst g)/\g∈st.map (·.2)/\GL H0 (upd H a (.lst (g++[x]))) D as kvs (bJ st k x):=by
 have key:∀ {as kvs st},GL H0 H D as kvs st->jw kvs k=some v->∃ a g,v = .ref a/\a∈as/\H a=some (.lst g)/\g∈st.map (·.2)/\(st.any λp=>decide (p.1=k))=true/\GL H0 (upd H a (.lst (g++[x]))) D as kvs (st.map λp=>if p.1=k then (p.1,p.2++[x]) else p):=λ{as kvs st} h=>by
  induction h with
  | nil=>intro e;cases e
  | @cons a k' g as kvs st h hn hD ha hk hs t ih=>
   intro e;by_cases ek:k' = k
   ·rw [tY ek] at e;cases e;refine ⟨a,g,rfl,.head _,h,by simp,by rw [List.any_cons,decide_eq_true ek];rfl,?_⟩;have em:(st.map λp=>if p.1=k then (p.1,p.2++[x]) else p)=st:=by
     have e1:∀ p∈st,(if p.1=k then (p.1,p.2++[x]) else p)=p:=λp hp=>if_neg λz=>hk (by rw [<-hs,ek,<-z];exact List.mem_map_of_mem hp);exact (List.map_congr_left e1).trans (List.map_id' st)
    rw [Oc,if_pos ek,em];exact .cons ab hn hD ha hk hs (t.keep λb hb=>ay λ(z:b=a)=>ha (z ▸ hb))
   ·have e':jw kvs k=some v:=by
     unfold jw at e ⊢;rw [List.find?_cons,decide_eq_false ek] at e;exact e
    obtain ⟨b,g',e1,e2,e3,e4,e5,e6⟩:=ih e';refine ⟨b,g',e1,.tail _ e2,e3,NY _ e4,by rw [List.any_cons,e5,Bool.or_true],?_⟩;rw [Oc,if_neg ek];have hba:a≠b:=λz=>ha (z ▸ e2);refine .cons (by rw [ay hba];exact h) hn hD ha hk ?_ e6;rw [List.map_map,<-hs];exact List.map_congr_left λp _=>by show (if p.1=k then (p.1,p.2++[x]) else p).1=p.1;split <;> rfl
 intro e;obtain ⟨a,g,e1,e2,e3,e4,e5,e6⟩:=key h e;refine ⟨a,g,e1,e2,e3,e4,?_⟩;unfold bJ;rw [if_pos e5];exact e6
theorem GL.more {H0 H:Hp}{D L:Addr}{as:List Addr}{kvs:List (Key×V)}{st:List (Key×List V)}{k:Key}{x:V} (h:GL H0 H D as kvs st) (e:jw kvs k=none) (hL:H L=some (.lst [x])) (hn:H0 L=none) (hD:L≠D) (ha:L∉as) :
  putK kvs k (.ref L)=kvs++[(k,.ref L)]/\GL H0 H D (as++[L]) (kvs++[(k,.ref L)]) (bJ st k x):=by
 obtain ⟨h1,h2⟩:=Dq e;refine ⟨by unfold putK;rw [h2];rfl,?_⟩;unfold bJ;rw [any_keys h.keys k,h2];exact h.snoc hL hn hD ha h1
end LG
namespace K38
open PySem L2 LG
set_option genSizeOf false in
set_option genInjectivity false in
structure Ad where
 j9:Addr
 jV:FuncData
 mo:Addr
 mD:FuncData
 jF:Addr
 ji:FuncData
 fB:Addr
 fQ:FuncData
 ij:Addr
 ir:FuncData
 jN:Addr
 km:FuncData
 m4:Addr
 m6:FuncData
 mi:Addr
 mf:FuncData
 jO:Addr
 ku:FuncData
 cM:Addr
 cL:FuncData
 dv:Addr
 dC:FuncData
 iP:Addr
 iG:FuncData
 wq:Addr
 wY:FuncData
 rT:Addr
 t9:FuncData
 dB:Addr
 du:FuncData
 iQ:Addr
 iV:FuncData
 cS:Addr
 cR:FuncData
 jd:Addr
 jb:FuncData
 pC:Addr
 oP:FuncData
 ng:Addr
 mV:FuncData
 Ed:Addr
 Em:FuncData
 nK:Addr
 m8:FuncData
 jc:Addr
 i6:FuncData
 gX:Addr
 gY:FuncData
 fM:Addr
 fL:FuncData
 dU:Addr
 dY:FuncData
 ib:Addr
 iz:FuncData
 oE:Addr
 pB:FuncData
 fe:Addr
 eW:FuncData
 fu:Addr
 fm:FuncData
 jU:Addr
 ka:FuncData
 ic:Addr
 iu:FuncData
 eE:Addr
 d8:FuncData
 ma:Addr
 mw:FuncData
 iA:Addr
 iw:FuncData
 fH:Addr
 fO:FuncData
 dH:Addr
 dD:FuncData
 ef:Addr
 cF:FuncData
 jo:Addr
 jv:FuncData
 d7:Addr
 eB:FuncData
 nD:Addr
 nh:FuncData
 dG:Addr
 dE:FuncData
 lh:Addr
 k8:FuncData
 i7:Addr
 jf:FuncData
 iF:Addr
 iZ:FuncData
 iq:Addr
 gZ:FuncData
 lc:Addr
 lR:FuncData
 iy:Addr
 ix:FuncData
 k7:Addr
 lD:FuncData
 fY:Addr
 gj:FuncData
 iL:Addr
 iY:FuncData
 lJ:Addr
 k6:FuncData
 j7:Addr
 ke:FuncData
 gP:Addr
 gR:FuncData
 eP:Addr
 fq:FuncData
 HV:Addr
 HX:FuncData
 bS:Addr
 je:Addr
 Lo:Addr
 aM:Addr
structure Tx (K:PySem.W.Frag) (mg:Str->Option Value) (A:Ad):Prop where
 yJ:mg "all" = none
 Dy:mg "any" = none
 yA:mg "enumerate" = none
 kB:mg "isinstance" = none
 cq:mg "len" = none
 tN:mg "list" = none
 Bb:mg "min" = none
 gT:mg "range" = none
 An:mg "reversed" = none
 EY:mg "set" = none
 oe:mg "sorted" = none
 Lc:mg "str" = none
 Hg:mg "tuple" = none
 Be:mg "zip" = none
 CG:∃ t,mg "FIGURES" = some (.str BN t)
 rB:∃ t,mg "SMALL_LETTERS" = some (.str Cd t)
 oY:∃ t,mg "WORD_SIGNS" = some (.str kT t)
 wm:∃ t,mg "MOST_PARTS" = some (.int 12 t)
 kD:mg "HOLE_KINDS" = some (.ref A.bS)
 kC:∀ H,SqT K H A.bS [.str "number",.str "name",.str "any"]
 wZ:∃ o,K.lookup A.bS=some o/\o.cls = .type "tuple" /\ o.dict=none
 FK:mg "PLAIN_SIEVE" = some (.ref A.je)
 FJ:∀ H,SqT K H A.je [.int 3,.int 2]
 FI:∃ o,K.lookup A.je=some o/\o.cls = .type "tuple" /\ o.dict=none
 dW:a8 K mg "has_only" (top 9) ["text","signs"] A.j9 A.jV
 jW:a8 K mg "is_word" (top 10) ["thing"] A.mo A.mD
 fV:a8 K mg "kind_of" (top 11) ["word"] A.jF A.ji
 words_of:a8 K mg "words_of" (top 12) ["line"] A.fB A.fQ
 eN:a8 K mg "word_key" (top 13) ["word"] A.ij A.ir
 lG:a8 K mg "line_key" (top 14) ["line"] A.jN A.km
 pN:a8 K mg "in_order" (top 15) ["lines"] A.m4 A.m6
 jK:a8 K mg "is_part" (top 19) ["thing"] A.mi A.mf
 jS:a8 K mg "is_pattern" (top 20) ["thing"] A.jO A.ku
 bc:a8 K mg "is_hole" (top 21) ["part"] A.cM A.cL
 bB:a8 K mg "part_takes" (top 22) ["part","word"] A.dv A.dC
 fG:a8 K mg "all_taken" (top 23) ["parts","words"] A.iP A.iG
 fits:a8 K mg "fits" (top 24) ["pattern","line"] A.wq A.wY
 filled:a8 K mg "filled" (top 25) ["pattern","words"] A.rT A.t9
 br:a8 K mg "is_part_within" (top 26) ["one","other"] A.dB A.du
 fC:a8 K mg "is_within" (top 27) ["one","other"] A.iQ A.iV
 cy:a8 K mg "kind_of_hole_around" (top 28) ["part"] A.cS A.cR
 iU:a8 K mg "joined_part" (top 29) ["parts"] A.jd A.jb
 joined:a8 K mg "joined" (top 30) ["patterns"] A.pC A.oP
 oN:a8 K mg "met_part" (top 31) ["one","other"] A.ng A.mV
 met:a8 K mg "met" (top 32) ["one","other"] A.Ed A.Em
 oZ:a8 K mg "part_key" (top 33) ["part"] A.nK A.m8
 lY:a8 K mg "pattern_key" (top 34) ["pattern"] A.jc A.i6
 ordered:a8 K mg "ordered" (top 35) ["patterns"] A.gX A.gY
 ff:a8 K mg "least_word_but" (top 37) ["kind","words"] A.fM A.fL
 bT:a8 K mg "is_needless" (top 38) ["pattern","others"] A.dU A.dY
 gO:a8 K mg "words_to_try" (top 39) ["part","beside"] A.ib A.iz
 behind:a8 K mg "behind" (top 40) ["patterns","word"] A.oE A.pB
 d4:a8 K mg "first_word_past" (top 41) ["pattern","others"] A.fe A.eW
 d5:a8 K mg "least_line_past" (top 42) ["pattern","others"] A.fu A.fm
 eh:a8 K mg "lines_past" (top 43) ["patterns","others"] A.jU A.ka
 gC:a8 K mg "parting_line" (top 44) ["one","other"] A.ic A.iu
 dq:a8 K mg "without_needless" (top 45) ["patterns"] A.eE A.d8
 jZ:a8 K mg "grouped" (top 48) ["rows","keys"] A.ma A.mw
 dX:a8 K mg "words_at" (top 49) ["group","place"] A.iA A.iw
 eV:a8 K mg "many_unlike_at" (top 50) ["group","place"] A.fH A.fO
 cU:a8 K mg "is_fit_to_part_at" (top 51) ["group","place","sieve"] A.dH A.dD
 dh:a8 K mg "place_to_part_at" (top 52) ["group","sieve"] A.ef A.cF
 parted:a8 K mg "parted" (top 53) ["group","sieve"] A.jo A.jv
 dg:a8 K mg "pattern_of_group" (top 54) ["group"] A.d7 A.eB
 gathered:CS K mg "gathered" (top 55) ["lines","sieve"] A.nD A.nh
 cV:a8 K mg "looseness_of_part" (top 57) ["part"] A.dG A.dE
 qu:a8 K mg "looseness" (top 58) ["pattern"] A.lh A.k8
 iR:a8 K mg "falls_under" (top 59) ["line","patterns"] A.i7 A.jf
 fE:a8 K mg "show_part" (top 61) ["part"] A.iF A.iZ
 gJ:a8 K mg "show_pattern" (top 62) ["pattern"] A.iq A.gZ
 l9:a8 K mg "read_part" (top 63) ["text"] A.lc A.lR
 gG:a8 K mg "read_pattern" (top 64) ["text"] A.iy A.ix
 mx:a8 K mg "_law_deck" (top 66) ["cell","turn"] A.k7 A.lD
 ax:a8 K mg "_law_pick" (top 67) ["deck","many"] A.fY A.gj
 fR:a8 K mg "_law_word" (top 69) ["deck"] A.iL A.iY
 mj:a8 K mg "_law_line" (top 70) ["deck","most"] A.lJ A.k6
 kF:a8 K mg "_law_lines" (top 71) ["deck","most"] A.j7 A.ke
 bD:a8 K mg "_law_plain" (top 73) ["line"] A.gP A.gR
 bL:a8 K mg "_law_pair_right" (top 74) ["one","other"] A.eP A.fq
 lam:IM K mg A.cF A.Lo A.aM
section
variable {P:Program}{w:World}{K:PySem.W.Frag}{mg:Str->Option Value}{base:Heap}{A:Ad}
theorem y3:aA ["text","signs"] ["text","signs"] (ag (top 9)):=⟨rfl,rfl,rfl,by decide +kernel,rfl,by decide +kernel,by decide +kernel⟩
set_option maxHeartbeats 8000000 in
theorem qU (T:Tx K mg A):au P w K mg base CX0 1 A.j9 A.jV ["text","signs"] (lA K):=by
 refine T.dW.fn.ok y3 (λvs H Q E h=>?_) (λcdv Ar outer s H vs Q E hr h=>?_)
 ·obtain ⟨z,y,rfl,_⟩:=h;rfl
 ·obtain ⟨z,y,rfl,hz,k⟩:=h;refine ⟨_,aj (ar (qr (b6 (kJ) (pv 0) (aH) (aQ _)) (nE (b6 (fA) (c5 PySem.F.plainAttrs_str PySem.F.slot_str_strip PySem.F.type_str_strip Ce (pv 0) (aa (pv 1) (ae))) (aH) (aQ _))))),?_⟩;refine ⟨_,rfl,rfl,_,rfl,?_⟩;have e:=Gc z y;by_cases hn:z.cps.toList.isEmpty=true
  ·have e1:(!decide (V.str z=V.str ""))=false:=by rw [wB,hn];rfl
   rw [e1,Bool.false_and] at e;rw [e1,if_neg N6,e];exact k
  ·have e1:(!decide (V.str z=V.str ""))=true:=by rw [wB,Bool.eq_false_iff.mpr hn];rfl
   rw [e1,Bool.true_and] at e;rw [e1,if_pos rfl];refine ⟨_,rfl,rfl,_,rfl,z,y,rfl,rfl,hz.s,rfl,?_⟩;rw [e];exact k
theorem ze:aA ["thing"] ["thing"] (ag (top 10)):=⟨rfl,rfl,rfl,by decide +kernel,rfl,by decide +kernel,by decide +kernel⟩
set_option maxHeartbeats 8000000 in
theorem sf (T:Tx K mg A):au P w K mg base CX0 2 A.mo A.mD ["thing"] (nQ K):=by
 have jX:au P w K mg base CX0 1 A.j9 A.jV ["text","signs"] (lA K):=(qU T).mono (by decide);refine T.jW.fn.ok ze (λvs H Q E h=>?_) (λcdv Ar outer s H vs Q E hr h=>?_)
 ·obtain ⟨z,rfl,_⟩:=h;rfl
 ·obtain ⟨z,rfl,hz,k⟩:=h;refine ⟨_,aj (ar (qr (aK (r:=Gb K) sj (by rfl) T.kB i9 (aa (pv 0) (aa (xb (v:=.ty "str") (by rfl) T.Lc IX rfl) (ae)))) (nE (ak jX hr (by rfl) T.dW.mg T.dW.fn.kp T.dW.bd .nil av (aa (pv 0) (aa (iN (v:=.str kT) (by rfl) (Exists.choose_spec T.oY) ⟨_,rfl⟩) (ae))))))),?_⟩;refine ⟨_,rfl,_,"str",_,true,rfl,.str z,by rfl,_,rfl,bF ?_⟩;refine ⟨_,rfl,z,kT,rfl,hz,?_⟩;rw [vp];exact k
theorem zr:aA ["word"] ["word"] (ag (top 11)):=⟨rfl,rfl,rfl,by decide +kernel,rfl,by decide +kernel,by decide +kernel⟩
set_option maxHeartbeats 8000000 in
theorem nO (T:Tx K mg A):au P w K mg base CX0 2 A.jF A.ji ["word"] (kz K):=by
 have jX:au P w K mg base CX0 1 A.j9 A.jV ["text","signs"] (lA K):=(qU T).mono (by decide);refine T.fV.fn.ok zr (λvs H Q E h=>?_) (λcdv Ar outer s H vs Q E hr h=>?_)
 ·obtain ⟨z,rfl,_⟩:=h;rfl
 ·obtain ⟨z,rfl,hz,k⟩:=h;refine ⟨_,ah (bj (bi (ak jX hr (by rfl) T.dW.mg T.dW.fn.kp T.dW.bd .nil av (aa (c5 PySem.F.plainAttrs_str PySem.F.slot_str_removeprefix PySem.F.type_str_removeprefix yC (pv 0) (aa (aH) (ae))) (aa (iN (v:=.str BN) (by rfl) (Exists.choose_spec T.CG) ⟨_,rfl⟩) (ae))))) (aj (ar (aH))) (aG))
   (ah (bj (bi (ak jX hr (by rfl) T.dW.mg T.dW.fn.kp T.dW.bd .nil av (aa (pv 0) (aa (iN (v:=.str Cd) (by rfl) (Exists.choose_spec T.rB) ⟨_,rfl⟩) (ae))))) (aj (ar (aH))) (aG))
   (aj (ar (aH)))),?_⟩
  refine ⟨_,rfl,rfl,z,"-",rfl,rfl,hz.s,_,BN,rfl,N2 (Ci z) hz,_,rfl,?_⟩;rw [EV,ya];have e:bx z=if cA dig (dA z.cps.toList)=true then 0 else if cA low z.cps.toList=true then 1 else 2:=rfl;rw [e] at k;by_cases h1:cA dig (dA z.cps.toList)=true
  ·rw [h1,if_pos rfl] at k;rw [h1];exact bF k
  ·rw [if_neg h1] at k;rw [Bool.eq_false_iff.mpr h1];refine bg ?_;refine ⟨_,rfl,z,Cd,rfl,hz,_,rfl,?_⟩;rw [EU];by_cases h2:cA low z.cps.toList=true
   ·rw [if_pos h2] at k;rw [h2];exact bF k
   ·rw [if_neg h2] at k;rw [Bool.eq_false_iff.mpr h2];exact bg k
theorem xG:aA ["line"] ["line"] (ag (top 12)):=⟨rfl,rfl,rfl,by decide +kernel,rfl,by decide +kernel,by decide +kernel⟩
set_option maxHeartbeats 8000000 in
theorem iO (T:Tx K mg A):au P w K mg base CX0 1 A.fB A.fQ ["line"] (gb K):=by
 refine T.words_of.fn.ok xG (λvs H Q E h=>?_) (λcdv Ar outer s H vs Q E hr h=>?_)
 ·obtain ⟨z,rfl,_⟩:=h;rfl
 ·obtain ⟨z,rfl,hz,k⟩:=h;refine ⟨_,aj (ar (c5 PySem.F.plainAttrs_str PySem.F.slot_str_split PySem.F.type_str_split sZ (pv 0) (aa (aH) (ae)))),?_⟩;exact ⟨_,rfl,rfl,z," ",rfl,rfl,by decide +kernel,N2 (Nat.add_le_add_right hz 2) (by decide),λl hl=>k l hl⟩
theorem zH:aA ["part"] ["part"] (ag (top 21)):=⟨rfl,rfl,rfl,by decide +kernel,rfl,by decide +kernel,by decide +kernel⟩
set_option maxHeartbeats 8000000 in
theorem c6 (T:Tx K mg A):au P w K mg base CX0 1 A.cM A.cL ["part"] (cJ K):=by
 refine T.bc.fn.ok zH (λvs H Q E h=>?_) (λcdv Ar outer s H vs Q E hr h=>?_)
 ·obtain ⟨v,pt,rfl,_⟩:=h;rfl
 ·obtain ⟨v,pt,rfl,hd,k⟩:=h;obtain ⟨a,x,y,rfl,hq,_,_,hx⟩:=ip hd;refine ⟨_,aj (ar (b6 (fA) (ba (r:=jg K) cK (pv 0) (ap) (λ_ _=>rfl)) (aH) (aQ _))),?_⟩;refine ⟨_,rfl,a,_,0,_,rfl,rfl,hq,rfl,rfl,?_⟩;cases pt with
  | word w=>
   obtain ⟨rfl,_⟩:=hx;rw [decide_eq_false (by decide)];exact k
  | hole m=>
   obtain ⟨rfl,_⟩:=hx;rw [decide_eq_true rfl];exact k
theorem uf:aA ["part","word"] ["part","word"] (ag (top 22)):=⟨rfl,rfl,rfl,by decide +kernel,rfl,by decide +kernel,by decide +kernel⟩
set_option maxHeartbeats 8000000 in
theorem fU (T:Tx K mg A):au P w K mg base CX0 3 A.dv A.dC ["part","word"] (dR K):=by
 have bu:au P w K mg base CX0 2 A.cM A.cL ["part"] (cJ K):=(c6 T).mono (by decide);have p6:au P w K mg base CX0 2 A.mo A.mD ["thing"] (nQ K):=(sf T).mono (by decide);have jk:au P w K mg base CX0 2 A.jF A.ji ["word"] (kz K):=(nO T).mono (by decide);refine T.bB.fn.ok uf (λvs H Q E h=>?_) (λcdv Ar outer s H vs Q E hr h=>?_)
 ·obtain ⟨v,x,p,rfl,_⟩:=h;rfl
 ·obtain ⟨v,x,p,rfl,hd,hok,hw,k⟩:=h;obtain ⟨a,x1,y1,ev,hq,_,_,hx⟩:=ip hd;refine ⟨_,ah (bj (fN (bi (ak bu hr (by rfl) T.bc.mg T.bc.fn.kp T.bc.bd .nil av (aa (pv 0) (ae))))) (aj (ar (b6 (fA) (pv 1) (ba (r:=jg K) cK (pv 0) (ap) (λ_ _=>rfl)) (aQ _)))) (aG))
   (ah (bj (aR (fA) (ba (r:=jg K) cK (pv 0) (ap) (λ_ _=>rfl)) (aH) (aQ _)) (aj (ar (ak p6 hr (by rfl) T.jW.mg T.jW.fn.kp T.jW.bd .nil av (aa (pv 1) (ae))))) (aG))
   (aj (ar (b6 (fA) (ak jk hr (by rfl) T.fV.mg T.fV.fn.kp T.fV.bd .nil av (aa (pv 1) (ae))) (ba (r:=jg K) cK (pv 0) (ap) (λ_ _=>rfl)) (aQ _))))),?_⟩
  refine ⟨_,rfl,v,p,rfl,hd,_,rfl,?_⟩;subst ev;cases p with
  | word y=>
   obtain ⟨rfl,rfl⟩:=hx;refine bF ⟨_,rfl,_,rfl,a,_,1,_,rfl,rfl,hq,rfl,rfl,?_⟩;have e:decide (V.str x=V.str y1)=(Pt.word y1).takes x:=by
    rw [Bool.eq_iff_iff];simp [Pt.takes]
   rw [e];exact k
  | hole m=>
   obtain ⟨rfl,rfl⟩:=hx;have hm:m<3:=hok;refine bg ?_;refine ⟨_,rfl,a,_,1,_,rfl,rfl,hq,rfl,rfl,_,rfl,?_⟩;rw [xK hm];by_cases h2:m=2
   ·rw [decide_eq_true h2];refine bF ?_;subst h2;exact ⟨_,rfl,x,rfl,hw,k⟩
   ·rw [decide_eq_false h2];refine bg ?_;refine ⟨_,rfl,x,rfl,hw,_,rfl,a,_,1,_,rfl,rfl,hq,rfl,rfl,?_⟩;have e:(Pt.hole m).takes x=decide (bx x=m):=by
     have:m=0\/m=1:=by lia
     rcases this with rfl | rfl <;> rfl
    rw [B6 (k:=m) (by lia),<-e];exact k
end
end K38
namespace L2
open PySem PySem.Spec PyProof.Rows PySem.W
def LH (T:Addr) (H:Hp):Prop:=∀ b,H b=none\/(∃ o xs,H b=some (.frz o (.lst xs)))\/(b=T/\H b=some (.tbl #[]))
theorem BZ {P:Program}{w:World}{K:PySem.W.Frag}{mg mb:Str->Option Value}{k:Nat}{fa a c T:Addr}{fd:FuncData}{x:Str}{sp:Sp}{s₁:Shared}{vs:List Value}{ns:List Int}
  (KX:K.In s₁.heap) (hT:s₁.heap.get? T=some (tabObj #[])) (hc:CodeHd s₁.heap c T) (hKT:K.lookup T=none)
  (hns:s₁.heap.Ns mainGlobals mg) (hb:s₁.heap.Ns builtinsNs mb) (hbb:∀ x:Str,x ≠ "__name__" -> mb x=bootBuiltins x) (Mq:s₁.heap.NoLimit) (hg:s₁.gens = #[])
  (ha:s₁.heap.get? a=some { cls:=.type "list",data:=.seq vs.toArray }) (hi:IntsAre vs ns) (hl:ns.length<=sizeLine) (hr:cC k callerA)
  (F:∀ base:Heap,au P w K mg base CX0 k fa fd [x] sp) (J1:∀ (s:Shared) (u:Value),BindsTo s fd ⟨[u],[]⟩ [(x,u)])
  (hsp:∀ H:Hp,H T=some (.tbl #[])->SqL K H a (ns.map V.int)->sp [.ref a] H (λv _=>v = .bl true) λ_ _ _=>False) :
  codeAny (model P w) callerA (.call (.ref fa) ⟨[.ref a],[]⟩) (λr s'=>r = .ok (.ret (.bool true))/\OldK s₁.heap s'.heap/\s'.os=s₁.os/\AllBare s'.gens) s₁:=by
 have rv:=uI hi;have Ma:=hi.length;have haT:a≠T:=λe=>by rw [e,hT] at ha;cases ha
 have core:∀ H:Hp,LH T H->H T=some (.tbl #[])->SqL K H a (ns.map V.int)->HOk P w H s₁.heap->(∀ b,H b≠none->b=a\/b=T)->(H a≠none->K.lookup a=none) ->
   codeAny (model P w) callerA (.call (.ref fa) ⟨[.ref a],[]⟩) (λr s'=>r = .ok (.ret (.bool true))/\OldK s₁.heap s'.heap/\s'.os=s₁.os/\AllBare s'.gens) s₁:=by
  intro H hO hHT hS hok hA hK;have nsK:∀ {b:Addr}{m:Str->Option Value},s₁.heap.Ns b m->(ye s₁.heap H).Ns b m:=λ{b m} ⟨o,es,ep,e,d,r⟩=>⟨o,es,ep,yX e (by
   cases q:H b with
   | none=>rfl
   | some u=>
    rcases hA b (by rw [q];simp) with rfl | rfl
    ·rw [ha] at e;cases e;have d':Data.seq vs.toArray _=Data.dict es ep:=d;cases d'
    ·rw [hT] at e;cases e;have d':Data.fields #[]=Data.dict es ep:=d;cases d'),d,r⟩
  have hKb:K.In (ye s₁.heap H):=λb o e=>yX (KX b o e) (by
   cases q:H b with
   | none=>rfl
   | some u=>
    rcases hA b (by rw [q];simp) with rfl | rfl
    ·rw [hK (by rw [q];simp)] at e;cases e
    ·rw [hKT] at e;cases e)
  have hM:Mod K mg (ye s₁.heap H):=⟨hKb,nsK hns,⟨mb,nsK hb,hbb⟩,let ⟨mc,h1,h2⟩:=Mq;⟨mc,nsK h1,h2⟩⟩;have e0:zN P w K mg (ye s₁.heap H) callerA [] s₁ H:=⟨rfl,hM,λb o e=>Hh e,Nat.le_of_eq (BU _ _),trivial,λb hb=>absurd (show b∈([]:List Addr) from hb) (by simp),hok,.of_eq hg⟩;refine codeAny_mono ((F _).run callerA [] s₁ H ⟨[.ref a],[]⟩ [.ref a] [.ref a] _ _ hr e0 (J1 s₁ (.ref a)) (.cons rfl .nil) (hsp H hHT hS)) λr s' h=>?_;cases r with
  | error e=>exact False.elim h
  | ok fl=>
   cases fl with
   | next=>exact False.elim h
   | brk=>exact False.elim h
   | cont=>exact False.elim h
   | ret u=>
    obtain ⟨v,H',os,bare,un,Lv,r',q⟩:=h;have q':v = .bl true:=q;subst q';obtain rfl:u=Value.bool true:=r';refine ⟨rfl,⟨λb o e=>?_,λb o e=>un.there b o e (by simp)⟩,os,bare⟩;rcases hO b with z | ⟨ob,xs,z⟩ | ⟨rfl,z⟩
    ·exact .inl (un.keep b o e z (by intro z;exact absurd (show b∈([]:List Addr) from z) (by simp)) (by simp))
    ·have z2:=un.rm b ob _ z;obtain ⟨e1,_⟩:=hok b _ z;obtain ⟨e2,_⟩:=Lv b _ z2;rw [e] at e1;cases e1;exact .inl e2
    ·obtain ⟨more,z2⟩:=un.rl b _ z;have e2:=Lv b _ z2;rw [hT] at e;cases e;obtain ⟨oc,fs,file,tf,flags,tg,inF,text,tt,c1,c2,c3,c4,_⟩:=hc;have ht:s₁.heap.TableAt c b #[]:=⟨⟨oc,fs,c1,c2,c3,c4⟩,hT⟩;exact .inr (.inl ⟨ht.isCodeTable,rfl,#[],more,rfl,e2⟩)
 cases hk:K.lookup a with
 | some o=>
  have e:=KX a o hk;rw [ha] at e;cases e;refine core (λb=>if b=T then some (.tbl #[]) else none) (λb=>?_) (if_pos rfl) (.inr ⟨_,vs.toArray,_,hk,rfl,rfl,rfl,by rw [Ob,Ma];exact hl,by simpa using rv⟩) (λb u z=>?_) (λb z=>?_) λz=>absurd (if_neg haT) z
  ·by_cases hb:b=T
   ·exact .inr (.inr ⟨hb,if_pos hb⟩)
   ·exact .inl (if_neg hb)
  ·by_cases hb:b=T
   ·have z':=(if_pos hb).symm.trans z;cases z';subst hb;exact hT
   ·have z':=(if_neg hb).symm.trans z;cases z'
  ·by_cases hb:b=T
   ·exact .inr hb
   ·exact absurd (if_neg hb) z
 | none=>
  refine core (λb=>if b=T then some (.tbl #[]) else if b=a then some (.frz { cls:=.type "list",data:=.seq vs.toArray } (.lst (ns.map V.int))) else none) (λb=>?_) (if_pos rfl)
   (.inl (.inr ⟨{ cls:=.type "list",data:=.seq vs.toArray },(if_neg haT).trans (if_pos rfl)⟩)) (λb u z=>?_) (λb z=>?_) λ_=>hk
  ·by_cases hb:b=T
   ·exact .inr (.inr ⟨hb,if_pos hb⟩)
   ·by_cases hb2:b=a
    ·exact .inr (.inl ⟨_,_,(if_neg hb).trans (if_pos hb2)⟩)
    ·exact .inl ((if_neg hb).trans (if_neg hb2))
  ·by_cases hb:b=T
   ·have z':=(if_pos hb).symm.trans z;cases z';subst hb;exact hT
   ·by_cases hb2:b=a
    ·have z':=((if_neg hb).trans (if_pos hb2)).symm.trans z;cases z';subst hb2;exact ⟨ha,by rw [NU];exact hl,vs,_,rv,ha⟩
    ·have z':=((if_neg hb).trans (if_neg hb2)).symm.trans z;cases z'
  ·by_cases hb:b=T
   ·exact .inr hb
   ·by_cases hb2:b=a
    ·exact .inl hb2
    ·exact absurd ((if_neg hb).trans (if_neg hb2)) z
theorem E3 {l:PySem.W.OpenLaw}{n k:Nat}{q:Program}{loose:List Str}{XP:(Str->Option Value)->Heap->Prop}{YP:World->Heap->Prop}{d:DefRec}{K:Params->PySem.W.Frag}{sp:World->Sp}{x:Str}{c T:Addr}
  (hn:l.most=some n) (hn2:n<=sizeLine) (hdf:d.params.defaults=[]) (hr:cC k callerA)
  (hY:∀ (w:World) (h:Heap),YP w h->(K w.params).In h/\h.get? T=some (tabObj #[])) (hc:∀ (w:World) (h:Heap),(K w.params).In h->CodeHd h c T) (hKT:∀ w:World,(K w.params).lookup T=none)
  (F:∀ (w:World) (mg:Str->Option Value) (fa:Addr) (h:Heap),(K w.params).In h->h.Ns mainGlobals mg->mg d.name=some (.ref fa) ->
   ∃ fd:FuncData,(∀ (s:Shared) (u:Value),BindsTo s fd ⟨[u],[]⟩ [(x,u)])/\∀ base:Heap,au l.prog w (K w.params) mg base CX0 k fa fd [x] (sp w))
  (hsp:∀ (w:World) (H:Hp) (a:Addr) (ns:List Int),ns.length<=n->H T=some (.tbl #[])->SqL (K w.params) H a (ns.map V.int)->sp w [.ref a] H (λv _=>v = .bl true) λ_ _ _=>False) :
  PySem.W.WalkO q loose XP YP l.row.toRowW d [] (λf vs=>PySem.call f vs):=by
 refine Att.xV hn hdf λw s₀ s₁ mg mb fa o pm cd doc a vs ns G Y ho hd hcd hmg JI Dg hlen hg=>?_;obtain ⟨KX,hT⟩:=hY w _ Y;obtain ⟨fd,hb,hF⟩:=F w mg fa _ KX G.T.g hmg;exact BZ KX hT (hc w _ KX) (hKT w) G.T.g G.T.b G.T.builtins G.T.nolimit hg JI Dg (N2 hlen hn2) hr hF hb (λH hO hS=>hsp w H a ns hlen hO hS)
end L2
namespace K38
open PySem L2 LG
section
variable {P:Program}{w:World}{K:PySem.W.Frag}{mg:Str->Option Value}{base:Heap}{A:Ad}
theorem kj:aA ["parts","words","part","word"] ["parts","words"] (ag (top 23)):=⟨rfl,rfl,rfl,by decide +kernel,rfl,by decide +kernel,by decide +kernel⟩
set_option maxHeartbeats 8000000 in
theorem pe (T:Tx K mg A):au P w K mg base CX0 4 A.iP A.iG ["parts","words"] (j5 K):=by
 have cH:au P w K mg base CX0 3 A.dv A.dC ["part","word"] (dR K):=(fU T).mono (by decide);refine T.fG.fn.ok kj (λvs H Q E h=>?_) (λcdv Ar outer s H vs Q E hr h=>?_)
 ·obtain ⟨a,b,xs,ps,ws,rfl,_⟩:=h;rfl
 ·obtain ⟨a,b,xs,ps,ws,rfl,hq,hds,hok,hqb,hws,k⟩:=h;have hxl:xs.length=ps.length:=by rw [hds.length,NU]
  refine ⟨_,ah (bj (aR (kJ) (aK (r:=cD K) aS (by rfl) T.cq PySem.boot_len (aa (pv 0) (ae))) (aK (r:=cD K) aS (by rfl) T.cq PySem.boot_len (aa (pv 1) (ae))) (aQ _)) (aj (ar (gh))) (aG))
   (ah (fP PassesOwn.never rfl (wL (by rfl) T.Be (aa (pv 0) (aa (pv 1) (ae)))) (nk rfl (cn (aw (i:=2) kj.nd rfl (Or.inl rfl)) (cn (aw (i:=3) kj.nd rfl (Or.inl rfl)) (jQ)))) (aj (bj (fN (bi (ak cH hr (by rfl) T.bB.mg T.bB.fn.kp T.bB.bd .nil av (aa (pv 2) (aa (pv 3) (ae)))))) (aj (ar (gh))) (aG))))
   (aj (ar (gh)))),?_⟩
  refine ⟨_,rfl,a,xs,rfl,.inl hq,_,rfl,b,_,rfl,.inl hqb,rfl,_,rfl,?_⟩;rw [NU];by_cases hl:ps.length=ws.length
  ·have e:decide (V.int (xs.length:Int)=V.int (ws.length:Int))=true:=decide_eq_true (by rw [hxl,hl]);rw [e];refine bg ?_;refine ⟨_,rfl,_,rfl,a,b,rfl,⟨_,hq⟩,⟨_,hqb⟩,?_⟩;refine A6 (K:=K) (xs:=xs) (ys:=ws.map V.str) (λi σ H2=>(∃ u v,σ=[some (.ref a),some (.ref b),u,v])/\af H H2/\∀ (j:Nat) p x,j<i->ps[j]? = some p->ws[j]? = some x->p.takes x=true) ⟨⟨_,_,rfl⟩,af.refl _,λj p x hj=>absurd hj (Nat.not_lt_zero _)⟩ (λi σ H2 q=>⟨q.2.1.seq hq,q.2.1.seq hqb⟩) (λi x y σ H2 t hx hy q ht=>?_) (λσ H2 q=>?_)
   ·obtain ⟨q0,s2,fc⟩:=q;apply yc q0;clear q0;intro u v;obtain ⟨p,hp,kX⟩:=cW hds hx;obtain ⟨x',hw',rfl⟩:=cY hy;have st:af H2 (upd H2 t (.tup [x,.str x'])):=af.new ht;refine ⟨t,_,rfl,.of ab,rfl,_,_,rfl,_,_,rfl,rfl,?_⟩;refine ⟨_,rfl,_,rfl,x,x',p,rfl,kX.same (s2.trans st),hok p (NV hp),hws x' (NV hw'),_,rfl,?_⟩;by_cases ht':p.takes x' = true
    ·rw [ht'];refine bg ⟨⟨_,_,rfl⟩,s2.trans st,λj p2 x2 hj hp2 hx2=>?_⟩;rcases Nat.lt_or_ge j i with q | q
     ·exact fc j p2 x2 q hp2 hx2
     ·have:j=i:=by lia
      subst this;rw [hp] at hp2;cases hp2;rw [hw'] at hx2;cases hx2;exact ht'
    ·rw [Bool.eq_false_iff.mpr ht'];refine bF ?_;have e2:aD ps ws=false:=by
      unfold aD;rw [Ez hp hw' (Bool.eq_false_iff.mpr ht'),Bool.and_false]
     have:=k _ (s2.trans st);rw [e2] at this;exact this
   ·obtain ⟨q0,s2,fc⟩:=q;apply yc q0;clear q0;intro u v;have e2:aD ps ws=true:=by
     unfold aD;rw [decide_eq_true hl,Bool.true_and];refine Bk λi p x hi hp hx=>fc i p x ?_ hp hx;rw [NU,hxl];exact hi
    have:=k _ s2;rw [e2] at this;exact this
  ·have e:decide (V.int (xs.length:Int)=V.int (ws.length:Int))=false:=decide_eq_false (λq=>hl (by rw [hxl] at q;injection q with q;lia));rw [e];refine bF ?_;have:=k H (af.refl _);rw [BX hl] at this;exact this
theorem Gv:aA ["pattern","line"] ["pattern","line"] (ag (top 24)):=⟨rfl,rfl,rfl,by decide +kernel,rfl,by decide +kernel,by decide +kernel⟩
set_option maxHeartbeats 8000000 in
theorem AN (T:Tx K mg A):au P w K mg base CX0 5 A.wq A.wY ["pattern","line"] (xa K):=by
 have lS:au P w K mg base CX0 4 A.iP A.iG ["parts","words"] (j5 K):=(pe T).mono (by decide);have eA:au P w K mg base CX0 4 A.fB A.fQ ["line"] (gb K):=(iO T).mono (by decide);refine T.fits.fn.ok Gv (λvs H Q E h=>?_) (λcdv Ar outer s H vs Q E hr h=>?_)
 ·obtain ⟨v,z,ps,rfl,_⟩:=h;rfl
 ·obtain ⟨v,z,ps,rfl,hd,hok,hz,hzs,k⟩:=h;obtain ⟨a,xs,ev,hq,hds⟩:=bR hd;refine ⟨_,aj (ar (ak lS hr (by rfl) T.fG.mg T.fG.fn.kp T.fG.bd .nil av (aa (pv 0) (aa (ak eA hr (by rfl) T.words_of.mg T.words_of.fn.kp T.words_of.bd .nil av (aa (pv 1) (ae))) (ae))))),?_⟩;subst ev;have hz':LOk z:=hz;refine ⟨_,rfl,_,rfl,z,rfl,hz,λl hl=>?_⟩;have sl:af H (upd H l (.lst ((Txt.split z " ").map V.str))):=af.new hl;exact ⟨a,l,xs,ps,Txt.split z " ",rfl,sl.seq hq,hds.same sl,hok,.of ab,λx hx=>N2 (yK hzs x hx).2 hz',λH' s'=>k H' (sl.trans s')⟩
theorem oH:aA ["one","other"] ["one","other"] (ag (top 26)):=⟨rfl,rfl,rfl,by decide +kernel,rfl,by decide +kernel,by decide +kernel⟩
set_option maxHeartbeats 8000000 in
theorem iE (T:Tx K mg A):au P w K mg base CX0 4 A.dB A.du ["one","other"] (fo K):=by
 have bu:au P w K mg base CX0 3 A.cM A.cL ["part"] (cJ K):=(c6 T).mono (by decide);have cH:au P w K mg base CX0 3 A.dv A.dC ["part","word"] (dR K):=(fU T).mono (by decide);refine T.br.fn.ok oH (λvs H Q E h=>?_) (λcdv Ar outer s H vs Q E hr h=>?_)
 ·obtain ⟨u,v,p,q,rfl,_⟩:=h;rfl
 ·obtain ⟨u,v,p,q,rfl,hu,hv,hp,hq,k⟩:=h;obtain ⟨a,x1,y1,eu,hqa,_,hy1,hx⟩:=ip hu;refine ⟨_,ah (bj (fN (bi (ak bu hr (by rfl) T.bc.mg T.bc.fn.kp T.bc.bd .nil av (aa (pv 0) (ae))))) (aj (ar (ak cH hr (by rfl) T.bB.mg T.bB.fn.kp T.bB.bd .nil av (aa (pv 1) (aa (ba (r:=jg K) cK (pv 0) (ap) (λ_ _=>rfl)) (ae)))))) (aG))
   (aj (ar (Lf (b6 (r:=DK K) (vW hr) (pv 1) (pv 0) (aQ _)) (nE (b6 (r:=DK K) (vW hr) (pv 1) (eF (aa (aH) (aa (aH) (ae)))) (aQ _)))))),?_⟩
  refine ⟨_,rfl,u,p,rfl,hu,_,rfl,?_⟩;cases p with
  | word y=>
   obtain ⟨rfl,rfl⟩:=hx;refine bF ?_;subst eu;have hy:TOk y1:=hp;exact ⟨_,rfl,_,rfl,a,_,1,_,rfl,rfl,hqa,rfl,v,y1,q,rfl,hv,hq,hy.1,k H (af.refl _)⟩
  | hole m=>
   refine bg ?_;refine ⟨_,rfl,_,rfl,_,_,hv,hu,N2 (rE _) (by decide),_,rfl,?_⟩;rw [Ap hq hp];by_cases e:q = .hole m
   ·rw [decide_eq_true e];refine bF ?_;have:=k H (af.refl _);have e2:(Pt.hole m).within q=true:=by rw [bH,decide_eq_true e];rfl
    rw [e2] at this;exact this
   ·rw [decide_eq_false e];refine bg ?_;refine ⟨_,rfl,(by show 2<=sizeLine;decide),λt ht=>?_⟩;have st:af H (upd H t (.tup [.str "hole",.str "any"])):=af.new ht;have h2:(Pt.hole 2).ok:=(by decide:2<3);refine ⟨_,_,hv.same st,(show Den K _ (.ref t) (Pt.hole 2).dat from .tup (.of ab) (.cons (.str (by decide +kernel)) (.cons (.str (by decide +kernel)) .nil))),N2 (rE _) (by decide),?_⟩;rw [Ap hq h2];have:=k _ st;have e2:(Pt.hole m).within q=decide (q = .hole 2):=by rw [bH,decide_eq_false e];rfl
    rw [e2] at this;exact this
theorem fg:aA ["part","kind"] ["part"] (ag (top 28)):=⟨rfl,rfl,rfl,by decide +kernel,rfl,by decide +kernel,by decide +kernel⟩
set_option maxHeartbeats 8000000 in
theorem jR (T:Tx K mg A):au P w K mg base CX0 3 A.cS A.cR ["part"] (fj K):=by
 have bu:au P w K mg base CX0 2 A.cM A.cL ["part"] (cJ K):=(c6 T).mono (by decide);have jk:au P w K mg base CX0 2 A.jF A.ji ["word"] (kz K):=(nO T).mono (by decide);refine T.cy.fn.ok fg (λvs H Q E h=>?_) (λcdv Ar outer s H vs Q E hr h=>?_)
 ·obtain ⟨v,p,rfl,_⟩:=h;rfl
 ·obtain ⟨v,p,rfl,hd,hok,k⟩:=h;obtain ⟨a,x1,y1,ev,hq,_,_,hx⟩:=ip hd;refine ⟨_,ah (bj (bi (ak bu hr (by rfl) T.bc.mg T.bc.fn.kp T.bc.bd .nil av (aa (pv 0) (ae)))) (aj (ar (ba (r:=jg K) cK (pv 0) (ap) (λ_ _=>rfl)))) (aG))
   (ah (a9 (i:=1) fg.nd rfl (Or.inl rfl) (ak jk hr (by rfl) T.fV.mg T.fV.fn.kp T.fV.bd .nil av (aa (ba (r:=jg K) cK (pv 0) (ap) (λ_ _=>rfl)) (ae))))
   (aj (ar (jx (aR (r:=rIn K false) (pW) (pv 1) (iN (v:=.ref A.bS) (by rfl) T.kD rfl) (by rfl)) (pv 1) (aH))))),?_⟩
  refine ⟨_,rfl,v,p,rfl,hd,_,rfl,?_⟩;cases p with
  | hole m=>
   obtain ⟨rfl,rfl⟩:=hx;subst ev;exact bF ⟨_,rfl,a,_,1,_,rfl,rfl,hq,rfl,k⟩
  | word y=>
   obtain ⟨rfl,rfl⟩:=hx;subst ev;refine bg ?_;have hy:TOk y1:=hok;refine ⟨_,rfl,a,_,1,_,rfl,rfl,hq,rfl,y1,rfl,hy.1,?_⟩;refine ⟨_,rfl,A.bS,_,rfl,.inr (T.kC _),rfl,rfl,_,rfl,?_⟩;have hk:∀ i<3,(inV (.str (kO i)) [.str "number",.str "name",.str "any"])=decide (i<2):=by decide +kernel
   rw [if_neg N6,hk _ (pq _)];dsimp only;by_cases h2:bx y1<2
   ·rw [decide_eq_true h2];refine bF ⟨_,rfl,?_⟩;have e:kO (bx y1)=bK (Pt.word y1).around:=by
     show kO (bx y1)=bK (bx y1);have:bx y1=0\/bx y1=1:=by lia
     rcases this with e | e <;> rw [e] <;> rfl
    rw [e];exact k
   ·rw [decide_eq_false h2];refine bg ?_;have e:bK (Pt.word y1).around = "any" :=by
     show bK (bx y1) = "any";have h3:=pq y1;have:bx y1=2:=by lia
     rw [this];rfl
    rw [e] at k;exact k
theorem li:aA ["part"] ["part"] (ag (top 57)):=⟨rfl,rfl,rfl,by decide +kernel,rfl,by decide +kernel,by decide +kernel⟩
set_option maxHeartbeats 8000000 in
theorem lB (T:Tx K mg A):au P w K mg base CX0 2 A.dG A.dE ["part"] (f7 K):=by
 have bu:au P w K mg base CX0 1 A.cM A.cL ["part"] (cJ K):=(c6 T).mono (by decide);refine T.cV.fn.ok li (λvs H Q E h=>?_) (λcdv Ar outer s H vs Q E hr h=>?_)
 ·obtain ⟨v,p,rfl,_⟩:=h;rfl
 ·obtain ⟨v,p,rfl,hd,hok,k⟩:=h;obtain ⟨a,x1,y1,ev,hq,_,_,hx⟩:=ip hd;refine ⟨_,ah (bj (fN (bi (ak bu hr (by rfl) T.bc.mg T.bc.fn.kp T.bc.bd .nil av (aa (pv 0) (ae))))) (aj (ar (ap))) (aG))
   (aj (ar (jx (aR (fA) (ba (r:=jg K) cK (pv 0) (ap) (λ_ _=>rfl)) (aH) (aQ _)) (ap) (ap)))),?_⟩
  refine ⟨_,rfl,v,p,rfl,hd,_,rfl,?_⟩;cases p with
  | word y=>exact bF k
  | hole m=>
   obtain ⟨rfl,rfl⟩:=hx;subst ev;refine bg ?_;have hm:m<3:=hok;refine ⟨_,rfl,a,_,1,_,rfl,rfl,hq,rfl,rfl,_,rfl,?_⟩;rw [xK hm];by_cases h2:m=2
   ·rw [decide_eq_true h2];subst h2;exact bF k
   ·rw [decide_eq_false h2];refine bg ?_;have e:(Pt.hole m).loose=1:=by
     have:m=0\/m=1:=by lia
     rcases this with rfl | rfl <;> rfl
    rw [e] at k;exact k
theorem vU:aA ["one","other"] ["one","other"] (ag (top 27)):=⟨rfl,rfl,rfl,by decide +kernel,rfl,by decide +kernel,by decide +kernel⟩
set_option maxHeartbeats 8000000 in
theorem oz (T:Tx K mg A):au P w K mg base CX0 5 A.iQ A.iV ["one","other"] (j4 K):=by
 have df:au P w K mg base CX0 4 A.dB A.du ["one","other"] (fo K):=(iE T).mono (by decide);refine T.fC.fn.ok vU (λvs H Q E h=>?_) (λcdv Ar outer s H vs Q E hr h=>?_)
 ·obtain ⟨u,v,ps,qs,rfl,_⟩:=h;rfl
 ·obtain ⟨u,v,ps,qs,rfl,hu,hv,hp,hq,k⟩:=h;obtain ⟨a,xs,eu,hqa,hda⟩:=bR hu;obtain ⟨b,ys,ev,hqb,hdb⟩:=bR hv;have hxl:xs.length=ps.length:=by rw [hda.length,NU]
  have hyl:ys.length=qs.length:=by rw [hdb.length,NU]
  have hpl:=hp.1;refine ⟨_,ah (bj (aR (kJ) (aK (r:=cD K) aS (by rfl) T.cq PySem.boot_len (aa (pv 0) (ae))) (aK (r:=cD K) aS (by rfl) T.cq PySem.boot_len (aa (pv 1) (ae))) (aQ _)) (aj (ar (gh))) (aG))
   (aj (ar (aK (r:=Cc K) (lU rfl) (by rfl) T.yJ sO (aa (aW (N':=["part","wider"]) (n:=2) (fi:=[]) (g:=Hv K 2 (rW (aY 0) (rW (aY 1) (GJ)))) rfl (aU (ag (top 27)) ["one","other"] (by decide +kernel)) (wL (by rfl) T.Be (aa (pv 0) (aa (pv 1) (ae)))) (λs H fp=>nk rfl (cn (aw (i:=0) (show (["part","wider"]:List Str).Nodup by decide +kernel) rfl (Or.inl rfl) (.inr rfl)) (cn (aw (i:=1) (show (["part","wider"]:List Str).Nodup by decide +kernel) rfl (Or.inl rfl) (.inr rfl)) (jQ)))) (λs H fp=>aO) (λs H fp=>ak df hr (by rfl) T.br.mg T.br.fn.kp T.br.bd .nil av (aa (pv 0) (aa (pv 1) (ae))))) (ae))))),?_⟩
  subst eu ev;refine ⟨_,rfl,a,xs,rfl,.inl hqa,_,rfl,b,_,rfl,.inl hqb,rfl,_,rfl,?_⟩;by_cases hl:ps.length=qs.length
  ·have e:decide (V.int (xs.length:Int)=V.int (ys.length:Int))=true:=decide_eq_true (by rw [hxl,hyl,hl]);rw [e];refine bg ?_;refine ⟨_,rfl,_,rfl,a,b,rfl,⟨_,hqa⟩,⟨_,hqb⟩,λD hD=>?_⟩;refine yS (K:=K) (xs:=xs) (ys:=ys) (λi acc σ H2=>(∃ u v,σ=[u,v])/\af H H2/\acc=(((ps.zip qs).take i).map λp=>p.1.within p.2).map V.bl) ab ⟨⟨_,_,rfl⟩,af.new hD,rfl⟩ (λi acc σ H2 _ q=>⟨q.2.1.seq hqa,q.2.1.seq hqb⟩) (λi x y acc σ H2 t hx hy hDx q ht=>?_) (λacc σ H2 hDx q=>?_)
   ·obtain ⟨q0,s2,rfl⟩:=q;apply yc q0;clear q0;intro u v;obtain ⟨p,hpi,hdp⟩:=cW hda hx;obtain ⟨q,hqi,hdq⟩:=cW hdb hy;have st:af H2 (upd H2 t (.tup [x,y])):=af.new ht;refine DW (.of ab) ⟨_,rfl,_,rfl,x,y,p,q,rfl,hdp.same (s2.trans st),hdq.same (s2.trans st),hp.2 p (NV hpi),hq.2 q (NV hqi),λH4 s4=>?_⟩;have hi:=aF hpi;refine ⟨_,s4 _ _ (st _ _ hDx),small (by simp only [NU,N7];lia),_,ab,⟨_,_,rfl⟩,aq hD ((s2.trans st).trans s4),?_⟩;have hz:(ps.zip qs)[i]? = some (p,q):=by rw [List.getElem?_zip_eq_some];exact ⟨hpi,hqi⟩
    rw [bY hz,N8];rfl
   ·obtain ⟨_,s2,rfl⟩:=q;refine ⟨D,_,rfl,.of hDx,?_⟩;rw [NZ (by rw [List.length_zip];lia)];have e2:(((ps.zip qs).map λp=>p.1.within p.2).all id)=aC ps qs:=by
     unfold aC;rw [decide_eq_true hl,Bool.true_and,List.all_map];rfl
    rw [e2];exact k H2 s2
  ·have e:decide (V.int (xs.length:Int)=V.int (ys.length:Int))=false:=decide_eq_false (λq=>hl (by rw [hxl,hyl] at q;injection q with q;lia));rw [e];refine bF ?_;have e2:aC ps qs=false:=by unfold aC;rw [decide_eq_false hl];rfl
   have:=k H (af.refl _);rw [e2] at this;exact this
theorem wW:aA ["pattern"] ["pattern"] (ag (top 58)):=⟨rfl,rfl,rfl,by decide +kernel,rfl,by decide +kernel,by decide +kernel⟩
set_option maxHeartbeats 8000000 in
theorem wF (T:Tx K mg A):au P w K mg base CX0 3 A.lh A.k8 ["pattern"] (pj K):=by
 have mJ:au P w K mg base CX0 2 A.dG A.dE ["part"] (f7 K):=(lB T).mono (by decide);refine T.qu.fn.ok wW (λvs H Q E h=>?_) (λcdv Ar outer s H vs Q E hr h=>?_)
 ·obtain ⟨v,ps,rfl,_⟩:=h;rfl
 ·obtain ⟨v,ps,rfl,hd,hok,k⟩:=h;obtain ⟨a,xs,ev,hq,hds⟩:=bR hd;have hxl:xs.length=ps.length:=by rw [hds.length,NU]
  have hpl:=hok.1;refine ⟨_,aj (ar (aW (N':=["part"]) (n:=1) (fi:=[]) (g:=aY 0) rfl (aU (ag (top 58)) ["pattern"] (by decide +kernel)) (aP (pv 0)) (λs H fp=>aw (i:=0) (show (["part"]:List Str).Nodup by decide +kernel) rfl (Or.inl rfl) (.inr rfl)) (λs H fp=>aO) (λs H fp=>ak mJ hr (by rfl) T.cV.mg T.cV.fn.kp T.cV.bd .nil av (aa (pv 0) (ae))))),?_⟩;subst ev;refine ⟨_,rfl,a,rfl,⟨_,hq⟩,λD hD=>?_⟩;refine aE (K:=K) (xs:=xs) (λi acc σ H2=>(∃ u,σ=[u])/\af H H2/\acc=(ps.take i).map λp=>V.int p.loose) ab ⟨⟨_,rfl⟩,af.new hD,rfl⟩ (λi acc σ H2 _ _ q=>q.2.1.seq hq) (λi x acc σ H2 hx hDx q=>?_) (λacc σ H2 hDx q=>?_)
  ·obtain ⟨q0,s2,rfl⟩:=q;apply cf q0;clear q0;intro u;obtain ⟨p,hpi,hdp⟩:=cW hds hx;have hi:=aF hpi;refine bM ⟨_,rfl,x,p,rfl,hdp.same s2,hok.2 p (NV hpi),?_⟩;refine ⟨_,hDx,small (by simp only [NU,N7];lia),_,ab,⟨_,rfl⟩,aq hD s2,?_⟩;rw [bY hpi]
  ·obtain ⟨_,s2,rfl⟩:=q;rw [NZ (by lia)] at hDx;exact k D H2 hD s2 hDx
theorem l7:aA ["parts","kinds"] ["parts"] (ag (top 29)):=⟨rfl,rfl,rfl,by decide +kernel,rfl,by decide +kernel,by decide +kernel⟩
set_option maxHeartbeats 8000000 in
theorem tM (T:Tx K mg A):au P w K mg base CX0 4 A.jd A.jb ["parts"] (lr K):=by
 have kW:au P w K mg base CX0 3 A.cS A.cR ["part"] (fj K):=(jR T).mono (by decide);refine T.iU.fn.ok l7 (λvs H Q E h=>?_) (λcdv Ar outer s H vs Q E hr h=>?_)
 ·obtain ⟨a,xs,ps,rfl,_⟩:=h;rfl
 ·obtain ⟨a,xs,ps,rfl,hq,hds,hne,hok,k⟩:=h;have hxl:xs.length=ps.length:=by rw [hds.length,NU]
  have hpl:=hok.1;obtain ⟨p0,pr,rfl⟩:∃ p0 pr,ps=p0::pr:=by
   cases ps with
   | nil=>exact (hne rfl).elim
   | cons p r=>exact ⟨p,r,rfl⟩
  obtain ⟨x0,xr,rfl⟩:∃ x0 xr,xs=x0::xr:=by
   cases xs with
   | nil=>simp at hxl
   | cons x r=>exact ⟨x,r,rfl⟩
  have hd0:Den K H x0 p0.dat:=by cases hds with | cons h1 _=>exact h1
  have Kd:p0.ok:=hok.2 p0 (N4 ..);refine ⟨_,ah (bj (bi (aK (r:=Cc K) (lU rfl) (by rfl) T.yJ sO (aa (aW (N':=["part","parts"]) (n:=1) (fi:=[0]) (g:=aY 0) rfl (aU (ag (top 29)) ["parts","kinds"] (by decide +kernel)) (aP (pv 0)) (λs H fp=>aw (i:=0) (show (["part","parts"]:List Str).Nodup by decide +kernel) rfl (Or.inl rfl) (.inr rfl)) (λs H fp=>aO) (λs H fp=>b6 (r:=DK K) (vW hr) (pv 0) (ba (r:=c9 K) aX (pv 1) (ap) (λ_ _=>rfl)) (aQ _))) (ae)))) (aj (ar (ba (r:=c9 K) aX (pv 0) (ap) (λ_ _=>rfl)))) (aG))
   (ah (a9 (i:=1) l7.nd rfl (Or.inr rfl) (aW (N':=["part"]) (n:=1) (fi:=[]) (g:=aY 0) rfl (aU (ag (top 29)) ["parts","kinds"] (by decide +kernel)) (aP (pv 0)) (λs H fp=>aw (i:=0) (show (["part"]:List Str).Nodup by decide +kernel) rfl (Or.inl rfl) (.inr rfl)) (λs H fp=>aO) (λs H fp=>ak kW hr (by rfl) T.cy.mg T.cy.fn.kp T.cy.bd .nil av (aa (pv 0) (ae)))))
   (ah (bj (bi (aK (r:=Cc K) (lU rfl) (by rfl) T.yJ sO (aa (aW (N':=["kind","kinds"]) (n:=1) (fi:=[1]) (g:=aY 0) rfl (aU (ag (top 29)) ["parts","kinds"] (by decide +kernel)) (aP (pv 1)) (λs H fp=>aw (i:=0) (show (["kind","kinds"]:List Str).Nodup by decide +kernel) rfl (Or.inl rfl) (.inr rfl)) (λs H fp=>aO) (λs H fp=>b6 (fA) (pv 0) (ba (r:=c9 K) aX (pv 1) (ap) (λ_ _=>rfl)) (aQ _))) (ae)))) (aj (ar (eF (aa (aH) (aa (ba (r:=c9 K) aX (pv 1) (ap) (λ_ _=>rfl)) (ae)))))) (aG))
   (aj (ar (eF (aa (aH) (aa (aH) (ae)))))))),?_⟩
  refine ⟨_,rfl,a,rfl,⟨_,hq⟩,λD hD=>?_⟩;refine aE (K:=K) (xs:=x0::xr) (λi acc σ H2=>(∃ u,σ=[u,some (.ref a)])/\af H H2/\acc=(((p0::pr).take i).map λp=>decide (p=p0)).map V.bl) ab ⟨⟨_,rfl⟩,af.new hD,rfl⟩ (λi acc σ H2 _ _ q=>q.2.1.seq hq) (λi x acc σ H2 hx hDx q=>?_) (λacc σ H2 hDx q=>?_)
  ·obtain ⟨q0,s2,rfl⟩:=q;apply cf q0;clear q0;intro u;obtain ⟨p,hpi,hdp⟩:=cW hds hx;have hi:=aF hpi;refine bM ⟨_,rfl,_,rfl,a,_,0,x0,rfl,rfl,s2.seq hq,bA (j:=0) rfl,_,_,hdp.same s2,hd0.same s2,N2 (rE _) (by decide),?_⟩;rw [Ap (hok.2 p (NV hpi)) Kd];refine ⟨_,hDx,small (by simp only [NU,N7];lia),_,ab,⟨_,rfl⟩,aq hD s2,?_⟩;rw [bY hpi,N8];rfl
  ·obtain ⟨_,s2,rfl⟩:=q;rw [NZ (by lia)] at hDx;refine ⟨D,_,rfl,.of hDx,_,rfl,?_⟩;have e1:(((p0::pr).map λp=>decide (p=p0)).all id)=pr.all λq=>decide (q=p0):=by
    rw [List.all_map,List.all_cons];simp
   rw [e1];have ej:lN (p0::pr)=if pr.all (λq=>decide (q=p0))=true then p0 else if pr.all (λq=>decide (q.around=p0.around))=true then .hole p0.around else .hole 2:=rfl;by_cases ha:pr.all (λq=>decide (q=p0))=true
   ·rw [ha];refine bF ⟨_,rfl,a,_,0,x0,rfl,rfl,s2.seq hq,bA (j:=0) rfl,k x0 H2 s2 ?_⟩;rw [ej,if_pos ha];exact hd0.same s2
   ·rw [Bool.eq_false_iff.mpr ha];refine bg ?_;refine ⟨_,rfl,a,rfl,⟨_,s2.seq hq⟩,λD2 hD2=>?_⟩;refine aE (K:=K) (xs:=x0::xr) (λi acc σ H3=>(∃ u,σ=[u])/\af H2 H3/\acc=((p0::pr).take i).map λp=>V.str (bK p.around)) ab ⟨⟨_,rfl⟩,af.new hD2,rfl⟩ (λi acc σ H3 _ _ q=>(s2.trans q.2.1).seq hq) (λi x acc σ H3 hx zY q=>?_) (λacc σ H3 zY q=>?_)
    ·obtain ⟨q0,s3,rfl⟩:=q;apply cf q0;clear q0;intro u;obtain ⟨p,hpi,hdp⟩:=cW hds hx;have hi:=aF hpi;refine bM ⟨_,rfl,x,p,rfl,hdp.same (s2.trans s3),hok.2 p (NV hpi),?_⟩;refine ⟨_,zY,small (by simp only [NU,N7];lia),_,ab,⟨_,rfl⟩,aq hD2 s3,?_⟩;rw [bY hpi]
    ·obtain ⟨_,s3,rfl⟩:=q;rw [NZ (by lia)] at zY;have s23:=s2.trans s3;refine ⟨_,rfl,D2,rfl,⟨_,.of zY⟩,λD4 hD4=>?_⟩;refine aE (K:=K) (xs:=(p0::pr).map λp=>V.str (bK p.around)) (λi acc σ H4=>(∃ u,σ=[u,some (.ref D2)])/\af H3 H4/\acc=(((p0::pr).take i).map λp=>decide (p.around=p0.around)).map V.bl) ab ⟨⟨_,rfl⟩,af.new hD4,rfl⟩ (λi acc σ H4 _ _ q=>.of (q.2.1 _ _ zY)) (λi x acc σ H4 hx GH q=>?_) (λacc σ H4 GH q=>?_)
     ·obtain ⟨q0,s4,rfl⟩:=q;apply cf q0;clear q0;intro u;rw [N1] at hx;cases hpi:(p0::pr)[i]? with
      | none=>rw [hpi] at hx;cases hx
      | some p=>
       rw [hpi] at hx;cases hx;have hi:=aF hpi;refine bM ⟨_,rfl,_,rfl,D2,_,0,V.str (bK p0.around),rfl,rfl,.of (s4 _ _ zY),bA (j:=0) rfl,rfl,?_⟩;have e2:decide (V.str (bK p.around)=V.str (bK p0.around))=decide (p.around=p0.around):=by
        rw [Bool.eq_iff_iff,decide_eq_true_eq,decide_eq_true_eq];exact ⟨λh=>vN (qg (hok.2 p (NV hpi))) (qg Kd) (by injection h),λh=>by rw [h]⟩
       rw [e2];refine ⟨_,GH,small (by simp only [NU,N7];lia),_,ab,⟨_,rfl⟩,aq hD4 s4,?_⟩;rw [bY hpi,N8];rfl
     ·obtain ⟨_,s4,rfl⟩:=q;have hl5:((p0::pr).map λp=>V.str (bK p.around)).length=(p0::pr).length:=by rw [NU]
      rw [hl5,NZ (NX _)] at GH;refine ⟨D4,_,rfl,.of GH,_,rfl,?_⟩;have e3:(((p0::pr).map λp=>decide (p.around=p0.around)).all id)=pr.all λq=>decide (q.around=p0.around):=by
       rw [List.all_map,List.all_cons];simp
      rw [e3];have s24:=s23.trans s4;by_cases hb:pr.all (λq=>decide (q.around=p0.around))=true
      ·rw [hb];refine bF ⟨_,rfl,D2,_,0,V.str (bK p0.around),rfl,rfl,.of (s4 _ _ zY),bA (j:=0) rfl,(by show 2<=sizeLine;decide),λt ht=>?_⟩;refine k _ _ (s24.trans (af.new ht)) ?_;rw [ej,if_neg ha,if_pos hb];exact .tup (.of ab) (.cons (.str (by decide +kernel)) (.cons (.str t8) .nil))
      ·rw [Bool.eq_false_iff.mpr hb];refine bg ⟨(by show 2<=sizeLine;decide),λt ht=>?_⟩;refine k _ _ (s24.trans (af.new ht)) ?_;rw [ej,if_neg ha,if_neg hb];exact .tup (.of ab) (.cons (.str (by decide +kernel)) (.cons (.str (by decide +kernel)) .nil))
theorem vD:aA ["patterns","width"] ["patterns"] (ag (top 30)):=⟨rfl,rfl,rfl,by decide +kernel,rfl,by decide +kernel,by decide +kernel⟩
set_option maxHeartbeats 8000000 in
theorem vf (T:Tx K mg A):au P w K mg base CX0 5 A.pC A.oP ["patterns"] (qy K):=by
 have uh:au P w K mg base CX0 4 A.jd A.jb ["parts"] (lr K):=(tM T).mono (by decide);refine T.joined.fn.ok vD (λvs H Q E h=>?_) (λcdv Ar outer s H vs Q E hr h=>?_)
 ·obtain ⟨a,xs,pss,n,rfl,_⟩:=h;rfl
 ·obtain ⟨a,xs,pss,n,rfl,hq,hds,hne,hpl,hok,k⟩:=h;have hxl:xs.length=pss.length:=by rw [hds.length,NU]
  have LV:0<pss.length:=List.length_pos_iff.mpr hne;obtain ⟨x0,hx0⟩:∃ x0,xs[0]? = some x0:=⟨_,NW (by lia)⟩;obtain ⟨ps0,Ie,hd0⟩:=bO hds hx0;obtain ⟨a0,ys0,rfl,hq0,LY⟩:=bR hd0;have hn0:ys0.length=n:=by rw [LY.length,NU];exact (hok ps0 (NV Ie)).2
  have hn1:n<=10000:=by rw [<-(hok ps0 (NV Ie)).2];exact (hok ps0 (NV Ie)).1.1
  refine ⟨_,ah (bj (aR (fA) (aK (r:=cD K) aS (by rfl) T.cq PySem.boot_len (aa (pv 0) (ae))) (ap) (aQ _)) (aj (jt)) (aG))
   (ah (a9 (i:=1) vD.nd rfl (Or.inr rfl) (aK (r:=cD K) aS (by rfl) T.cq PySem.boot_len (aa (ba (r:=c9 K) aX (pv 0) (ap) (λ_ _=>rfl)) (ae))))
   (ah (bj (bi (aK (r:=Gh K) (tI rfl) (by rfl) T.Dy Aw (aa (aW (N':=["pattern","width"]) (n:=1) (fi:=[1]) (g:=aY 0) rfl (aU (ag (top 30)) ["patterns","width"] (by decide +kernel)) (aP (pv 0)) (λs H fp=>aw (i:=0) (show (["pattern","width"]:List Str).Nodup by decide +kernel) rfl (Or.inl rfl) (.inr rfl)) (λs H fp=>aO) (λs H fp=>b6 (kJ) (aK (r:=cD K) aS (by rfl) T.cq PySem.boot_len (aa (pv 0) (ae))) (pv 1) (aQ _))) (ae)))) (aj (jt)) (aG))
   (aj (ar (aW (N':=["at","patterns"]) (n:=1) (fi:=[0]) (g:=aY 0) rfl (aU (ag (top 30)) ["patterns","width"] (by decide +kernel)) (eL (by rfl) T.gT (aa (pv 1) (ae))) (λs H fp=>aw (i:=0) (show (["at","patterns"]:List Str).Nodup by decide +kernel) rfl (Or.inr rfl) (.inl rfl)) (λs H fp=>aO) (λs H fp=>ak uh hr (by rfl) T.iU.mg T.iU.fn.kp T.iU.bd .nil av (aa (aW (wi:=FG K (qb 1)) (N':=["pattern","at"]) (n:=1) (fi:=[0]) (g:=aY 0) rfl (A9 (ag (top 30)) (by decide +kernel)) (aP (pv 1)) (λs H fp=>aw (i:=0) (show (["pattern","at"]:List Str).Nodup by decide +kernel) rfl (Or.inl rfl) (.inr rfl)) (λs H fp=>aO) (λs H fp=>ba (r:=c9 K) aX (pv 0) (pv 1) (λ_ _=>rfl))) (ae)))))))),?_⟩
  refine ⟨_,rfl,a,xs,rfl,.inl hq,rfl,_,rfl,?_⟩;have e0:decide (V.int (xs.length:Int)=V.int 0)=false:=decide_eq_false (λq=>by injection q with q;lia);rw [e0];refine bg ?_;refine ⟨_,rfl,a,xs,0,_,rfl,rfl,hq,bA (j:=0) hx0,a0,ys0,rfl,.inl hq0,?_⟩;rw [hn0];refine ⟨_,rfl,a,rfl,⟨_,hq⟩,λD hD=>?_⟩;refine aE (K:=K) (xs:=xs) (λi acc σ H2=>(∃ u,σ=[u,some (.int n)])/\af H H2/\acc=((pss.take i).map λ_=>false).map V.bl) ab ⟨⟨_,rfl⟩,af.new hD,rfl⟩ (λi acc σ H2 _ _ q=>q.2.1.seq hq) (λi x acc σ H2 hx hDx q=>?_) (λacc σ H2 hDx q=>?_)
  ·obtain ⟨q0,s2,rfl⟩:=q;apply cf q0;clear q0;intro u;obtain ⟨ps,hpi,hdp⟩:=bO hds hx;obtain ⟨ai,yi,rfl,hqi,hdi⟩:=bR hdp;have hi:=aF hpi;have hyl:yi.length=n:=by rw [hdi.length,NU];exact (hok ps (NV hpi)).2
   refine bM ⟨_,rfl,ai,yi,rfl,.inl (s2.seq hqi),_,rfl,rfl,?_⟩;rw [hyl,decide_eq_true rfl];refine ⟨_,hDx,small (by simp only [NU,N7];lia),_,ab,⟨_,rfl⟩,aq hD s2,?_⟩;rw [bY hpi,N8];rfl
  ·obtain ⟨_,s2,rfl⟩:=q;refine ⟨D,_,rfl,.of hDx,_,rfl,?_⟩;have e1:(((pss.take xs.length).map λ_=>false).any id)=false:=by
    rw [Bool.eq_false_iff];intro q;obtain ⟨b,hb,hb2⟩:=List.any_eq_true.mp q;obtain ⟨_,_,rfl⟩:=N5.mp hb;cases hb2
   rw [e1];refine bg ?_;refine ⟨_,rfl,n,rfl,by lia,by lia,λD3 hD3=>?_⟩;have hs3:af H2 (upd H2 D3 (.lst [])):=af.new hD3;refine ia (λi acc σ H4=>(∃ u,σ=[u,some (.ref a)])/\af H2 H4/\aI K (lim (upd H2 D3 (.lst [])) H4) acc ((bp pss i).map Pt.dat)) ab ⟨⟨_,rfl⟩,hs3,.nil⟩ (λi acc σ H4 hi hD4 q=>?_) (λacc σ H4 hD4 q=>?_)
   ·obtain ⟨q0,s4,dn⟩:=q;apply cf q0;clear q0;intro u;have hin:i<n:=by simpa using hi
    have hal:acc.length=i:=by rw [dn.length,NU];simp [bp]
    have s24:=s2.trans s4;refine bM ?_;refine ⟨_,rfl,a,rfl,⟨_,s24.seq hq⟩,λD5 hD5=>?_⟩;refine aE (K:=K) (xs:=xs) (λm Ai σ H5=>(∃ u,σ=[u,some (.int (0+(i:Int)))])/\af H4 H5/\aI K H Ai (((pss.take m).map λps=>ps.getD i (.hole 2)).map Pt.dat)) ab ⟨⟨_,rfl⟩,af.new hD5,.nil⟩ (λm Ai σ H5 _ _ q=>(s24.trans q.2.1).seq hq) (λm x Ai σ H5 hx Ju q=>?_) (λAi σ H5 Ju q=>?_)
    ·obtain ⟨q0,s5,dn5⟩:=q;apply cf q0;clear q0;intro u;obtain ⟨ps,hpi,hdp⟩:=bO hds hx;obtain ⟨ai,yi,rfl,hqi,hdi⟩:=bR hdp;have hm:=aF hpi;have hpn:=(hok ps (NV hpi)).2;have hpe:ps[i]? = some (ps.getD i (.hole 2)):=by
      rw [NW (by lia)];simp [List.getD,NW (show i<ps.length by lia)]
     obtain ⟨y,hy,hyd⟩:=hdi.getD (i:=i) (d:=(ps.getD i (.hole 2)).dat) (by rw [N1,hpe];rfl);have NN:Ai.length=m:=by rw [dn5.length,NU,NU,N7];lia
     refine bM ⟨_,rfl,_,rfl,ai,yi,_,y,rfl,rfl,(s24.trans s5).seq hqi,?_,Ai,Ju,small (by lia),_,ab,⟨_,rfl⟩,aq hD5 s5,?_⟩
     ·rw [Int.zero_add];exact bA hy
     ·rw [bY hpi,N8];exact dn5.append (.cons hyd .nil)
    ·obtain ⟨_,s5,dn5⟩:=q;rw [NZ (by lia)] at dn5;have s25:=s24.trans s5;refine ⟨D5,Ai,pss.map (λps=>ps.getD i (.hole 2)),rfl,.of Ju,dn5.same s25,by intro z;exact hne (List.map_eq_nil_iff.mp z),⟨by rw [NU];exact hpl,λp hp=>?_⟩,λr H6 s6 dr=>?_⟩
     ·obtain ⟨ps,hps,rfl⟩:=N5.mp hp;have hpn:=hok ps hps;have hlt:i<ps.length:=by lia
      have:ps.getD i (.hole 2)∈ps:=by simp [List.getD,NW hlt]
      exact hpn.1.2 _ this
     ·have s56:=s5.trans s6;have hD6:H6 D3=some (.lst acc):=s56 _ _ hD4;refine ⟨acc,hD6,small (by lia),_,ab,⟨_,rfl⟩,aq hD3 (s4.trans s56),?_⟩;rw [mz (ys:=[]) ab,we,N8];exact (dn.same (c7 s56)).append (.cons (Hc (EO (s4.trans s56) hD6) (af.refl _) dr) .nil)
   ·obtain ⟨_,s4,dn⟩:=q;refine k D3 acc H4 (s2.free hD3) (s2.trans s4) hD4 ?_;have e3:(n:Int).toNat=n:=Int.toNat_natCast n;rw [e3] at dn;exact dn.same (eS (s2.trans hs3).ll)
theorem yw:aA ["word"] ["word"] (ag (top 13)):=⟨rfl,rfl,rfl,by decide +kernel,rfl,by decide +kernel,by decide +kernel⟩
set_option maxHeartbeats 8000000 in
theorem k4 (T:Tx K mg A):au P w K mg base CX0 1 A.ij A.ir ["word"] (iT K):=by
 refine T.eN.fn.ok yw (λvs H Q E h=>?_) (λcdv Ar outer s H vs Q E hr h=>?_)
 ·obtain ⟨x,rfl,_⟩:=h;rfl
 ·obtain ⟨x,rfl,hw,k⟩:=h;refine ⟨_,aj (ar (eF (aa (aK oR (by rfl) T.cq PySem.boot_len (aa (pv 0) (ae))) (aa (pv 0) (ae))))),?_⟩;exact ⟨_,rfl,x,rfl,hw.s,_,rfl,(by show 2<=sizeLine;decide),λp hp=>k p hp⟩
theorem lV:aA ["part","length","text"] ["part"] (ag (top 33)):=⟨rfl,rfl,rfl,by decide +kernel,rfl,by decide +kernel,by decide +kernel⟩
set_option maxHeartbeats 8000000 in
theorem za (T:Tx K mg A):au P w K mg base CX0 2 A.nK A.m8 ["part"] (qY K):=by
 have bu:au P w K mg base CX0 1 A.cM A.cL ["part"] (cJ K):=(c6 T).mono (by decide);have nv:au P w K mg base CX0 1 A.ij A.ir ["word"] (iT K):=(k4 T).mono (by decide);refine T.oZ.fn.ok lV (λvs H Q E h=>?_) (λcdv Ar outer s H vs Q E hr h=>?_)
 ·obtain ⟨v,pt,rfl,_⟩:=h;rfl
 ·obtain ⟨v,pt,rfl,hd,hok,k⟩:=h;obtain ⟨a,x,y,ev,hq,_,_,hx⟩:=ip hd;refine ⟨_,ah (bj (bi (ak bu hr (by rfl) T.bc.mg T.bc.fn.kp T.bc.bd .nil av (aa (pv 0) (ae)))) (aj (ar (eF (aa (ap) (aa (c5 (r:=Ek K) PySem.F.plainAttrs_tuple PySem.F.slot_tuple_index PySem.F.type_tuple_index CW (iN (v:=.ref A.bS) (by rfl) T.kD rfl) (aa (ba (r:=jg K) cK (pv 0) (ap) (λ_ _=>rfl)) (ae))) (aa (aH) (ae))))))) (aG))
   (ah (tG (ak nv hr (by rfl) T.eN.mg T.eN.fn.kp T.eN.bd .nil av (aa (ba (r:=jg K) cK (pv 0) (ap) (λ_ _=>rfl)) (ae))) (nk rfl (cn (aw (i:=1) lV.nd rfl (Or.inl rfl)) (cn (aw (i:=2) lV.nd rfl (Or.inl rfl)) (jQ)))))
   (aj (ar (eF (aa (ap) (aa (pv 1) (aa (pv 2) (ae)))))))),?_⟩
  refine ⟨_,rfl,v,pt,rfl,hd,_,rfl,?_⟩;cases pt with
  | hole m=>
   obtain ⟨rfl,rfl⟩:=hx;refine bF ?_;subst ev;have hm:m<3:=hok;refine ⟨.inr (.inl ⟨rfl,T.wZ⟩),_,rfl,a,_,1,_,rfl,rfl,hq,rfl,A.bS,_,_,m,rfl,rfl,T.kC _,rfl,GG,hm,ID hm,Kb hm,(by show 3<=sizeLine;decide),λp hp=>?_⟩;exact k _ _ (af.new hp) (.tup (.of ((i0 hp).trans ab)) (.cons (.int 1) (.cons (.int _) (.cons (.str (by decide +kernel)) .nil))))
  | word z=>
   obtain ⟨rfl,rfl⟩:=hx;refine bg ?_;subst ev;have hw:TOk y:=hok;refine ⟨_,rfl,a,_,1,_,rfl,rfl,hq,rfl,y,rfl,hw.1,λp hp=>?_⟩;refine ⟨p,_,rfl,.of ab,rfl,_,_,rfl,_,_,rfl,rfl,?_⟩;refine ⟨_,rfl,_,rfl,(by show 3<=sizeLine;decide),λp2 hp2=>?_⟩;exact k _ _ ((af.new hp).trans (af.new hp2)) (.tup (.of ((i0 ((af.new hp).free hp2)).trans ab)) (.cons (.int 0) (.cons (.int _) (.cons (.str hw.2) .nil))))
theorem tz:aA ["pattern"] ["pattern"] (ag (top 34)):=⟨rfl,rfl,rfl,by decide +kernel,rfl,by decide +kernel,by decide +kernel⟩
set_option maxHeartbeats 8000000 in
theorem tQ (T:Tx K mg A):au P w K mg base CX0 3 A.jc A.i6 ["pattern"] (kY K):=by
 have Ah:au P w K mg base CX0 2 A.nK A.m8 ["part"] (qY K):=(za T).mono (by decide);refine T.lY.fn.ok tz (λvs H Q E h=>?_) (λcdv Ar outer s H vs Q E hr h=>?_)
 ·obtain ⟨v,ps,rfl,_⟩:=h;rfl
 ·obtain ⟨v,ps,rfl,hd,hok,k⟩:=h;obtain ⟨a,xs,ev,hq,hds⟩:=bR hd;refine ⟨_,aj (ar (eF (aa (aK (r:=cD K) aS (by rfl) T.cq PySem.boot_len (aa (pv 0) (ae))) (aa (aW (N':=["part"]) (n:=1) (fi:=[]) (g:=aY 0) rfl (aU (ag (top 34)) ["pattern"] (by decide +kernel)) (aP (pv 0)) (λs H fp=>aw (i:=0) (show (["part"]:List Str).Nodup by decide +kernel) rfl (Or.inl rfl) (.inr rfl)) (λs H fp=>aO) (λs H fp=>ak Ah hr (by rfl) T.oZ.mg T.oZ.fn.kp T.oZ.bd .nil av (aa (pv 0) (ae)))) (ae))))),?_⟩;subst ev;have hlen:xs.length=ps.length:=by rw [hds.length,NU]
  have hpl:=hok.1;refine ⟨_,rfl,a,xs,rfl,.inl hq,?_⟩;refine ⟨_,rfl,a,rfl,⟨_,hq⟩,λD hD=>?_⟩;refine aE (K:=K) (xs:=xs) (λi acc σ H2=>(∃ u,σ=[u])/\af H H2/\aI K (lim (upd H D (.lst [])) H2) acc ((ps.take i).map Pt.key)) ab ⟨⟨_,rfl⟩,af.new hD,.nil⟩ (λi acc σ H2 _ _ p=>p.2.1.seq hq) (λi x acc σ H2 hx hDx p=>?_) (λacc σ H2 hDx p=>?_)
  ·obtain ⟨⟨u,rfl⟩,p⟩:=p;obtain ⟨pt,e,kX⟩:=cW hds hx;have hi:i<ps.length:=aF e;have hal:acc.length=i:=by rw [p.2.length,NU,N7];lia
   refine bM ⟨_,rfl,x,pt,rfl,kX.same p.1,hok.2 pt (NV e),λr H4 s4 dr=>⟨acc,s4 _ _ hDx,small (by lia),_,ab,⟨_,rfl⟩,aq hD (p.1.trans s4),?_⟩⟩;rw [mz (ys:=[]) ab,bY e];exact (p.2.same (c7 s4)).append (.cons (dr.same (eS (EO p.1 hDx))) .nil)
  ·obtain ⟨_,p⟩:=p;refine ⟨(by show 2<=sizeLine;decide),λt ht=>?_⟩;have hs:af H (upd H2 t (.tup [.int xs.length,.ref D])):=p.1.trans (af.new ht);rw [NZ (by lia)] at p;refine k _ _ hs ?_;have e:gm ps = .tuple [.int xs.length,.list (ps.map Pt.key)]:=by rw [hlen];rfl
   rw [e];have hDt:(upd H2 t (.tup [.int xs.length,.ref D])) D=some (.lst acc):=by rw [ay (ao hDx ht)];exact hDx
   refine .tup (.of ((i0 (p.1.free ht)).trans ab)) (.cons (.int _) (.cons (.lst (.of ((i0 hD).trans hDt)) ?_) .nil));exact (p.2.same (c7 (af.new ht))).same (eS (af.new hD).ll)
theorem zx:aA ["patterns"] ["patterns"] (ag (top 35)):=⟨rfl,rfl,rfl,by decide +kernel,rfl,by decide +kernel,by decide +kernel⟩
set_option maxHeartbeats 8000000 in
theorem kE (T:Tx K mg A):au P w K mg base CX0 6 A.gX A.gY ["patterns"] (g9 K):=by
 have rS:au P w K mg base CX0 3 A.jc A.i6 ["pattern"] (kY K):=(tQ T).mono (by decide);refine T.ordered.fn.ok zx (λvs H Q E h=>?_) (λcdv Ar outer s H vs Q E hr h=>?_)
 ·obtain ⟨a,xs,pss,rfl,_⟩:=h;rfl
 ·obtain ⟨a,xs,pss,rfl,hq,hlen,hds,hok,k⟩:=h;refine ⟨_,aj (ar (aW (N':=["pattern"]) (n:=1) (fi:=[]) (g:=aY 0) rfl (aU (ag (top 35)) ["patterns"] (by decide +kernel)) (aP (y4 (a:=.int) (r:=Bo) .int rS hr T.lY.bd (by rfl) T.oe (by rfl) T.lY.mg (aa (pv 0) (ae)))) (λs H fp=>aw (i:=0) (show (["pattern"]:List Str).Nodup by decide +kernel) rfl (Or.inl rfl) (.inr rfl)) (λs H fp=>aO) (λs H fp=>qe (r:=rJ K) nr (by rfl) T.tN o8 (aa (pv 0) (ae))))),?_⟩;have hxl:xs.length=pss.length:=by rw [hds.length,NU]
  refine ⟨_,rfl,_,rfl,a,xs,rfl,hq,hlen,?_⟩;refine qx (K:=K) (H0:=H) xs (pss.map gm) [] [] H (by rw [NU];exact hxl) (af.refl H) .nil (λi x d H2 Q2 hx hd s2 kk=>?_) (λks H1 s1 d1=>?_)
  ·obtain ⟨ps,e,kX⟩:=bO hds hx;rw [N1,e] at hd;cases hd;exact ⟨x,ps,rfl,kX.same s2,hok ps (NV e),λr H' sr dr=>kk r H' sr (dr.same cg)⟩
  ·have d1':aI K H1 ks (pss.map gm):=by simpa using d1
   refine ⟨pss.map gm,d1',λd hd=>?_,λd hd=>?_,λD0 p hD0 hp ho=>?_⟩
   ·obtain ⟨ps,_,rfl⟩:=N5.mp hd;exact Ax ps
   ·obtain ⟨ps,_,rfl⟩:=N5.mp hd;exact Dj ps
   ·refine ⟨D0,rfl,⟨_,.of ab⟩,λD hD=>?_⟩;have hpl:p.length=xs.length:=by rw [hp.length_eq,List.length_range]
    have hp2:p.Perm (List.range pss.length):=by rw [<-hxl];exact hp
    have hsl:(sel pss p).length=xs.length:=by unfold sel;rw [NU,hpl]
    have sb:af H (upd H1 D0 (.lst (picked xs p))):=s1.trans (af.new hD0);generalize hHb:upd H1 D0 (HO.lst (picked xs p))=Hb at sb hD;have L5:Hb D0=some (.lst (picked xs p)):=by rw [<-hHb];exact ab
    have hsD:af Hb (upd Hb D (.lst [])):=af.new hD;refine aE (K:=K) (xs:=picked xs p) (λi acc σ H2=>(∃ u,σ=[u])/\af Hb H2/\A5 (upd Hb D (.lst [])) H2 acc/\aI K (lim (upd Hb D (.lst [])) H2) acc (((sel pss p).take i).map be)) ab ⟨⟨_,rfl⟩,hsD,(λx hx=>by cases hx),.nil⟩ (λi acc σ H2 _ _ q=>.of (q.2.1 _ _ L5)) (λi x acc σ H2 hx hDx q=>?_) (λacc σ H2 hDx q=>?_)
    ·obtain ⟨q0,s2,fr,dn⟩:=q;apply cf q0;clear q0;intro u;obtain ⟨ps,hps,Mc,kX⟩:=FR hds hp2 hx;obtain ⟨a',ys',rfl,hq',hd'⟩:=bR kX;have hal:acc.length=i:=by rw [dn.length,NU,N7];have:=aF hps;lia
     have hil:i<xs.length:=by rw [<-hsl];exact aF hps
     refine bM ⟨_,rfl,a',ys',rfl,.inl ((sb.trans s2).seq hq'),λl hl=>?_⟩;have hlD:l≠D:=(ao hDx hl).symm;have hlb:(upd Hb D (.lst [])) l=none:=by rw [ay hlD];exact s2.free hl
     have sl:af H2 (upd H2 l (.lst ys')):=af.new hl;refine ⟨acc,sl _ _ hDx,small (by lia),_,ab,⟨_,rfl⟩,aq hD (s2.trans sl),?_,?_⟩
     ·intro x hx;rcases List.mem_append.mp hx with hx | hx
      ·obtain ⟨t,ys,rfl,h1,h2,h3⟩:=fr x hx;have htD:t≠D:=λe=>by subst e;rw [ab] at h1;cases h1
       exact ⟨t,ys,rfl,h1,by rw [ay htD];exact sl _ _ h2,h3⟩
      ·simp only [N3] at hx;subst hx;exact ⟨l,ys',rfl,hlb,by rw [ay hlD];exact ab,by rw [hd'.length,NU];exact (hok ps Mc).1⟩
     ·rw [mz (ys:=[]) ab,bY hps];exact (dn.same (c7 sl)).append (.cons (.lst (.of ((i0 hlb).trans ab)) (xh (sb.trans hsD) ((sb.trans s2).trans sl) hd')) .nil)
    ·obtain ⟨_,s2,fr,dn⟩:=q;have hpk:(picked xs p).length=xs.length:=by rw [m3,hpl]
     rw [NZ (by lia)] at dn;refine k D acc H2 (sel pss p) (sb.free hD) (sb.trans s2) hDx (Ea hp2) (zX hp2 ho) (λx hx=>?_) (λx hx=>?_) (dn.same (eS (sb.trans hsD).ll))
     ·obtain ⟨t,ys,rfl,h1,h2,h3⟩:=fr x hx;exact ⟨t,ys,rfl,(sb.trans hsD).free h1,h2,h3⟩
     ·obtain ⟨t,ys,rfl,h1,h2,h3⟩:=fr x hx;intro e;cases e;rw [ab] at h1;cases h1
theorem qI:aA ["line","words"] ["line"] (ag (top 14)):=⟨rfl,rfl,rfl,by decide +kernel,rfl,by decide +kernel,by decide +kernel⟩
set_option maxHeartbeats 8000000 in
theorem qP (T:Tx K mg A):au P w K mg base CX0 2 A.jN A.km ["line"] (lC K):=by
 have eA:au P w K mg base CX0 1 A.fB A.fQ ["line"] (gb K):=(iO T).mono (by decide);have nv:au P w K mg base CX0 1 A.ij A.ir ["word"] (iT K):=(k4 T).mono (by decide);refine T.lG.fn.ok qI (λvs H Q E h=>?_) (λcdv Ar outer s H vs Q E hr h=>?_)
 ·obtain ⟨z,rfl,_⟩:=h;rfl
 ·obtain ⟨z,rfl,hz,hzs,k⟩:=h;refine ⟨_,ah (a9 (i:=1) qI.nd rfl (Or.inl rfl) (ak eA hr (by rfl) T.words_of.mg T.words_of.fn.kp T.words_of.bd .nil av (aa (pv 0) (ae))))
   (aj (ar (eF (aa (aK (r:=cD K) aS (by rfl) T.cq PySem.boot_len (aa (pv 1) (ae))) (aa (aW (N':=["word"]) (n:=1) (fi:=[]) (g:=aY 0) rfl (aU (ag (top 14)) ["line","words"] (by decide +kernel)) (aP (pv 1)) (λs H fp=>aw (i:=0) (show (["word"]:List Str).Nodup by decide +kernel) rfl (Or.inl rfl) (.inr rfl)) (λs H fp=>aO) (λs H fp=>ak nv hr (by rfl) T.eN.mg T.eN.fn.kp T.eN.bd .nil av (aa (pv 0) (ae)))) (ae)))))),?_⟩
  have hz':z.length<=10000:=hz;refine ⟨_,rfl,z,rfl,hz,λl hl=>?_⟩;have sl:af H (upd H l (.lst ((Txt.split z " ").map V.str))):=af.new hl;have hsz:=(L2.rZ (z:=z) (y:= " ")).2;have hws:=yK (y:= " ") hzs;generalize Txt.split z " " = ws at sl k hsz hws;have hq:SqL K (upd H l (.lst (ws.map V.str))) l (ws.map V.str):=.of ab;refine ⟨_,rfl,l,_,rfl,.inl hq,?_⟩;rw [NU];refine ⟨_,rfl,l,rfl,⟨_,hq⟩,λD hD=>?_⟩;generalize upd H l (.lst (ws.map V.str))=H1 at sl hq hD;refine aE (K:=K) (xs:=ws.map V.str) (λi acc σ H2=>(∃ u,σ=[u])/\af H1 H2/\aI K (lim (upd H1 D (.lst [])) H2) acc ((ws.take i).map wkD)) ab ⟨⟨_,rfl⟩,af.new hD,.nil⟩ (λi acc σ H2 _ _ p=>p.2.1.seq hq) (λi x acc σ H2 hx hDx p=>?_) (λacc σ H2 hDx p=>?_)
  ·obtain ⟨⟨u,rfl⟩,s2,dn⟩:=p;obtain ⟨w,hw,rfl⟩:=cY hx;have hi:=aF hw;have hal:acc.length=i:=by rw [dn.length,NU,N7];lia
   have hwo:=hws w (NV hw);refine bM ⟨_,rfl,w,rfl,N2 hwo.2 hz,λp hp=>⟨acc,(af.new hp) _ _ hDx,small (by lia),_,ab,⟨_,rfl⟩,aq hD (s2.trans (af.new hp)),?_⟩⟩;rw [mz (ys:=[]) ab,bY hw];exact (dn.same (c7 (af.new hp))).append (.cons (.tup (.of ((i0 (by rw [ay (ao hDx hp).symm];exact s2.free hp)).trans ab)) (.cons (.int _) (.cons (.str hwo.1) .nil))) .nil)
  ·obtain ⟨_,s2,dn⟩:=p;refine ⟨(by show 2<=sizeLine;decide),λt ht=>?_⟩;rw [NU,NZ (NX _)] at dn;refine k _ _ ((sl.trans s2).trans (af.new ht)) ?_;exact .tup (.of ab) (.cons (.int _) (.cons (.lst (.of ((af.new ht) _ _ hDx)) ((dn.same cg).same (af.new ht))) .nil))
def wu:Pt->Bool
 | .hole _=>true
 | .word _=>false
def FE:Pt->Bool
 | .word w=>bW w
 | .hole _=>true
def Kf (l:List Str):Prop:=l.Pairwise λa b=>ltv (lkD (Txt.split b " ")) (lkD (Txt.split a " "))=false
def qM (K:PySem.W.Frag):Sp:=λvs H Q _=>∃ (a:Addr) (zs:List Str),vs=[.ref a]/\SqL K H a (zs.map V.str)/\zs.length<64/\(∀ z∈zs,LOk z/\PyData.strOk z=true) /\
 ∀ (D:Addr) (l:List Str) H',H D=none->af H H'->l.Perm zs->Kf l->H' D=some (.lst (l.map V.str))->Q (.ref D) H'
def JW:Pt->List V
 | .word w=>[.str "word",.str w]
 | .hole k=>[.str "hole",.str (bK k)]
def n6 (H:Hp) (v:V) (p:Pt):Prop:=∃ t,v = .ref t/\H t=some (.tup (JW p))
theorem n6.same {H H':Hp}{v:V}{p:Pt} (h:n6 H v p) (s:af H H'):n6 H' v p:=by
 obtain ⟨t,e,h⟩:=h;exact ⟨t,e,s _ _ h⟩
theorem n6.den {K:PySem.W.Frag}{H:Hp}{v:V}{p:Pt} (h:n6 H v p) (ok:p.ok):Den K H v p.dat:=by
 obtain ⟨t,rfl,h⟩:=h;cases p with
 | word w=>exact .tup (.of h) (.cons (.str (by decide +kernel)) (.cons (.str (show TOk w from ok).2) .nil))
 | hole k=>exact .tup (.of h) (.cons (.str (by decide +kernel)) (.cons (.str t8) .nil))
def kG (K:PySem.W.Frag):Sp:=λvs H Q _=>∃ (v:V) (p:Pt),vs=[v]/\n6 H v p/\p.ok/\Q (.bl (FE p)) H
def mS (K:PySem.W.Frag):Sp:=λvs H Q _=>∃ (a:Addr) (xs:List V) (ps:List Pt),vs=[.ref a]/\H a=some (.lst xs)/\xs.length=ps.length/\(∀ (i:Nat) x p,xs[i]? = some x->ps[i]? = some p->n6 H x p)/\(∀ p∈ps,p.ok)/\1<=ps.length/\ps.length<=12/\(∀ p∈ps,FE p=true)/\∀ H',af H H'->Q (.bl true) H'
def qW:List Pt->List Str->List Str
 | .word x::ps,ws=>x::qW ps ws
 | .hole _::ps,w::ws=>w::qW ps ws
 | _,_=>[]
def vG (K:PySem.W.Frag):Sp:=λvs H Q _=>∃ (v:V) (b:Addr) (ps:List Pt) (ws:List Str),vs=[v,.ref b]/\Den K H v (be ps)/\(∀ p∈ps,p.ok)/\ps.length<=100/\SqL K H b (ws.map V.str)/\(∀ w∈ws,LOk w)/\aD (ps.filter wu) ws=true/\(∀ w∈qW ps ws,w.length<=500) /\
 ∀ H',af H H'->Q (.str (Txt.join " " (qW ps ws))) H'
theorem FY (n:Nat):(List.replicate n true).all id=true:=by
 rw [List.all_eq_true];intro x hx;exact (List.mem_replicate.mp hx).2
theorem yW:aA ["lines"] ["lines"] (ag (top 15)):=⟨rfl,rfl,rfl,by decide +kernel,rfl,by decide +kernel,by decide +kernel⟩
set_option maxHeartbeats 8000000 in
theorem yE (T:Tx K mg A):au P w K mg base CX0 5 A.m4 A.m6 ["lines"] (qM K):=by
 have lu:au P w K mg base CX0 2 A.jN A.km ["line"] (lC K):=(qP T).mono (by decide);refine T.pN.fn.ok yW (λvs H Q E h=>?_) (λcdv Ar outer s H vs Q E hr h=>?_)
 ·obtain ⟨a,zs,rfl,_⟩:=h;rfl
 ·obtain ⟨a,zs,rfl,hq,hlen,hok,k⟩:=h;refine ⟨_,aj (ar (y4 (a:=.int) (r:=.cw (.list v3) .pZ) .int lu hr T.lG.bd (by rfl) T.oe (by rfl) T.lG.mg (aa (pv 0) (ae)))),?_⟩;refine ⟨_,rfl,_,rfl,a,zs.map V.str,rfl,hq,by rw [NU];exact hlen,?_⟩;refine qx (K:=K) (H0:=H) (zs.map V.str) (zs.map λz=>lkD (Txt.split z " ")) [] [] H (by rw [NU,NU]) (af.refl H) .nil (λi x d H2 Q2 hx hd s2 kk=>?_) (λks H1 s1 d1=>?_)
  ·obtain ⟨z,e,rfl⟩:=cY hx;rw [N1,e] at hd;cases hd;have hz:=hok z (NV e);exact ⟨z,rfl,hz.1,hz.2,λr H' sr dr=>kk r H' sr dr⟩
  ·have d1':aI K H1 ks (zs.map λz=>lkD (Txt.split z " ")):=by simpa using d1
   refine ⟨zs.map λz=>lkD (Txt.split z " "),d1',λd hd=>?_,λd hd=>?_,λD0 p hD0 hp ho=>?_⟩
   ·obtain ⟨z,_,rfl⟩:=N5.mp hd;exact uZ _
   ·obtain ⟨z,_,rfl⟩:=N5.mp hd;exact Fj _
   ·rw [NU] at hp;have hlt:∀ i∈p,i<zs.length:=λi hi=>by have:=hp.mem_iff.mp hi;simpa using this
    have e1:picked (zs.map V.str) p=(p.map λi=>zs.getD i Str.empty).map V.str:=by
     unfold picked;rw [List.map_map];refine List.map_congr_left λi hi=>?_;simp [N9,hlt i hi]
    have e2:(p.map λi=>(zs.map λz=>lkD (Txt.split z " ")).getD i .none)=(p.map λi=>zs.getD i Str.empty).map λz=>lkD (Txt.split z " "):=by
     rw [List.map_map];refine List.map_congr_left λi hi=>?_;simp [N9,hlt i hi]
    rw [e1];refine k D0 _ _ (s1.free hD0) (s1.trans (af.new hD0)) ((hp.map λi=>zs.getD i Str.empty).trans (by rw [eU])) ?_ ab;unfold fZ at ho;rw [e2,List.pairwise_map] at ho;exact ho
theorem zK:aA ["thing"] ["thing"] (ag (top 19)):=⟨rfl,rfl,rfl,by decide +kernel,rfl,by decide +kernel,by decide +kernel⟩
set_option maxHeartbeats 8000000 in
theorem tS (T:Tx K mg A):au P w K mg base CX0 3 A.mi A.mf ["thing"] (kG K):=by
 have p6:au P w K mg base CX0 2 A.mo A.mD ["thing"] (nQ K):=(sf T).mono (by decide);refine T.jK.fn.ok zK (λvs H Q E h=>?_) (λcdv Ar outer s H vs Q E hr h=>?_)
 ·obtain ⟨v,p,rfl,_⟩:=h;rfl
 ·obtain ⟨v,p,rfl,⟨t,rfl,ht⟩,hok,k⟩:=h;refine ⟨_,ah (bj ((pw_or (fN (bi (aK (r:=Gb K) sj (by rfl) T.kB i9 (aa (pv 0) (aa (xb (v:=.ty "tuple") (by rfl) T.Hg Ft rfl) (ae)))))) (pw_or1 (aR (kJ) (aK (r:=cD K) aS (by rfl) T.cq PySem.boot_len (aa (pv 0) (ae))) (ap) (aQ _)))).pt) (aj (ar (gh))) (aG))
   (ah (bj (aR (fA) (ba (r:=jg K) cK (pv 0) (ap) (λ_ _=>rfl)) (aH) (aQ _)) (aj (ar (ak p6 hr (by rfl) T.jW.mg T.jW.fn.kp T.jW.bd .nil av (aa (ba (r:=jg K) cK (pv 0) (ap) (λ_ _=>rfl)) (ae))))) (aG))
   (aj (ar (qr (b6 (fA) (ba (r:=jg K) cK (pv 0) (ap) (λ_ _=>rfl)) (aH) (aQ _)) (nE (b6 (r:=rIn K false) (pW) (ba (r:=jg K) cK (pv 0) (ap) (λ_ _=>rfl)) (iN (v:=.ref A.bS) (by rfl) T.kD rfl) (by rfl))))))),?_⟩
  refine ⟨_,rfl,_,"tuple",_,true,rfl,.tup ht,by rfl,_,rfl,bg ?_⟩;cases p with
  | word w=>
   refine ⟨_,rfl,t,_,rfl,.inr (.of ht),rfl,_,rfl,bg ?_⟩;refine ⟨_,rfl,t,_,0,_,rfl,rfl,.of ht,rfl,rfl,_,rfl,?_⟩;rw [decide_eq_true rfl];exact bF ⟨_,rfl,t,_,1,_,rfl,rfl,.of ht,rfl,w,rfl,(show TOk w from hok).1,k⟩
  | hole m=>
   refine ⟨_,rfl,t,_,rfl,.inr (.of ht),rfl,_,rfl,bg ?_⟩;refine ⟨_,rfl,t,_,0,_,rfl,rfl,.of ht,rfl,rfl,_,rfl,bg ?_⟩;refine ⟨_,rfl,t,_,0,_,rfl,rfl,.of ht,rfl,rfl,_,rfl,?_⟩;rw [decide_eq_true rfl];refine bF ⟨_,rfl,t,_,1,_,rfl,rfl,.of ht,rfl,A.bS,_,rfl,.inr (T.kC _),rfl,rfl,?_⟩;have hk:∀ i<3,(inV (.str (bK i)) [.str "number",.str "name",.str "any"])=true:=by decide +kernel
   rw [if_neg N6,hk m hok];exact k
theorem uB:aA ["thing"] ["thing"] (ag (top 20)):=⟨rfl,rfl,rfl,by decide +kernel,rfl,by decide +kernel,by decide +kernel⟩
set_option maxHeartbeats 8000000 in
theorem ue (T:Tx K mg A):au P w K mg base CX0 4 A.jO A.ku ["thing"] (mS K):=by
 have pY:au P w K mg base CX0 3 A.mi A.mf ["thing"] (kG K):=(tS T).mono (by decide);refine T.jS.fn.ok uB (λvs H Q E h=>?_) (λcdv Ar outer s H vs Q E hr h=>?_)
 ·obtain ⟨a,xs,ps,rfl,_⟩:=h;rfl
 ·obtain ⟨a,xs,ps,rfl,ha,hxl,hat,hok,h1,h12,hb,k⟩:=h;refine ⟨_,ah (bj (fN (bi (aK (r:=Gb K) sj (by rfl) T.kB i9 (aa (pv 0) (aa (xb (v:=.ty "list") (by rfl) T.tN o8 rfl) (ae)))))) (aj (ar (gh))) (aG))
   (aj (ar (qr (xA AL AL (ap) (aK (r:=cD K) aS (by rfl) T.cq PySem.boot_len (aa (pv 0) (ae))) (iN (v:=.int 12) (by rfl) (Exists.choose_spec T.wm) ⟨_,rfl⟩)) (nE (aK (r:=Cc K) (lU rfl) (by rfl) T.yJ sO (aa (aW (N':=["part"]) (n:=1) (fi:=[]) (g:=aY 0) rfl (aU (ag (top 20)) ["thing"] (by decide +kernel)) (aP (pv 0)) (λs H fp=>aw (i:=0) (show (["part"]:List Str).Nodup by decide +kernel) rfl (Or.inl rfl) (.inr rfl)) (λs H fp=>aO) (λs H fp=>ak pY hr (by rfl) T.jK.mg T.jK.fn.kp T.jK.bd .nil av (aa (pv 0) (ae)))) (ae))))))),?_⟩
  refine ⟨_,rfl,_,"list",_,true,rfl,.lst ha,by rfl,_,rfl,bg ?_⟩;refine ⟨_,rfl,a,xs,rfl,.inl (.of ha),_,_,rfl,rfl,_,rfl,?_⟩;rw [decide_eq_true (show (1:Int)<=(xs.length:Int) by lia)];refine bF ⟨_,_,rfl,rfl,_,rfl,?_⟩;rw [decide_eq_true (show (xs.length:Int)<=12 by lia)];refine bF ⟨_,rfl,a,rfl,⟨_,.of ha⟩,λD hD=>?_⟩;refine aE (K:=K) (xs:=xs) (λi acc σ H2=>(∃ u,σ=[u])/\af H H2/\acc=(List.replicate i true).map V.bl) ab ⟨⟨_,rfl⟩,af.new hD,rfl⟩ (λi acc σ H2 _ _ p=>.of (p.2.1 _ _ ha)) (λi x acc σ H2 hx hDx p=>?_) (λacc σ H2 hDx p=>?_)
  ·obtain ⟨⟨u,rfl⟩,s2,rfl⟩:=p;have hi:=aF hx;obtain ⟨p,hp⟩:=at_of (l:=ps) (i:=i) (by lia);have hm:=NV hp;refine bM ⟨_,rfl,x,p,rfl,(hat i x p hx hp).same s2,hok p hm,_,hDx,small (by rw [NU,List.length_replicate];lia),_,ab,⟨_,rfl⟩,aq hD s2,?_⟩;rw [hb p hm,List.replicate_succ',N8];rfl
  ·obtain ⟨_,s2,rfl⟩:=p;refine ⟨D,_,rfl,.of hDx,?_⟩;rw [FY];exact k H2 s2
def NFl (K:PySem.W.Frag) (a b R T:Addr) (ps:List Pt) (ws:List Str) (H3:Hp) (i:Nat) (σ:St) (H5:Hp):Prop:=(∃ u,σ=[some (.ref a),some (.ref b),some (.ref R),some (.ref T),u])/\af H3 H5/\∃ ws' dn:List Str,H5 R=some (.lst (ws'.map V.str))/\H5 T=some (.lst (dn.map V.str))/\((ps.drop i).filter wu).length=ws'.length/\dn++qW (ps.drop i) ws' = qW ps ws/\dn.length=i
theorem mh:aA ["pattern","words","rest","told","part"] ["pattern","words"] (ag (top 25)):=⟨rfl,rfl,rfl,by decide +kernel,rfl,by decide +kernel,by decide +kernel⟩
set_option maxHeartbeats 8000000 in
theorem Cs (T:Tx K mg A):au P w K mg base CX0 5 A.rT A.t9 ["pattern","words"] (vG K):=by
 have lS:au P w K mg base CX0 4 A.iP A.iG ["parts","words"] (j5 K):=(pe T).mono (by decide);have bu:au P w K mg base CX0 4 A.cM A.cL ["part"] (cJ K):=(c6 T).mono (by decide);refine T.filled.fn.ok mh (λvs H Q E h=>?_) (λcdv Ar outer s H vs Q E hr h=>?_)
 ·obtain ⟨v,b,ps,ws,rfl,_⟩:=h;rfl
 ·obtain ⟨v,b,ps,ws,rfl,hd,hok,hl,hq,hw,ht,hfl,k⟩:=h;obtain ⟨a,xs,ev,hqa,hda⟩:=bR hd;have hxl:xs.length=ps.length:=by rw [hda.length,NU]
  refine ⟨_,ah (bj (fN (bi (ak lS hr (by rfl) T.fG.mg T.fG.fn.kp T.fG.bd .nil av (aa (aW (N':=["part"]) (n:=1) (fi:=[]) (g:=aY 0) rfl (aU (ag (top 25)) ["pattern","words","rest","told","part"] (by decide +kernel)) (aP (pv 0)) (λs H fp=>aw (i:=0) (show (["part"]:List Str).Nodup by decide +kernel) rfl (Or.inl rfl) (.inr rfl)) (λs H fp=>dO (bi (ak bu hr (by rfl) T.bc.mg T.bc.fn.kp T.bc.bd .nil av (aa (pv 0) (ae))))) (λs H fp=>pv 0)) (aa (pv 1) (ae)))))) (aj (jt)) (aG))
   (ah (a9 (i:=2) mh.nd rfl (Or.inl rfl) (qe (r:=rJ K) nr (by rfl) T.tN o8 (aa (pv 1) (ae))))
   (ah (a9 (i:=3) mh.nd rfl (Or.inl rfl) (bQ (ae)))
   (ah (fP PassesOwn.never rfl (aP (pv 0)) (aw (i:=4) mh.nd rfl (Or.inl rfl)) (aj (iX (c5 PySem.F.plainAttrs_list PySem.F.slot_list_append PySem.F.type_list_append eM (pv 3) (aa (jx (bi (ak bu hr (by rfl) T.bc.mg T.bc.fn.kp T.bc.bd .nil av (aa (pv 4) (ae)))) (c5 PySem.F.plainAttrs_list PySem.F.slot_list_pop PySem.F.type_list_pop FU (pv 2) (aa (ap) (ae))) (ba (r:=jg K) cK (pv 4) (ap) (λ_ _=>rfl))) (ae))))))
   (aj (ar (c5 (r:=rJoin K) PySem.F.plainAttrs_str PySem.F.slot_str_join PySem.F.type_str_join my (aH) (aa (pv 3) (ae)))))))),?_⟩
  subst ev;refine ⟨_,rfl,a,rfl,⟨_,hqa⟩,λD hD=>?_⟩;refine aE (K:=K) (xs:=xs) (λi acc σ H2=>(∃ u,σ=[u])/\af H H2/\aI K H acc (((ps.take i).filter wu).map Pt.dat)) ab ⟨⟨_,rfl⟩,af.new hD,.nil⟩ (λi acc σ H2 _ _ q=>q.2.1.seq hqa) (λi x acc σ H2 hx hDx q=>?_) (λacc σ H2 hDx q=>?_)
  ·obtain ⟨q0,s2,dn⟩:=q;apply cf q0;clear q0;intro u;obtain ⟨p,hpi,hdp⟩:=cW hda hx;have hi:=aF hpi;have hal:acc.length<=i:=by
    rw [dn.length,NU];exact N2 (List.length_filter_le _ _) (by rw [N7];lia)
   have et:ps.take (i+1)=ps.take i++[p]:=by rw [List.take_add_one,hpi];rfl
   refine ⟨_,rfl,x,p,rfl,hdp.same s2,_,rfl,?_⟩;cases p with
   | hole m=>
    refine bF ⟨_,rfl,acc,hDx,small (by lia),_,ab,⟨_,rfl⟩,aq hD s2,?_⟩;rw [et,List.filter_append,N8];exact dn.append (.cons hdp .nil)
   | word y=>
    refine bg ⟨acc,hDx,⟨_,rfl⟩,s2,?_⟩;have e2:[Pt.word y].filter wu=[]:=rfl;rw [et,List.filter_append,e2,List.append_nil];exact dn
  ·obtain ⟨_,s2,dn⟩:=q;rw [NZ (by lia)] at dn;refine ⟨_,rfl,D,b,acc,ps.filter wu,ws,rfl,.of hDx,dn.same s2,λp hp=>hok p (List.mem_filter.mp hp).1,s2.seq hq,hw,λH3 s3=>⟨_,rfl,?_⟩⟩;rw [ht];refine bg ?_;have s13:=s2.trans s3;refine ⟨_,rfl,b,_,rfl,.inl (s13.seq hq),λR hR=>?_⟩;refine ⟨Nat.zero_le _,λT' hT=>?_⟩;have hRT:R≠T':=λe=>by rw [<-e,ab] at hT;cases hT
   have hT3:H3 T' = none:=by rw [ay hRT.symm] at hT;exact hT
   have hRR:(upd (upd H3 R (.lst (ws.map V.str))) T' (.lst [])) R=some (.lst (ws.map V.str)):=by rw [ay hRT];exact ab
   have hTT:(upd (upd H3 R (.lst (ws.map V.str))) T' (.lst [])) T' = some (.lst []):=ab;have s4:af H3 (upd (upd H3 R (.lst (ws.map V.str))) T' (.lst [])):=aq hT3 (aq hR (af.refl _));generalize upd (upd H3 R (.lst (ws.map V.str))) T' (.lst [])=H4 at hRR hTT s4 ⊢;refine ⟨_,rfl,a,rfl,⟨_,(s13.trans s4).seq hqa⟩,?_⟩;have hlen:=ee ht;refine jC (K:=K) (xs:=xs) (NFl K a b R T' ps ws H3) ⟨⟨_,rfl⟩,s4,ws,[],hRR,hTT,hlen,rfl,rfl⟩ (λi σ H5 _ q=>(s13.trans q.2.1).seq hqa) (λi x σ H5 hx q=>?_) (λσ H5 q=>?_)
   ·obtain ⟨q0,s5,ws',dn',hR5,hT5,hl5,hf5,hd5⟩:=q;apply cf q0;clear q0;intro u;obtain ⟨p,hpi,hdp⟩:=cW hda hx;have hi:=aF hpi;have ed:ps.drop i=p::ps.drop (i+1):=by
     rw [List.drop_eq_getElem_cons hi];rw [NW hi] at hpi;rw [Option.some.inj hpi]
    rw [ed] at hl5 hf5;obtain ⟨a',x1,y1,rfl,hq',_,_,hxy⟩:=ip hdp;have EF:H5 T' = some (.lst (dn'.map V.str)):=hT5;refine ⟨_,rfl,.inl ⟨rfl,_,.of EF⟩,_,rfl,.ref a',p,rfl,hdp.same (s13.trans s5),_,rfl,?_⟩;cases p with
    | hole m=>
     cases ws' with
     | nil=>simp [wu] at hl5
     | cons w ws''=>
      refine bF ⟨_,rfl,.inl ⟨rfl,_,.of hR5⟩,R,.str w,ws''.map V.str,rfl,rfl,hR5,T',_,_,rfl,rfl,(by rw [ay hRT.symm];exact EF),small (by rw [NU];lia),?_⟩;refine ⟨⟨_,rfl⟩,aq hT3 (aq hR s5),ws'',dn'++[w],by rw [ay hRT];exact ab,by rw [ab,N8];rfl,by rw [List.filter_cons,if_pos (show wu (.hole m)=true from rfl),List.length_cons,List.length_cons] at hl5;lia,?_,by rw [List.length_append,hd5];rfl⟩;rw [<-hf5,List.append_assoc];rfl
    | word y=>
     obtain ⟨rfl,rfl⟩:=hxy;refine bg ⟨_,rfl,a',_,1,_,rfl,rfl,(s13.trans s5).su hq',rfl,T',_,_,rfl,rfl,EF,small (by rw [NU];lia),?_⟩;refine ⟨⟨_,rfl⟩,aq hT3 s5,ws',dn'++[y1],by rw [ay hRT];exact hR5,by rw [ab,N8];rfl,by simpa [wu] using hl5,?_,by rw [List.length_append,hd5];rfl⟩;rw [<-hf5,List.append_assoc];rfl
   ·obtain ⟨q0,s5,ws',dn',hR5,hT5,hl5,hf5,hd5⟩:=q;apply cf q0;clear q0;intro u;rw [List.drop_of_length_le (by lia)] at hf5 hl5;have e0:qW [] ws' = []:=by cases ws' <;> rfl
    rw [e0,List.append_nil] at hf5;have EF:H5 T' = some (.lst (dn'.map V.str)):=hT5;have h1:((" " : Str)).length=1:=rfl;refine ⟨rfl,_,rfl," ",T',dn',rfl,rfl,.of EF,gW (m:=500) (λy hy=>hfl y (by rw [<-hf5];exact hy)) (by rw [h1,hd5];lia),?_⟩;rw [hf5];exact k H5 (s13.trans s5)
end
end K38
namespace LG
open PySem L2 PySem.Builtin PySem.Builtin.Str PySem.StrLaws
theorem Bn {z y:Str}{c:Nat} (hy:y.cps.toList=[c]):Txt.startswith z y=match z.cps.toList with | a::_=>decide (a=c) | []=>false:=by
 have h1:y.length=1:=by rw [show y.length=y.cps.toList.length by simp [Str.length],hy];rfl
 have hz:z.length=z.cps.toList.length:=by simp [Str.length]
 unfold Txt.startswith;rw [subAt_eq,h1,hy,hz];cases z.cps.toList with
 | nil=>rfl
 | cons a r=>
  rw [Bool.eq_iff_iff];simp
theorem JN {z y:Str}{c:Nat} (hy:y.cps.toList=[c]) (h:∀ r,z.cps.toList≠c::r):Txt.removeprefix z y=z:=by
 have h1:y.length=1:=by rw [show y.length=y.cps.toList.length by simp [Str.length],hy];rfl
 have e:subAt z y 0=false:=by
  rw [subAt_eq,h1,hy];cases q:z.cps.toList with
  | nil=>rfl
  | cons a r=>
   have:a≠c:=λe=>h r (by rw [q,e]);simpa using this
 unfold Txt.removeprefix;rw [e];rfl
theorem G3 {y w:Str}{c:Nat} (hy:y.cps.toList=[c]):Txt.removeprefix (y++w) y=w:=by
 have h1:y.length=1:=by rw [show y.length=y.cps.toList.length by simp [Str.length],hy];rfl
 have e0:(y++w).cps.toList=c::w.cps.toList:=by
  rw [PySem.Str.cps_append,Array.toList_append,hy];rfl
 have hz:(y++w).length=(y++w).cps.toList.length:=by simp [Str.length]
 have e:subAt (y++w) y 0=true:=by
  rw [subAt_eq,h1,hy,e0];simp
 unfold Txt.removeprefix;rw [e];unfold Txt.affix;rw [if_pos rfl];have ne:¬ ((y++w).length - y.length == (y++w).length)=true:=by
  rw [h1,hz,e0];simp
 simp only [ne];rw [if_neg (by simp)];apply PySem.Str.ext';apply Array.toList_inj.mp;show (Array.extract (y++w).cps y.length (y++w).length).toList=w.cps.toList;rw [Array.toList_extract,e0,h1,hz,e0];simp;exact NZ (by simp)
theorem EB:(("<" : Str)).cps.toList=[60]:=by decide +kernel
theorem tq:(("=" : Str)).cps.toList=[61]:=by decide +kernel
theorem E8:∀ k<3,Txt.startswith ("<" ++ bK k ++ ">") "<" = true/\Txt.slice ("<" ++ bK k ++ ">") (some 1) (some (-1))=bK k:=by decide +kernel
def jE (w:Str):Bool:=match w.cps.toList with
 | c::_=>decide (c=60) || decide (c=61)
 | []=>false
def cv:Pt->Str
 | .hole k=> "<" ++ bK k ++ ">"
 | .word w=>if jE w=true then "=" ++ w else w
theorem Cj {w:Str}:Txt.startswith (cv (.word w)) "<" = false/\Txt.removeprefix (cv (.word w)) "=" = w:=by
 show Txt.startswith (if jE w=true then "=" ++ w else w) "<" = false/\Txt.removeprefix (if jE w=true then "=" ++ w else w) "=" = w;by_cases h:jE w=true
 ·rw [if_pos h];refine ⟨?_,G3 tq⟩;rw [Bn EB,PySem.Str.cps_append,Array.toList_append,tq];rfl
 ·rw [if_neg h];unfold jE at h;refine ⟨?_,JN tq λr e=>?_⟩
  ·rw [Bn EB];cases e:w.cps.toList with
   | nil=>rfl
   | cons a r=>
    rw [e] at h;simp at h;exact decide_eq_false h.1
  ·rw [e] at h;simp at h
end LG
namespace K38
open PySem L2 LG
section
variable {P:Program}{w:World}{K:PySem.W.Frag}{mg:Str->Option Value}{base:Heap}{A:Ad}
theorem zA {a b:Str} (ha:PyData.strOk a=true) (hb:PyData.strOk b=true):PyData.strOk (a++b)=true:=by
 unfold PyData.strOk;rw [PySem.Str.cps_append,Array.all_eq_true_iff_forall_mem];intro c hc;rcases Array.mem_append.mp hc with h | h
 ·exact decide_eq_true (gU ha c h)
 ·exact decide_eq_true (gU hb c h)
theorem qV {w:Str} (h:bW w=true):32∉w.cps.toList:=λq=>by
 unfold bW cA at h;rw [Oa,List.all_eq_true] at h;have:=h.2 32 q;rw [r9] at this;cases this
theorem F6 {w:Str} (h:bW w=true):w.cps.toList≠[]:=λe=>by
 unfold bW cA at h;rw [e] at h;cases h
theorem zl {p:Pt} (h:PtW p):p.ok:=by
 cases p with
 | word w=>exact ⟨N2 h.2.1 (by decide),h.2.2⟩
 | hole k=>exact h
theorem HN {p:Pt} (h:PtW p):FE p=true:=by
 cases p with
 | word w=>exact h.1
 | hole k=>rfl
theorem Af {p:Pt} (h:PtW p):32∉(cv p).cps.toList:=by
 cases p with
 | hole k=>
  have:∀ k<3,32∉(cv (.hole k)).cps.toList:=by decide +kernel
  exact this k h
 | word w=>
  show 32∉(if jE w=true then "=" ++ w else w).cps.toList
  split
  ·rw [PySem.Str.cps_append,Array.toList_append,tq];intro q;rcases List.mem_append.mp q with z | z
   ·simp at z
   ·exact qV h.1 z
  ·exact qV h.1
theorem pF {p:Pt} (h:PtW p):(cv p).length<=501:=by
 cases p with
 | hole k=>
  have:∀ k<3,(cv (.hole k)).length<=501:=by decide +kernel
  exact this k h
 | word w=>
  show (if jE w=true then "=" ++ w else w).length<=501;have:=h.2.1
  split
  ·rw [PySem.Str.length_append];have:(("=" : Str)).length=1:=rfl;lia
  ·lia
theorem yy {p:Pt} (h:PtW p):PyData.strOk (cv p)=true:=by
 cases p with
 | hole k=>
  have:∀ k<3,PyData.strOk (cv (.hole k))=true:=by decide +kernel
  exact this k h
 | word w=>
  show PyData.strOk (if jE w=true then "=" ++ w else w)=true
  split
  ·exact zA (by decide +kernel) h.2.2
  ·exact h.2.2
def gQ (K:PySem.W.Frag):Sp:=λvs H Q _=>∃ (v:V) (p:Pt),vs=[v]/\Den K H v p.dat/\PtW p/\∀ H',af H H'->Q (.str (cv p)) H'
def kK (K:PySem.W.Frag):Sp:=λvs H Q _=>∃ (v:V) (ps:List Pt),vs=[v]/\Den K H v (be ps)/\PW ps/\ps.length<=100/\∀ H',af H H'->Q (.str (Txt.join " " (ps.map cv))) H'
def oh (K:PySem.W.Frag):Sp:=λvs H Q _=>∃ p:Pt,vs=[.str (cv p)]/\PtW p/\∀ r H',af H H'->n6 H' r p->Q r H'
def kQ (K:PySem.W.Frag):Sp:=λvs H Q _=>∃ ps:List Pt,vs=[.str (Txt.join " " (ps.map cv))]/\PW ps/\ps≠[]/\ps.length<=12/\∀ r H',af H H'->Den K H' r (be ps)->Q r H'
theorem Hf {c:Nat}:inV (.str ⟨#[c]⟩) [.str "<",.str "="]=(decide (c=60) || decide (c=61)):=by
 have e1:(("<" : Str))=⟨#[60]⟩:=by decide +kernel
 have e2:(("=" : Str))=⟨#[61]⟩:=by decide +kernel
 unfold inV;rw [e1,e2];have e3:∀ a:Nat,((⟨#[a]⟩:Str) == ⟨#[c]⟩)=decide (c=a):=λa=>by
  rw [Bool.eq_iff_iff,beq_iff_eq,decide_eq_true_eq];constructor
  ·intro h;injection h with h;simpa using h.symm
  ·intro h;rw [h]
 show (((⟨#[60]⟩:Str) == ⟨#[c]⟩) || (((⟨#[61]⟩:Str) == ⟨#[c]⟩) || false))=_;rw [e3,e3,Bool.or_false]
theorem oW:aA ["part","text"] ["part"] (ag (top 61)):=⟨rfl,rfl,rfl,by decide +kernel,rfl,by decide +kernel,by decide +kernel⟩
set_option maxHeartbeats 8000000 in
theorem oq (T:Tx K mg A):au P w K mg base CX0 2 A.iF A.iZ ["part"] (gQ K):=by
 have bu:au P w K mg base CX0 1 A.cM A.cL ["part"] (cJ K):=(c6 T).mono (by decide);refine T.fE.fn.ok oW (λvs H Q E h=>?_) (λcdv Ar outer s H vs Q E hr h=>?_)
 ·obtain ⟨v,p,rfl,_⟩:=h;rfl
 ·obtain ⟨v,p,rfl,hd,hp,k⟩:=h;obtain ⟨a,x,y,ev,hq,_,_,hx⟩:=ip hd;refine ⟨_,ah (a9 (i:=1) oW.nd rfl (Or.inl rfl) (ba (r:=jg K) cK (pv 0) (ap) (λ_ _=>rfl)))
   (ah (bj (bi (ak bu hr (by rfl) T.bc.mg T.bc.fn.kp T.bc.bd .nil av (aa (pv 0) (ae)))) (aj (ar (JD (pv 1)))) (aG))
   (aj (ar (jx (aR (r:=rIn K false) (pW) (ba C3 (pv 1) (ap) (λ_ _=>rfl)) (eF (aa (aH) (aa (aH) (ae)))) (by rfl)) (Ht (pv 1)) (pv 1))))),?_⟩
  subst ev;refine ⟨_,rfl,a,_,1,_,rfl,rfl,hq,rfl,?_⟩;refine ⟨_,rfl,.ref a,p,rfl,hd,_,rfl,?_⟩;cases p with
  | hole m=>
   obtain ⟨rfl,rfl⟩:=hx;refine bF ⟨_,rfl,_,rfl,?_,k H (af.refl _)⟩;have:∀ m<3,(bK m).length<=100000:=by decide +kernel
   exact this m hp
  | word w=>
   obtain ⟨rfl,rfl⟩:=hx;have hne:=F6 hp.1;have hl:=hp.2.1;refine bg ?_;have hk:=k;cases hc:y.cps.toList with
   | nil=>exact (hne hc).elim
   | cons c r=>
    refine ⟨_,rfl,y,0,c,rfl,rfl,?_,by rw [hc];exact bA (j:=0) rfl,(by show 2<=sizeLine;decide),λt ht=>⟨t,_,rfl,.inr (.of ab),rfl,rfl,_,rfl,?_⟩⟩
    ·exact Nat.le_of_lt (small (by lia))
    ·rw [if_neg N6,Hf];have es:jE y=(decide (c=60) || decide (c=61)):=by unfold jE;rw [hc]
     rw [<-es];have st:=af.new (o:=.tup [.str "<",.str "="]) ht;have k2:=k _ st;have e3:cv (.word y)=if jE y=true then "=" ++ y else y:=rfl;rw [e3] at k2;cases hs:jE y with
     | true=>
      rw [hs,if_pos rfl] at k2;exact bF ⟨_,rfl,y,rfl,by lia,k2⟩
     | false=>
      rw [hs,if_neg N6] at k2;exact bg ⟨_,rfl,k2⟩
theorem q8:aA ["pattern"] ["pattern"] (ag (top 62)):=⟨rfl,rfl,rfl,by decide +kernel,rfl,by decide +kernel,by decide +kernel⟩
set_option maxHeartbeats 8000000 in
theorem rD (T:Tx K mg A):au P w K mg base CX0 3 A.iq A.gZ ["pattern"] (kK K):=by
 have lM:au P w K mg base CX0 2 A.iF A.iZ ["part"] (gQ K):=(oq T).mono (by decide);refine T.gJ.fn.ok q8 (λvs H Q E h=>?_) (λcdv Ar outer s H vs Q E hr h=>?_)
 ·obtain ⟨v,ps,rfl,_⟩:=h;rfl
 ·obtain ⟨v,ps,rfl,hd,hp,hl,k⟩:=h;obtain ⟨a,xs,ev,hqa,hda⟩:=bR hd;have hxl:xs.length=ps.length:=by rw [hda.length,NU]
  refine ⟨_,aj (ar (c5 (r:=rJoin K) PySem.F.plainAttrs_str PySem.F.slot_str_join PySem.F.type_str_join my (aH) (aa (aW (N':=["part"]) (n:=1) (fi:=[]) (g:=aY 0) rfl (aU (ag (top 62)) ["pattern"] (by decide +kernel)) (aP (pv 0)) (λs H fp=>aw (i:=0) (show (["part"]:List Str).Nodup by decide +kernel) rfl (Or.inl rfl) (.inr rfl)) (λs H fp=>aO) (λs H fp=>ak lM hr (by rfl) T.fE.mg T.fE.fn.kp T.fE.bd .nil av (aa (pv 0) (ae)))) (ae)))),?_⟩;subst ev;refine ⟨rfl,_,rfl,a,rfl,⟨_,hqa⟩,λD hD=>?_⟩;refine aE (K:=K) (xs:=xs) (λi acc σ H2=>(∃ u,σ=[u])/\af H H2/\acc=((ps.take i).map cv).map V.str) ab ⟨⟨_,rfl⟩,af.new hD,rfl⟩ (λi acc σ H2 _ _ q=>q.2.1.seq hqa) (λi x acc σ H2 hx hDx q=>?_) (λacc σ H2 hDx q=>?_)
  ·obtain ⟨q0,s2,rfl⟩:=q;apply cf q0;clear q0;intro u;obtain ⟨p,hpi,hdp⟩:=cW hda hx;have hi:=aF hpi;refine bM ⟨_,rfl,x,p,rfl,hdp.same s2,hp p (NV hpi),λH3 s3=>⟨_,s3 _ _ hDx,small (by rw [NU,NU,N7];lia),_,ab,⟨_,rfl⟩,aq hD (s2.trans s3),?_⟩⟩;rw [List.take_add_one,hpi,N8,N8];rfl
  ·obtain ⟨_,s2,rfl⟩:=q;rw [NZ (by lia)] at hDx;have h1:((" " : Str)).length=1:=rfl;refine ⟨" ",D,_,rfl,rfl,.of hDx,gW (m:=501) (λy hy=>?_) (by rw [h1,NU];lia),k H2 s2⟩;obtain ⟨p,hpm,rfl⟩:=N5.mp hy;exact pF (hp p hpm)
def lm (K:PySem.W.Frag):TS:=CO (II (tOr (IR (tB (AJ (kG K) [] E0 (lP (qb 1) Al)))) (A3 (tOp rNe (AJ (gQ K) [] E0 (lP (qb 1) Al)) (qb 0)))) (CL) (HS)) (KG (qb 1))
def sV (K:PySem.W.Frag):TS:=CO (DB (tIf (tB (tBM K "str" AO (qb 0) (lP (tC (V.str (PySem.Str.ofString "<"))) Al))) (Iq (lP (tC (V.str (PySem.Str.ofString "hole"))) (lP (tSl KR (qb 0) (Fi (tC (V.int 1))) (Fi (tUn (rU λi=>V.int (-i)) (tC (V.int 1))))) Al))) (Iq (lP (tC (V.str (PySem.Str.ofString "word"))) (lP (tBM K "str" C6 (qb 0) (lP (tC (V.str (PySem.Str.ofString "="))) Al)) Al)))) (aY 1)) (lm K)
theorem oo:aA ["text","part"] ["text"] (ag (top 63)):=⟨rfl,rfl,rfl,by decide +kernel,rfl,by decide +kernel,by decide +kernel⟩
set_option maxHeartbeats 8000000 in
theorem xf (T:Tx K mg A):au P w K mg base CX0 4 A.lc A.lR ["text"] (oh K):=by
 have pY:au P w K mg base CX0 3 A.mi A.mf ["thing"] (kG K):=(tS T).mono (by decide);have lM:au P w K mg base CX0 3 A.iF A.iZ ["part"] (gQ K):=(oq T).mono (by decide);refine T.l9.fn.ok oo (λvs H Q E h=>?_) (λcdv Ar outer s H vs Q E hr h=>?_)
 ·obtain ⟨p,rfl,_⟩:=h;rfl
 ·obtain ⟨p,rfl,hp,k⟩:=h;refine ⟨sV K,ah (a9 (i:=1) oo.nd rfl (Or.inl rfl) (jx (bi (c5 PySem.F.plainAttrs_str PySem.F.slot_str_startswith PySem.F.type_str_startswith Cu (pv 0) (aa (aH) (ae)))) (eF (aa (aH) (aa (dP Jm (pv 0) (eT (ap)) (eT (J9 Jd (ap)))) (ae)))) (eF (aa (aH) (aa (c5 PySem.F.plainAttrs_str PySem.F.slot_str_removeprefix PySem.F.type_str_removeprefix yC (pv 0) (aa (aH) (ae))) (ae))))))
   (ah (bj ((pw_or (fN (bi (ak pY hr (by rfl) T.jK.mg T.jK.fn.kp T.jK.bd .nil av (aa (pv 1) (ae))))) (pw_or1 (aR (kJ) (ak lM hr (by rfl) T.fE.mg T.fE.fn.kp T.fE.bd .nil av (aa (pv 1) (ae))) (pv 0) (aQ _)))).pt) (aj (jt)) (aG))
   (aj (ar (pv 1)))),?_⟩
  have hl:=pF hp;have tail:∀ (t:Addr) (H1:Hp),af H H1->H1 t=some (.tup (JW p))->lm K { nx:=λx H'=>Q V.non H',rt:=Q } [some (.str (cv p)),some (.ref t)] H1:=by
   intro t H1 s1 ht;have pa:n6 H1 (.ref t) p:=⟨t,rfl,ht⟩;refine ⟨_,rfl,.ref t,p,rfl,pa,zl hp,_,rfl,?_⟩;rw [HN hp];refine bg ?_;refine ⟨_,rfl,.ref t,p,rfl,pa.den (zl hp),hp,λH2 s2=>⟨_,rfl,rfl,_,rfl,?_⟩⟩;rw [decide_eq_true rfl];exact bg ⟨_,rfl,k _ _ (s1.trans s2) (pa.same s2)⟩
  refine ⟨_,rfl,rfl,_,"<",rfl,rfl,_,rfl,?_⟩;cases p with
  | hole m=>
   obtain ⟨e1,e2⟩:=E8 m hp;have es:cv (.hole m) = "<" ++ bK m ++ ">" :=rfl;rw [es,e1];refine bF ?_;refine ⟨_,rfl,1,rfl,1,rfl,-1,rfl,_,rfl,Nat.le_of_lt (small (by rw [<-es];lia)),(by show 2<=sizeLine;decide),λt ht=>?_⟩;rw [e2];exact tail t _ (af.new ht) ab
  | word w=>
   obtain ⟨e1,e2⟩:=Cj (w:=w);rw [e1];refine bg ?_;refine ⟨_,rfl,rfl,_,"=",rfl,rfl,Nat.le_of_lt (small (by lia)),(by show 2<=sizeLine;decide),λt ht=>?_⟩;rw [e2];exact tail t _ (af.new ht) ab
theorem vI {K:PySem.W.Frag}{H:Hp}:∀ {xs:List V}{ps:List Pt},xs.length=ps.length->(∀ p∈ps,p.ok)->(∀ (j:Nat) x p,xs[j]? = some x->ps[j]? = some p->n6 H x p)->aI K H xs (ps.map Pt.dat)
 | [],[],_,_,_=>.nil
 | [],_::_,e,_,_=>by cases e
 | _::_,[],e,_,_=>by cases e
 | x::xs,p::ps,e,ok,h=>.cons ((h 0 x p rfl rfl).den (ok p (.head _))) (vI (by simpa using e) (λq hq=>ok q (.tail _ hq)) λj y q h1 h2=>h (j+1) y q h1 h2)
def NRp (ps:List Pt) (H1:Hp) (i:Nat) (acc:List V) (σ:St) (H2:Hp):Prop:=(∃ u,σ=[u])/\af H1 H2/\acc.length=i/\∀ (j:Nat) x p,acc[j]? = some x->ps[j]? = some p->n6 H2 x p
theorem yR {H:Hp}{v:V}{p:Pt}{D:Addr}{l:List V}{o:HO} (h:n6 H v p) (hD:H D=some (.lst l)):n6 (upd H D o) v p:=by
 obtain ⟨t,e,h⟩:=h;exact ⟨t,e,by rw [ay (KN h hD λz=>nomatch z)];exact h⟩
theorem kH:aA ["text","pattern"] ["text"] (ag (top 64)):=⟨rfl,rfl,rfl,by decide +kernel,rfl,by decide +kernel,by decide +kernel⟩
set_option maxHeartbeats 8000000 in
theorem rg (T:Tx K mg A):au P w K mg base CX0 5 A.iy A.ix ["text"] (kQ K):=by
 have xW:au P w K mg base CX0 4 A.lc A.lR ["text"] (oh K):=(xf T).mono (by decide);have wV:au P w K mg base CX0 4 A.jO A.ku ["thing"] (mS K):=(ue T).mono (by decide);refine T.gG.fn.ok kH (λvs H Q E h=>?_) (λcdv Ar outer s H vs Q E hr h=>?_)
 ·obtain ⟨ps,rfl,_⟩:=h;rfl
 ·obtain ⟨ps,rfl,hp,hne,hl,k⟩:=h;refine ⟨_,ah (gL (i:=1) (N':=["piece"]) (n:=1) (fi:=[]) (g:=aY 0) kH.nd rfl (Or.inl rfl) rfl (aU (ag (top 64)) ["text","pattern"] (by decide +kernel)) (aP (c5 PySem.F.plainAttrs_str PySem.F.slot_str_split PySem.F.type_str_split sZ (pv 0) (aa (aH) (ae)))) (λs H fp=>aw (i:=0) (show (["piece"]:List Str).Nodup by decide +kernel) rfl (Or.inl rfl) (.inr rfl)) (λs H fp=>aO) (λs H fp=>ak xW hr (by rfl) T.l9.mg T.l9.fn.kp T.l9.bd .nil av (aa (pv 0) (ae))))
   (ah (bj (fN (bi (ak wV hr (by rfl) T.jS.mg T.jS.fn.kp T.jS.bd .nil av (aa (pv 1) (ae))))) (aj (jt)) (aG))
   (aj (ar (pv 1)))),?_⟩
  have h1:((" " : Str)).length=1:=rfl;have hsp:Txt.split (Txt.join " " (ps.map cv)) " " = ps.map cv:=nC (λe=>hne (List.map_eq_nil_iff.mp e)) λx hx=>by
   obtain ⟨p,hm,rfl⟩:=N5.mp hx;exact Af (hp p hm)
  have hj:=n5 (y:= " ") (m:=501) (by decide +kernel) (xs:=ps.map cv) λx hx=>by
   obtain ⟨p,hm,rfl⟩:=N5.mp hx;exact ⟨yy (hp p hm),pF (hp p hm)⟩
  rw [h1,NU] at hj;refine ⟨_,rfl,rfl,_," ",rfl,rfl,by decide +kernel,Nat.le_of_lt (small (by have:=hj.2;lia)),λL hL=>⟨L,rfl,⟨_,.of ab⟩,λD hD=>?_⟩⟩;rw [hsp] at hD ⊢;have sL:af H (upd H L (.lst ((ps.map cv).map V.str))):=af.new hL;have hLL:(upd H L (.lst ((ps.map cv).map V.str))) L=some (.lst ((ps.map cv).map V.str)):=ab;generalize upd H L (.lst ((ps.map cv).map V.str))=H1 at sL hLL hD ⊢;have hpk:∀ p∈ps,p.ok:=λp h=>zl (hp p h);refine aE (K:=K) (xs:=(ps.map cv).map V.str) (NRp ps H1) ab ⟨⟨_,rfl⟩,af.new hD,rfl,λj x p h _=>by simp at h⟩ (λi acc σ H2 _ _ q=>.of (q.2.1 _ _ hLL)) (λi x acc σ H2 hx hDx q=>?_) (λacc σ H2 hDx q=>?_)
  ·obtain ⟨q0,s2,hal,hat⟩:=q;apply cf q0;clear q0;intro u;obtain ⟨z,hz,rfl⟩:=cY hx;rw [N1] at hz;cases e:ps[i]? with
   | none=>rw [e] at hz;cases hz
   | some p=>
    rw [e] at hz;cases hz;have hi:=aF e;refine bM ⟨_,rfl,p,rfl,hp p (NV e),λr H3 s3 pa=>⟨_,s3 _ _ hDx,small (by lia),_,ab,⟨_,rfl⟩,aq hD (s2.trans s3),by rw [List.length_append,hal];rfl,λj x q hj hq=>?_⟩⟩;have hD3:=s3 _ _ hDx;rcases Nat.lt_or_ge j i with h | h
    ·rw [List.getElem?_append_left (by lia)] at hj;exact yR ((hat j x q hj hq).same s3) hD3
    ·rw [List.getElem?_append_right (by lia)] at hj;have hji:j=i:=by
      have:=aF hj;rw [List.length_singleton] at this;lia
     subst hji;rw [hal,Nat.sub_self] at hj;cases hj;rw [e] at hq;cases hq;exact yR pa hD3
  ·obtain ⟨_,s2,hal,hat⟩:=q;rw [NU,NU] at hal;have LV:1<=ps.length:=by
    cases ps with
    | nil=>exact (hne rfl).elim
    | cons a r=>simp
   refine ⟨_,rfl,D,acc,ps,rfl,hDx,hal,hat,hpk,LV,hl,λp h=>HN (hp p h),λH3 s3=>⟨_,rfl,bg ⟨_,rfl,k _ _ ((sL.trans s2).trans s3) ?_⟩⟩⟩;exact .lst (.of (s3 _ _ hDx)) (vI hal hpk λj x p h1 h2=>(hat j x p h1 h2).same s3)
theorem at0 (y:V) (ys:List V):atI (y::ys) 0=some y:=bA (xs:=y::ys) (j:=0) rfl
theorem sI:aA ["pattern","others"] ["pattern","others"] (ag (top 38)):=⟨rfl,rfl,rfl,by decide +kernel,rfl,by decide +kernel,by decide +kernel⟩
set_option maxHeartbeats 8000000 in
theorem ik (T:Tx K mg A):au P w K mg base CX0 6 A.dU A.dY ["pattern","others"] (fk K):=by
 have kZ:au P w K mg base CX0 5 A.iQ A.iV ["one","other"] (j4 K):=(oz T).mono (by decide);refine T.bT.fn.ok sI (λvs H Q E h=>?_) (λcdv Ar outer s H vs Q E hr h=>?_)
 ·obtain ⟨u,b,xs,ps,oss,rfl,_⟩:=h;rfl
 ·obtain ⟨u,b,xs,ps,oss,rfl,hu,hq,hds,hp,ho,Ji,k⟩:=h;have hxl:xs.length=oss.length:=by rw [hds.length,NU]
  refine ⟨_,aj (ar (aK (r:=Gh K) (tI rfl) (by rfl) T.Dy Aw (aa (aW (N':=["other","pattern"]) (n:=1) (fi:=[0]) (g:=aY 0) rfl (aU (ag (top 38)) ["pattern","others"] (by decide +kernel)) (aP (pv 1)) (λs H fp=>aw (i:=0) (show (["other","pattern"]:List Str).Nodup by decide +kernel) rfl (Or.inl rfl) (.inr rfl)) (λs H fp=>aO) (λs H fp=>ak kZ hr (by rfl) T.fC.mg T.fC.fn.kp T.fC.bd .nil av (aa (pv 1) (aa (pv 0) (ae))))) (ae)))),?_⟩;refine ⟨_,rfl,b,rfl,⟨_,hq⟩,λD hD=>?_⟩;refine aE (K:=K) (xs:=xs) (λi acc σ H2=>(∃ v,σ=[v,some u])/\af H H2/\acc=((oss.take i).map λos=>aC ps os).map V.bl) ab ⟨⟨_,rfl⟩,af.new hD,rfl⟩ (λi acc σ H2 _ _ q=>q.2.1.seq hq) (λi x acc σ H2 hx hDx q=>?_) (λacc σ H2 hDx q=>?_)
  ·obtain ⟨q0,s2,rfl⟩:=q;apply cf q0;clear q0;intro v;obtain ⟨os,hoi,hdo⟩:=bO hds hx;have hi:=aF hoi;refine bM ⟨_,rfl,_,rfl,u,x,ps,os,rfl,hu.same s2,hdo.same s2,hp,ho os (NV hoi),λH4 s4=>?_⟩;refine ⟨_,s4 _ _ hDx,small (by simp only [NU,N7];lia),_,ab,⟨_,rfl⟩,aq hD (s2.trans s4),?_⟩;rw [bY hoi,N8];rfl
  ·obtain ⟨_,s2,rfl⟩:=q;refine ⟨D,_,rfl,.of hDx,?_⟩;rw [NZ (by lia)];have e2:((oss.map λos=>aC ps os).any id)=aB ps oss:=by
    unfold aB;rw [List.any_map];rfl
   rw [e2];exact k H2 s2
theorem Cy:aA ["patterns","word"] ["patterns","word"] (ag (top 40)):=⟨rfl,rfl,rfl,by decide +kernel,rfl,by decide +kernel,by decide +kernel⟩
set_option maxHeartbeats 8000000 in
theorem uP (T:Tx K mg A):au P w K mg base CX0 4 A.oE A.pB ["patterns","word"] (pU K):=by
 have cH:au P w K mg base CX0 3 A.dv A.dC ["part","word"] (dR K):=(fU T).mono (by decide);refine T.behind.fn.ok Cy (λvs H Q E h=>?_) (λcdv Ar outer s H vs Q E hr h=>?_)
 ·obtain ⟨a,xs,oss,w,rfl,_⟩:=h;rfl
 ·obtain ⟨a,xs,oss,w,rfl,hq,hds,ho,hw,Ji,k⟩:=h;have hxl:xs.length=oss.length:=by rw [hds.length,NU]
  refine ⟨_,aj (ar (aW (N':=["pattern","word"]) (n:=1) (fi:=[1]) (g:=aY 0) rfl (aU (ag (top 40)) ["patterns","word"] (by decide +kernel)) (aP (pv 0)) (λs H fp=>aw (i:=0) (show (["pattern","word"]:List Str).Nodup by decide +kernel) rfl (Or.inl rfl) (.inr rfl)) (λs H fp=>dO (bi (ak cH hr (by rfl) T.bB.mg T.bB.fn.kp T.bB.bd .nil av (aa (ba (r:=c9 K) aX (pv 0) (ap) (λ_ _=>rfl)) (aa (pv 1) (ae)))))) (λs H fp=>dP (r:=uz K) gB (pv 0) (eT (ap)) (gF)))),?_⟩;refine ⟨_,rfl,a,rfl,⟨_,hq⟩,λD hD=>?_⟩;refine aE (K:=K) (xs:=xs) (λi acc σ H2=>(∃ v,σ=[v,some (.str w)])/\af H H2/\aI K (lim (upd H D (.lst [])) H2) acc ((aN (oss.take i) w).map be)) ab ⟨⟨_,rfl⟩,af.new hD,.nil⟩ (λi acc σ H2 _ _ q=>q.2.1.seq hq) (λi x acc σ H2 hx hDx q=>?_) (λacc σ H2 hDx q=>?_)
  ·obtain ⟨q0,s2,dn⟩:=q;apply cf q0;clear q0;intro v;obtain ⟨os,hoi,hdo⟩:=bO hds hx;have hi:=aF hoi;have hom:=ho os (NV hoi);have hal:acc.length<=i:=by
    rw [dn.length,NU];exact N2 (lL _ _) (by rw [N7];lia)
   obtain ⟨c,ys,rfl,hqc,hdc⟩:=bR hdo;cases os with
   | nil=>exact (hom.2 rfl).elim
   | cons p r=>
    cases hdc with
    | cons hd1 hdr=>
     rename_i y1 yr;have eb:aN (oss.take (i+1)) w=aN (oss.take i) w++(if p.takes w=true then [r] else []):=by
      rw [List.take_add_one,hoi];show aN (oss.take i++[p::r]) w=_;unfold aN;rw [List.filter_append,N8]
      congr 1
      by_cases ht:p.takes w=true
      ·rw [if_pos ht,List.filter_cons_of_pos (p:=j6 w) (a:=p::r) ht];rfl
      ·rw [if_neg ht,List.filter_cons_of_neg (p:=j6 w) (a:=p::r) ht];rfl
     refine ⟨_,rfl,c,_,0,_,rfl,rfl,s2.seq hqc,at0 _ _,_,rfl,y1,w,p,rfl,hd1.same s2,hom.1.2 p (N4 ..),hw,_,rfl,?_⟩;by_cases ht:p.takes w=true
     ·rw [ht];refine bF ⟨_,rfl,_,rfl,c,_,rfl,s2.seq hqc,λt ht'=>?_⟩;rw [qd];have st:af H2 (upd H2 t (.lst yr)):=af.new ht';have hDt:t≠D:=(ao hDx ht').symm;refine ⟨acc,st _ _ hDx,small (by lia),_,ab,⟨_,rfl⟩,aq hD (s2.trans st),?_⟩;rw [eb,if_pos ht,N8];rw [mz (ys:=[]) ab];refine (dn.same (c7 st)).append (.cons (.lst (.of ((i0 (by rw [ay hDt];exact s2.free ht')).trans ab)) ?_) .nil);exact xh (af.new hD) (s2.trans st) hdr
     ·rw [Bool.eq_false_iff.mpr ht];refine bg ⟨acc,hDx,⟨_,rfl⟩,s2,?_⟩;rw [eb,if_neg ht,List.append_nil];exact dn
  ·obtain ⟨_,s2,dn⟩:=q;rw [NZ (by lia)] at dn;exact k D acc H2 hD s2 hDx (dn.same (eS (af.new hD).ll))
theorem Im (c:Nat):(("" : Str)++sg c)=sg c:=kh (by
 rw [Str.cps_append,Array.toList_append];rfl)
theorem zS {K:PySem.W.Frag}{H1:Hp}{p D:Addr}{Q:VK} (hp:H1 p=some (.lst [.str ""])) (hD:H1 D=none) (k:∀ H',af H1 H'->H' D=some (.lst (sgL.map λc=>V.str (sg c)))->Q (.ref D) H') :
  AG (aY 0) Fx (LF (tC (.str kT))) (aY 1) Fx (tOp (λx y H Q=>∃ i j,x = .str i/\y = .str j/\i.length+j.length<=sizeLine/\Q (.str (i++j)) H) (qb 0) (qb 1)) (Itl K p) D Q [none,none] (upd H1 D (.lst [])):=by
 have hpD:p≠D:=ao hp hD;have hz:kT.length=sgL.length:=by unfold sgL;simp [Str.length]
 refine ⟨λi m σ H'=>(i=0/\m=1/\σ=[none,none]/\H' = upd H1 D (.lst []))\/(i=1/\af H1 H'/\H' D=some (.lst (sgL.map λc=>V.str (sg c)))),⟨1,.inl ⟨rfl,rfl,rfl,rfl⟩⟩,?_⟩;rintro i m σ H' (⟨rfl,rfl,rfl,rfl⟩ | ⟨rfl,s',hD'⟩)
 ·refine .inr ⟨⟨_,_,.of (by rw [ay hpD];exact hp),rfl⟩,λσ' H'=>af H1 H'/\H' D=some (.lst (sgL.map λc=>V.str (sg c))),λσ' H' q=>⟨0,Nat.one_pos,.inr ⟨rfl,q⟩⟩,?_⟩;rintro x H2 ⟨rfl,hx⟩;have hx0:=hx _ (.of (by rw [ay hpD];exact hp));cases hx0;refine bM (i:=0) (x:=.str "") (σ:=[none,none]) ?_;refine ⟨kT,rfl,?_⟩;refine ⟨λi m σ H'=>m=sgL.length - i/\i<=sgL.length/\(∃ u,σ=[some (.str ""),u])/\af H1 H'/\H' D=some (.lst ((sgL.take i).map λc=>V.str (sg c))),⟨_,rfl,Nat.zero_le _,⟨_,rfl⟩,af.new hD,ab⟩,?_⟩;rintro i m σ H' ⟨rfl,hi,⟨u,rfl⟩,s',hD'⟩;rcases Nat.eq_or_lt_of_le hi with e | hlt
  ·left
   subst e;rw [NZ (NX _)] at hD';exact ⟨Nat.le_of_eq hz,s',hD'⟩
  ·right
   refine ⟨show i<kT.length by rw [hz];exact hlt,λσ2 H2=>(∃ u,σ2=[some (.str ""),u])/\af H1 H2/\H2 D=some (.lst ((sgL.take (i+1)).map λc=>V.str (sg c))),λσ2 H2 q=>⟨sgL.length - (i+1),by lia,rfl,hlt,q⟩,?_⟩;rintro x H2 ⟨rfl,c,hc,rfl⟩;have hc':sgL[i]? = some c:=by unfold sgL;rw [Array.getElem?_toList];exact hc
   refine bM (i:=1) ?_;refine ⟨_,rfl,_,rfl,_,_,rfl,rfl,(by show 0+1<=sizeLine;decide),_,hD',small (by have:=Hl;rw [NU,N7];lia),⟨_,rfl⟩,aq hD s',?_⟩;have e:(("" : Str)++(⟨#[c]⟩:Str))=sg c:=Im c;rw [e,ab,List.take_add_one,hc',N8];rfl
 ·exact .inl ⟨⟨_,.of (s' _ _ hp),NX _⟩,k H' s' hD'⟩
theorem cX:aA ["kind","words","texts","text"] ["kind","words"] (ag (top 37)):=⟨rfl,rfl,rfl,by decide +kernel,rfl,by decide +kernel,by decide +kernel⟩
set_option maxHeartbeats 8000000 in
theorem ph (T:Tx K mg A):au P w K mg base CX0 3 A.fM A.fL ["kind","words"] (iW K):=by
 have jk:au P w K mg base CX0 2 A.jF A.ji ["word"] (kz K):=(nO T).mono (by decide);refine T.ff.fn.ok cX (λvs H Q E h=>?_) (λcdv Ar outer s H vs Q E hr h=>?_)
 ·obtain ⟨k,b,nm,rfl,_⟩:=h;rfl
 ·obtain ⟨k,b,nm,rfl,hk3,hq,hn,kk⟩:=h;refine ⟨_,ah (a9 (i:=2) cX.nd rfl (Or.inl rfl) (bQ (aa (aH) (ae))))
   (aj (xT PassesOwn.never (bi (gh)) (ah (Et (i:=2) (N':=["text","sign"]) (n:=2) (fi:=[]) (g:=aY 0) (g2:=aY 1) cX.nd rfl (Or.inl rfl) rfl (aU (ag (top 37)) ["kind","words","texts","text"] (by decide +kernel)) (aP (pv 2)) (λs H fp=>aw (i:=0) (show (["text","sign"]:List Str).Nodup by decide +kernel) rfl (Or.inl rfl) (.inr rfl)) (λs H fp=>aO) (λs H fp=>HZ (iN (v:=.str kT) (by rfl) (Exists.choose_spec T.oY) ⟨_,rfl⟩)) (λs H fp=>aw (i:=1) (show (["text","sign"]:List Str).Nodup by decide +kernel) rfl (Or.inl rfl) (.inr rfl)) (λs H fp=>aO) (λs H fp=>bX zy (pv 0) (pv 1)))
   (aj (fP PassesOwn.never rfl (aP (pv 2)) (aw (i:=3) cX.nd rfl (Or.inl rfl)) (aj (bj ((pw_and (aR (fA) (ak jk hr (by rfl) T.fV.mg T.fV.fn.kp T.fV.bd .nil av (aa (pv 3) (ae))) (pv 0) (aQ _)) (pw_and1 (aR (r:=rIn K true) (wz) (pv 3) (pv 1) (by rfl)))).pt) (aj (ar (pv 3))) (aG)))))))),?_⟩
  refine ⟨(by show 1<=sizeLine;decide),λp hp=>?_⟩;have sp':af H (upd H p (.lst [.str ""])):=af.new hp;have hpp:(upd H p (.lst [.str ""])) p=some (.lst [.str ""]):=ab;generalize upd H p (.lst [.str ""])=H1 at sp' hpp;refine ⟨λm σ H'=>σ=[some (.str (kO k)),some (.ref b),some (.ref p),none]/\H' = H1,⟨0,rfl,rfl⟩,?_⟩;rintro m σ H' ⟨rfl,rfl⟩;refine ⟨_,rfl,bF ⟨λ_ _=>False,λ_ _ q=>q.elim,?_⟩⟩;refine ⟨_,rfl,p,rfl,⟨_,.of hpp⟩,λD hD=>?_⟩;refine zS hpp hD λH2 s2 hD2=>?_;have hs:af H H2:=sp'.trans s2;have hqD:SqL K H2 D (sgL.map λc=>V.str (sg c)):=.of hD2;refine ⟨_,rfl,D,rfl,⟨_,hqD⟩,?_⟩;refine jC (K:=K) (xs:=sgL.map λc=>V.str (sg c)) (λi σ H3=>(∃ u,σ=[some (.str (kO k)),some (.ref b),some (.ref D),u])/\H3=H2/\∀ (j d:Nat),j<i->sgL[j]? = some d -> ¬ (bx (sg d)=k/\sg d∉nm)) ⟨⟨_,rfl⟩,rfl,λj d hj=>absurd hj (Nat.not_lt_zero _)⟩ (λi σ H3 _ q=>by rw [q.2.1];exact hqD) (λi x σ H3 hx q=>?_) (λσ H3 q=>?_)
  ·obtain ⟨q0,rfl,hb⟩:=q;apply cf q0;clear q0;intro u;rw [N1] at hx;cases e:sgL[i]? with
   | none=>rw [e] at hx;cases hx
   | some c=>
    rw [e] at hx;cases hx;have hsg:=rK.mp (NV e);refine ⟨_,rfl,sg c,rfl,(by show 1<=10000;decide),_,rfl,rfl,_,rfl,?_⟩;rw [vo (pq _) hk3];have nxt:∀ {q:Prop},¬ (bx (sg c)=k/\sg c∉nm)->(∀ (j d:Nat),j<i+1->sgL[j]? = some d -> ¬ (bx (sg d)=k/\sg d∉nm)):=λ{q} hc j d hj hd=>by
     rcases Nat.lt_or_ge j i with z | z
     ·exact hb j d z hd
     ·have:j=i:=by lia
      subst this;rw [e] at hd;cases hd;exact hc
    by_cases h1:bx (sg c)=k
    ·rw [decide_eq_true h1];refine bF ?_;have hin:inV (.str (sg c)) (nm.map V.str)=decide (sg c∈nm):=by
      unfold inV;rw [List.any_map,Bool.eq_iff_iff,List.any_eq_true,decide_eq_true_eq];constructor
      ·rintro ⟨y,hy,he⟩;have:y=sg c:=by
        have he':eqV (.str y) (.str (sg c))=true:=he;simpa [eqV] using he'
       rw [<-this];exact hy
      ·intro hm;exact ⟨sg c,hm,by show eqV (.str (sg c)) (.str (sg c))=true;simp [eqV]⟩
     refine ⟨_,rfl,_,rfl,b,_,rfl,.inl (hs.seq hq),rfl,by simp [gy],_,rfl,?_⟩;rw [if_pos rfl,hin];by_cases h2:sg c∈nm
     ·rw [decide_eq_true h2];exact bg ⟨⟨_,rfl⟩,rfl,nxt (q:=True) λz=>z.2 h2⟩
     ·rw [decide_eq_false h2];refine bF ⟨_,rfl,?_⟩;exact kk _ _ hs (K4 e h1 h2 hb)
    ·rw [decide_eq_false h1];refine bg (bg ⟨⟨_,rfl⟩,rfl,nxt (q:=True) λz=>h1 z.1⟩)
  ·obtain ⟨_,rfl,hb⟩:=q;obtain ⟨c,hc,h1,h2⟩:=zt hk3 hn;obtain ⟨j,hj⟩:=List.getElem?_of_mem hc;rw [NU] at hb;exact hb j c (aF hj) hj ⟨h1,h2⟩
theorem ql:∀ (a b:List Pt),named (a++b)=named a++named b
 | [],_=>rfl
 | .word x::r,b=>by show x::named (r++b)=_;rw [ql r b];rfl
 | .hole _::r,b=>ql r b
theorem B0 {K:PySem.W.Frag}{g:TG}{tt:TT}{te:TE}{D:Addr}{Q:VK}{σ:St}{H:Hp}{a:Addr}{xs:List V} (Pv:Nat->List V->St->Hp->Prop) (hD:H D=some (.lst [])) (h0:Pv 0 [] σ H) (hl:∀ i acc σ H,i<=xs.length->H D=some (.lst acc)->Pv i acc σ H->SqT K H a xs)
  (hs:∀ i x acc σ H,xs[i]? = some x->H D=some (.lst acc)->Pv i acc σ H->g x σ H λσ2 H2=>tt σ2 H2 λb H3=>if b=true then te σ2 H3 λv H4=>∃ ys,H4 D=some (.lst ys)/\ys.length<sizeLine/\CN D (Pv (i+1)) σ2 (upd H4 D (.lst (ys++[v]))) else CN D (Pv (i+1)) σ2 H3)
  (hd:∀ acc σ H,H D=some (.lst acc)->Pv xs.length acc σ H->Q (.ref D) H):rV g tt te (Itt K a) D Q σ H:=by
 refine oO xs.length Pv hD h0 (λi acc σ H hi cZ p=>⟨xs,xs[i],hl i acc σ H (Nat.le_of_lt hi) cZ p,by simp [hi]⟩) (λacc σ H cZ p=>⟨xs,hl _ acc σ H (NX _) cZ p,NX _⟩) (λi acc σ H x H' hi cZ p y=>?_) hd;obtain ⟨e,y⟩:=y;subst e;exact hs i x acc σ _ (y xs (hl i acc σ _ (Nat.le_of_lt hi) cZ p)) cZ p
theorem gr:aA ["part","beside","named","words"] ["part","beside"] (ag (top 39)):=⟨rfl,rfl,rfl,by decide +kernel,rfl,by decide +kernel,by decide +kernel⟩
set_option maxHeartbeats 8000000 in
theorem rn (T:Tx K mg A):au P w K mg base CX0 4 A.ib A.iz ["part","beside"] (kR K):=by
 have bu:au P w K mg base CX0 3 A.cM A.cL ["part"] (cJ K):=(c6 T).mono (by decide);have pQ:au P w K mg base CX0 3 A.fM A.fL ["kind","words"] (iW K):=(ph T).mono (by decide);have cH:au P w K mg base CX0 3 A.dv A.dC ["part","word"] (dR K):=(fU T).mono (by decide);refine T.gO.fn.ok gr (λvs H Q E h=>?_) (λcdv Ar outer s H vs Q E hr h=>?_)
 ·obtain ⟨v,b,xs,p,qs,rfl,_⟩:=h;rfl
 ·obtain ⟨v,b,xs,p,qs,rfl,hd,hq,hds,hp,hqs,h9,k⟩:=h;obtain ⟨a,x1,y1,ev,hqa,_,_,hx⟩:=ip hd;have hxl:xs.length=qs.length:=by rw [hds.length,NU]
  refine ⟨_,ah (bj (fN (bi (ak bu hr (by rfl) T.bc.mg T.bc.fn.kp T.bc.bd .nil av (aa (pv 0) (ae))))) (aj (ar (bQ (aa (ba (r:=jg K) cK (pv 0) (ap) (λ_ _=>rfl)) (ae))))) (aG))
   (ah (a9 (i:=2) gr.nd rfl (Or.inr rfl) (aW (N':=["other"]) (n:=1) (fi:=[]) (g:=aY 0) rfl (aU (ag (top 39)) ["part","beside","named","words"] (by decide +kernel)) (aP (pv 1)) (λs H fp=>aw (i:=0) (show (["other"]:List Str).Nodup by decide +kernel) rfl (Or.inl rfl) (.inr rfl)) (λs H fp=>dO (fN (bi (ak bu hr (by rfl) T.bc.mg T.bc.fn.kp T.bc.bd .nil av (aa (pv 0) (ae)))))) (λs H fp=>ba (r:=jg K) cK (pv 0) (ap) (λ_ _=>rfl))))
   (ah (a9 (i:=3) gr.nd rfl (Or.inl rfl) (bX (r:=vH K) oX (pv 2) (aW (N':=["kind","named"]) (n:=1) (fi:=[2]) (g:=aY 0) rfl (aU (ag (top 39)) ["part","beside","named","words"] (by decide +kernel)) (Jq (eF (aa (aH) (aa (aH) (aa (aH) (ae)))))) (λs H fp=>aw (i:=0) (show (["kind","named"]:List Str).Nodup by decide +kernel) rfl (Or.inl rfl) (.inr rfl)) (λs H fp=>aO) (λs H fp=>ak pQ hr (by rfl) T.ff.mg T.ff.fn.kp T.ff.bd .nil av (aa (pv 0) (aa (pv 1) (ae)))))))
   (aj (ar (aW (N':=["word","part"]) (n:=1) (fi:=[0]) (g:=aY 0) rfl (aU (ag (top 39)) ["part","beside","named","words"] (by decide +kernel)) (aP (pv 3)) (λs H fp=>aw (i:=0) (show (["word","part"]:List Str).Nodup by decide +kernel) rfl (Or.inl rfl) (.inr rfl)) (λs H fp=>dO (bi (ak cH hr (by rfl) T.bB.mg T.bB.fn.kp T.bB.bd .nil av (aa (pv 1) (aa (pv 0) (ae)))))) (λs H fp=>pv 0)))))),?_⟩
  refine ⟨_,rfl,v,p,rfl,hd,_,rfl,?_⟩;cases p with
  | word y=>
   obtain ⟨rfl,rfl⟩:=hx;subst ev;refine bF ⟨_,rfl,a,_,1,_,rfl,rfl,hqa,rfl,(by show 1<=sizeLine;decide),λD hD=>?_⟩;exact k D _ [y1] hD (af.new hD) ab ⟨[],rfl,.inl ⟨_,rfl⟩⟩
  | hole m=>
   refine bg ?_;refine ⟨_,rfl,b,rfl,⟨_,hq⟩,λN hN=>?_⟩;refine aE (K:=K) (xs:=xs) (λi acc σ H2=>(∃ u,σ=[u])/\af H H2/\acc=(named (qs.take i)).map V.str) ab ⟨⟨_,rfl⟩,af.new hN,rfl⟩ (λi acc σ H2 _ _ q=>q.2.1.seq hq) (λi x acc σ H2 hx hDx q=>?_) (λacc σ H2 hDx q=>?_)
   ·obtain ⟨q0,s2,rfl⟩:=q;apply cf q0;clear q0;intro u;obtain ⟨q,hqi,hdq⟩:=cW hds hx;have hi:=aF hqi;obtain ⟨c,x2,y2,rfl,hqc,_,_,hx2⟩:=ip hdq;have hal:((named (qs.take i)).map V.str).length<=i:=by
     rw [NU];exact N2 (jH _) (by rw [N7];lia)
    have en:named (qs.take (i+1))=named (qs.take i)++named [q]:=by rw [List.take_add_one,hqi,<-ql];rfl
    refine ⟨_,rfl,_,q,rfl,hdq.same s2,_,rfl,?_⟩;cases q with
    | word y=>
     obtain ⟨rfl,rfl⟩:=hx2;refine bF ⟨_,rfl,c,_,1,_,rfl,rfl,s2.su hqc,rfl,_,hDx,small (by lia),_,ab,⟨_,rfl⟩,aq hN s2,?_⟩;rw [en,N8];rfl
    | hole j=>
     refine bg ⟨_,hDx,⟨_,rfl⟩,s2,?_⟩;rw [en];simp [named]
   ·obtain ⟨_,s2,rfl⟩:=q;rw [NZ (by lia)] at hDx;have hnl:(named qs).length<=9:=N2 (jH qs) h9;refine ⟨_,rfl,(by show 3<=sizeLine;decide),λt ht=>⟨t,rfl,⟨_,.of ab⟩,λD hD=>?_⟩⟩;have st:af H2 (upd H2 t (.tup [.str "number",.str "name",.str "other"])):=af.new ht;have htt:(upd H2 t (.tup [.str "number",.str "name",.str "other"])) t=some (.tup [.str "number",.str "name",.str "other"]):=ab;generalize upd H2 t (.tup [.str "number",.str "name",.str "other"])=H3 at st htt hD;have hN3:=st _ _ hDx;refine B0 (K:=K) (xs:=[.str "number",.str "name",.str "other"]) (λi acc σ H4=>(∃ u,σ=[u,some (.ref N)])/\af H3 H4/\∃ l:List Str,acc=l.map V.str/\l.length=i/\∀ (j:Nat) x,l[j]? = some x->LW j (named qs) x) ab ⟨⟨_,rfl⟩,af.new hD,[],rfl,rfl,λj x hj=>by simp at hj⟩ (λi acc σ H4 _ _ q=>.of (q.2.1 _ _ htt)) (λi x acc σ H4 hx hDx q=>?_) (λacc σ H4 hDx q=>?_)
    ·obtain ⟨q0,s4,l,rfl,hll,hlw⟩:=q;apply cf q0;clear q0;intro u;have hi3:i<3:=aF hx;have hxk:x = .str (kO i):=by
      have:i=0\/i=1\/i=2:=by lia
      rcases this with rfl | rfl | rfl <;> (cases hx;rfl)
     subst hxk;refine bM ⟨_,rfl,_,rfl,i,N,named qs,rfl,hi3,.of (s4 _ _ hN3),hnl,λx H5 s5 hx5=>?_⟩;refine ⟨_,s5 _ _ hDx,small (by rw [NU];lia),_,ab,⟨_,rfl⟩,aq hD (s4.trans s5),l++[x],by simp,by simp [hll],λj y hj=>?_⟩;rcases Nat.lt_or_ge j l.length with z | z
     ·rw [List.getElem?_append_left z] at hj;exact hlw j y hj
     ·rw [List.getElem?_append_right z] at hj;have:j - l.length=0:=by
       have:=aF hj;simp at this;lia
      rw [this] at hj;cases hj;have:j=i:=by lia
      subst this;exact hx5
    ·obtain ⟨_,s4,l,rfl,hll,hlw⟩:=q;have hl3:l.length=3:=hll
     match l,hl3 with
     | [x0,x1,x2],_=>
      refine ⟨N,D,_,_,rfl,rfl,.of (s4 _ _ hN3),.of hDx,by rw [NU,NU];exact N2 (Nat.add_le_add hnl (NX 3)) (by decide),λC hC=>?_⟩;have s5:af H4 (upd H4 C (.lst ((named qs).map V.str++[x0,x1,x2].map V.str))):=af.new hC;have hCC:(upd H4 C (.lst ((named qs).map V.str++[x0,x1,x2].map V.str))) C=some (.lst ((named qs++[x0,x1,x2]).map V.str)):=by rw [ab,N8]
      generalize upd H4 C (.lst ((named qs).map V.str++[x0,x1,x2].map V.str))=H5 at s5 hCC;have hs:af H H5:=((s2.trans st).trans s4).trans s5;have l0:=hlw 0 x0 rfl;have l1:=hlw 1 x1 rfl;have l2:=hlw 2 x2 rfl;have hwb:∀ x∈named qs++[x0,x1,x2],Bd x:=λx hx=>by
       rcases List.mem_append.mp hx with z | z
       ·exact (hqs _ (ju.mp z)).2
       ·simp only [List.mem_cons,List.not_mem_nil,or_false] at z;rcases z with rfl | rfl | rfl
        ·exact l0.bd
        ·exact l1.bd
        ·exact l2.bd
      have hwl:(named qs++[x0,x1,x2]).length<=12:=by rw [List.length_append];exact Nat.add_le_add hnl (NX 3)
      refine ⟨_,rfl,C,rfl,⟨_,.of hCC⟩,λF hF=>?_⟩;generalize hcs:named qs++[x0,x1,x2]=cs at hCC hwb hwl;refine aE (K:=K) (xs:=cs.map V.str) (λi acc σ H6=>(∃ u,σ=[u,some v])/\af H5 H6/\acc=((cs.take i).filter (Pt.hole m).takes).map V.str) ab ⟨⟨_,rfl⟩,af.new hF,rfl⟩ (λi acc σ H6 _ _ q=>.of (q.2.1 _ _ hCC)) (λi x acc σ H6 hx hFx q=>?_) (λacc σ H6 hFx q=>?_)
      ·obtain ⟨q0,s6,rfl⟩:=q;apply cf q0;clear q0;intro u;obtain ⟨w,hw,rfl⟩:=cY hx;have hi:=aF hw;have hbd:=hwb w (NV hw);have hal:(((cs.take i).filter (Pt.hole m).takes).map V.str).length<=12:=by
        rw [NU];exact N2 (List.length_filter_le _ _) (by rw [N7];lia)
       refine ⟨_,rfl,_,rfl,v,w,.hole m,rfl,hd.same (hs.trans s6),hp,N2 hbd.1 (by decide),_,rfl,?_⟩;have et:(cs.take (i+1)).filter (Pt.hole m).takes=(cs.take i).filter (Pt.hole m).takes++[w].filter (Pt.hole m).takes:=by rw [List.take_add_one,hw,<-List.filter_append];rfl
       by_cases htk:(Pt.hole m).takes w=true
       ·rw [htk];refine bF ⟨_,rfl,_,hFx,small (by lia),_,ab,⟨_,rfl⟩,aq hF s6,?_⟩;rw [et,List.filter_cons_of_pos htk,N8];rfl
       ·rw [Bool.eq_false_iff.mpr htk];refine bg ⟨_,hFx,⟨_,rfl⟩,s6,?_⟩;rw [et,List.filter_cons_of_neg htk];simp
      ·obtain ⟨_,s6,rfl⟩:=q;rw [NU,NZ (NX _)] at hFx;refine k F H6 _ (hs.free hF) (hs.trans s6) hFx ⟨[x0,x1,x2],?_,.inr ⟨x0,x1,x2,rfl,l0,l1,l2⟩⟩;rw [<-hcs];rfl
theorem xE {oss:List (List Pt)} (h:∀ os∈oss,PW os/\os≠[]/\os.length<=12):PW (heads oss):=λp hp=>by
 obtain ⟨os,ho,rfl⟩:=N5.mp hp;obtain ⟨h1,h2,_⟩:=h os ho;cases os with
 | nil=>exact (h2 rfl).elim
 | cons q r=>exact h1 q (N4 ..)
theorem yH {p:Pt}{ps:List Pt}{oss:List (List Pt)}{l:List Str} (hp:PtW p) (ho:∀ os∈oss,PW os/\os≠[]) (hc:Bg p (heads oss) l) {y:Str}
  (ty:p.takes y=true) (ny:aB ps (aN oss y)=false):∃ x∈l,aB ps (aN oss x)=false/\wlt y x=false:=by
 obtain ⟨ls,rfl,h⟩:=hc;rcases h with ⟨x,rfl⟩ | ⟨x0,x1,x2,rfl,h0,h1,h2⟩
 ·have e:y=x:=of_decide_eq_true ty;subst e;exact ⟨y,N3.mpr rfl,ny,vX y⟩
 ·exact Gp hp ho h0 h1 h2 ty ny
theorem C0 {p:Pt}{qs:List Pt}{l:List Str} (hp:PtW p) (hq:PW qs) (hc:Bg p qs l):∀ x∈l,Bd x/\p.takes x=true:=λx hx=>by
 obtain ⟨ls,rfl,h⟩:=hc;refine ⟨?_,Ae hx⟩;rcases h with ⟨y,rfl⟩ | ⟨x0,x1,x2,rfl,h0,h1,h2⟩
 ·have:=N3.mp hx;subst this;exact hp.2
 ·refine Gq hp hq (λy hy=>?_) hx;simp only [List.mem_cons,List.not_mem_nil,or_false] at hy;rcases hy with rfl | rfl | rfl
  ·exact h0.bd
  ·exact h1.bd
  ·exact h2.bd
theorem CA {p:Pt}{qs:List Pt}{l:List Str} (hc:Bg p qs l) (h9:qs.length<=9):l.length<=12:=by
 obtain ⟨ls,rfl,h⟩:=hc;rcases h with ⟨y,rfl⟩ | ⟨x0,x1,x2,rfl,_⟩
 ·exact (by decide:1<=12)
 ·cases p with
  | word x=>exact (by decide:1<=12)
  | hole m=>
   refine N2 (List.length_filter_le _ _) ?_;rw [List.length_append];exact Nat.add_le_add (N2 (jH qs) h9) (NX 3)
theorem jL {ps:List Pt} (h:PW ps) (hl:ps.length<=12):POk ps:=⟨N2 hl (by decide),λp hp=>(h p hp).ok⟩
theorem g6:aA ["pattern","others","words"] ["pattern","others"] (ag (top 41)):=⟨rfl,rfl,rfl,by decide +kernel,rfl,by decide +kernel,by decide +kernel⟩
set_option maxHeartbeats 8000000 in
theorem nI (T:Tx K mg A):au P w K mg base CX0 7 A.fe A.eW ["pattern","others"] (ie K):=by
 have tX:au P w K mg base CX0 6 A.ib A.iz ["part","beside"] (kR K):=(rn T).mono (by decide);have xq:au P w K mg base CX0 5 A.ij A.ir ["word"] (iT K):=(k4 T).mono (by decide);have dN:au P w K mg base CX0 6 A.dU A.dY ["pattern","others"] (fk K):=(ik T).mono (by decide);have sm:au P w K mg base CX0 6 A.oE A.pB ["patterns","word"] (pU K):=(uP T).mono (by decide);refine T.d4.fn.ok g6 (λvs H Q E h=>?_) (λcdv Ar outer s H vs Q E hr h=>?_)
 ·obtain ⟨u,b,xs,p,ps,oss,rfl,_⟩:=h;rfl
 ·obtain ⟨u,b,xs,p,ps,oss,rfl,hu,hq,hds,hpw,hpl,ho,h9,hnd,k⟩:=h;have hxl:xs.length=oss.length:=by rw [hds.length,NU]
  have hp:PtW p:=hpw p (N4 ..);have hps:PW ps:=λx hx=>hpw x (NY _ hx);obtain ⟨a,ys,eu,hqa,hda⟩:=bR hu;subst eu;cases hda with
  | cons hd1 hdr=>
   rename_i y1 yr;refine ⟨_,ah (a9 (i:=2) g6.nd rfl (Or.inl rfl) (ak tX hr (by rfl) T.gO.mg T.gO.fn.kp T.gO.bd .nil av (aa (ba (r:=c9 K) aX (pv 0) (ap) (λ_ _=>rfl)) (aa (aW (N':=["other"]) (n:=1) (fi:=[]) (g:=aY 0) rfl (aU (ag (top 41)) ["pattern","others","words"] (by decide +kernel)) (aP (pv 1)) (λs H fp=>aw (i:=0) (show (["other"]:List Str).Nodup by decide +kernel) rfl (Or.inl rfl) (.inr rfl)) (λs H fp=>aO) (λs H fp=>ba (r:=c9 K) aX (pv 0) (ap) (λ_ _=>rfl))) (ae)))))
   (aj (ar (FQ xq hr T.eN.bd rfl (by rfl) T.Bb (by rfl) T.eN.mg (aa (aW (N':=["word","pattern","others"]) (n:=1) (fi:=[0,1]) (g:=aY 0) rfl (aU (ag (top 41)) ["pattern","others","words"] (by decide +kernel)) (aP (pv 2)) (λs H fp=>aw (i:=0) (show (["word","pattern","others"]:List Str).Nodup by decide +kernel) rfl (Or.inl rfl) (.inr rfl)) (λs H fp=>dO (fN (bi (ak dN hr (by rfl) T.bT.mg T.bT.fn.kp T.bT.bd .nil av (aa (dP (r:=uz K) gB (pv 1) (eT (ap)) (gF)) (aa (ak sm hr (by rfl) T.behind.mg T.behind.fn.kp T.behind.bd .nil av (aa (pv 2) (aa (pv 0) (ae)))) (ae))))))) (λs H fp=>pv 0)) (ae))))),?_⟩
   refine ⟨_,rfl,a,_,0,_,rfl,rfl,hqa,at0 _ _,?_⟩;refine ⟨_,rfl,b,rfl,⟨_,hq⟩,λD hD=>?_⟩;refine aE (K:=K) (xs:=xs) (λi acc σ H2=>(∃ u,σ=[u])/\af H H2/\aI K H acc ((heads (oss.take i)).map Pt.dat)) ab ⟨⟨_,rfl⟩,af.new hD,.nil⟩ (λi acc σ H2 _ _ q=>q.2.1.seq hq) (λi x acc σ H2 hx hDx q=>?_) (λacc σ H2 hDx q=>?_)
   ·obtain ⟨q0,s2,dn⟩:=q;apply cf q0;clear q0;intro u;obtain ⟨os,hoi,hdo⟩:=bO hds hx;have hi:=aF hoi;have hom:=ho os (NV hoi);have hal:acc.length<=9:=by
     rw [dn.length,NU];unfold heads;rw [NU,N7];lia
    obtain ⟨c,zs,rfl,hqc,hdc⟩:=bR hdo;cases os with
    | nil=>exact (hom.2.1 rfl).elim
    | cons q r=>
     cases hdc with
     | cons hc1 hcr=>
      refine bM ⟨_,rfl,c,_,0,_,rfl,rfl,s2.seq hqc,at0 _ _,acc,hDx,small (by lia),_,ab,⟨_,rfl⟩,aq hD s2,?_⟩;have e:heads (oss.take (i+1))=heads (oss.take i)++[q]:=by
       unfold heads;rw [List.take_add_one,hoi,N8];rfl
      rw [e,N8];exact dn.append (.cons hc1 .nil)
   ·obtain ⟨_,s2,dn⟩:=q;rw [NZ (by lia)] at dn;have hhl:(heads oss).length<=9:=by unfold heads;rw [NU];exact h9
    refine ⟨y1,D,acc,p,heads oss,rfl,hd1.same s2,.of hDx,dn.same s2,hp,xE ho,hhl,λW H3 l hW s3 hW3 hc=>?_⟩;have hs3:af H H3:=s2.trans s3;have hbd:=C0 hp (xE ho) hc;have hcl:=CA hc hhl;have hne:∀ os∈oss,PW os/\os≠[]:=λos h=>⟨(ho os h).1,(ho os h).2.1⟩;refine ⟨_,rfl,W,rfl,⟨_,.of hW3⟩,λF hF=>?_⟩;refine aE (K:=K) (xs:=l.map V.str) (λi acc σ H4=>(∃ v,σ=[v,some (.ref a),some (.ref b)])/\af H3 H4/\acc=((l.take i).filter λw=>!aB ps (aN oss w)).map V.str) ab ⟨⟨_,rfl⟩,af.new hF,rfl⟩ (λi acc σ H4 _ _ q=>.of (q.2.1 _ _ hW3)) (λi x acc σ H4 hx hFx q=>?_) (λacc σ H4 hFx q=>?_)
    ·obtain ⟨q0,s4,rfl⟩:=q;apply cf q0;clear q0;intro v;obtain ⟨w,hw,rfl⟩:=cY hx;have hi:=aF hw;have hwb:=(hbd w (NV hw)).1;have hs4:af H H4:=hs3.trans s4;have hal:(((l.take i).filter λw=>!aB ps (aN oss w)).map V.str).length<=12:=by
      rw [NU];exact N2 (List.length_filter_le _ _) (by rw [N7];lia)
     refine ⟨_,rfl,_,rfl,a,_,rfl,hs4.seq hqa,λR hR=>?_⟩;rw [qd];have sR:af H4 (upd H4 R (.lst yr)):=af.new hR;have hRR:(upd H4 R (.lst yr)) R=some (.lst yr):=ab;generalize upd H4 R (.lst yr)=H5 at sR hRR;have hs5:=hs4.trans sR;refine ⟨_,rfl,_,rfl,b,xs,oss,w,rfl,hs5.seq hq,hds.same hs5,λos h=>⟨jL (ho os h).1 (ho os h).2.2,(ho os h).2.1⟩,N2 hwb.1 (by decide),by lia,λB bP H6 hB s6 hB6 dn6=>?_⟩;have hs6:=hs5.trans s6;have hb6:=vq (oss:=oss) (w:=w) λos h=>(ho os h).1;have hbl:∀ os∈aN oss w,os.length<=12:=λos h=>by
      unfold aN at h;obtain ⟨o1,h1,rfl⟩:=N5.mp h;have h2:=(ho o1 (List.mem_filter.mp h1).1).2.2;rw [List.length_tail];lia
     have Nl:bP.length<=9:=by
      rw [dn6.length,NU];exact N2 (lL oss w) h9
     refine ⟨.ref R,B,bP,ps,aN oss w,rfl,.lst (.of (s6 _ _ hRR)) (hdr.same hs6),.of hB6,dn6.same cg,jL hps (by lia),λos h=>jL (hb6 os h) (hbl os h),by lia,λH7 s7=>⟨_,rfl,?_⟩⟩;have et:(l.take (i+1)).filter (λw=>!aB ps (aN oss w))=(l.take i).filter (λw=>!aB ps (aN oss w))++[w].filter (λw=>!aB ps (aN oss w)):=by rw [List.take_add_one,hw,<-List.filter_append];rfl
     have hF7:=s7 _ _ (s6 _ _ (sR _ _ hFx));cases hnw:aB ps (aN oss w) with
     | false=>
      refine bF ⟨_,rfl,_,hF7,small (by lia),_,ab,⟨_,rfl⟩,aq hF (s4.trans ((sR.trans s6).trans s7)),?_⟩;rw [et,List.filter_cons_of_pos (by rw [hnw];rfl),N8];rfl
     | true=>
      refine bg ⟨_,hF7,⟨_,rfl⟩,s4.trans ((sR.trans s6).trans s7),?_⟩;rw [et,List.filter_cons_of_neg (by rw [hnw];decide)];simp
    ·obtain ⟨_,s4,rfl⟩:=q;rw [NU,NZ (NX _)] at hFx;have hs4:af H H4:=hs3.trans s4;generalize hfs:l.filter (λw=>!aB ps (aN oss w))=fs at hFx;have hfm:∀ w∈fs,w∈l/\aB ps (aN oss w)=false:=λw hw=>by
      rw [<-hfs] at hw;obtain ⟨h1,h2⟩:=List.mem_filter.mp hw;exact ⟨h1,by simpa using h2⟩
     have hfn:∀ w∈l,aB ps (aN oss w)=false->w∈fs:=λw hw hn=>by
      rw [<-hfs];exact List.mem_filter.mpr ⟨hw,by rw [hn];rfl⟩
     obtain ⟨ws,hw1,hw2⟩:=cover hpw (λos h=>(ho os h).1) hnd;have Lj:fs≠[]:=by
      cases ws with
      | nil=>rw [o5] at hw1;cases hw1
      | cons y yt=>
       rw [c8,Oa] at hw1;rw [gM _ _ _ λos h=>(ho os h).2.1] at hw2;obtain ⟨x,hx,hn,_⟩:=yH hp hne hc hw1.1 (jY hps hw1.2 hw2);intro e;have:=hfn x hx hn;rw [e] at this;cases this
     refine ⟨_,rfl,?_⟩;refine zi (kds:=fs.map wkD) (Sh.ok v3) (.of hFx) (by intro e;exact Lj (List.map_eq_nil_iff.mp e)) (by rw [NU,NU]) (λd hd=>?_) (λm x d H6 Q6 hx hd s6 kk=>?_) (λH6 s6=>?_)
     ·obtain ⟨w,_,rfl⟩:=N5.mp hd;exact ⟨o9 w,N2 (Ee w) (by decide)⟩
     ·obtain ⟨w,hw,rfl⟩:=cY hx;rw [N1,hw] at hd;cases hd;have hwb:=(hbd w (hfm w (NV hw)).1).1;exact ⟨w,rfl,N2 hwb.1 (by decide),λp hp=>kk _ _ (af.new hp) (.tup (.of ab) (.cons (.int _) (.cons (.str hwb.2) .nil)))⟩
     ·obtain ⟨d,hd1,hd2,_⟩:=jT (Sh.ok v3) (all:=fs.map wkD) (λd hd=>by obtain ⟨w,_,rfl⟩:=N5.mp hd;exact o9 w) (by intro e;exact Lj (List.map_eq_nil_iff.mp e));rw [N1] at hd1;cases e:fs[bz (fs.map wkD)]? with
      | none=>rw [e] at hd1;cases hd1
      | some w=>
       rw [e] at hd1;cases hd1;have eg:(fs.map V.str).getD (bz (fs.map wkD)) .non = .str w:=by
        rw [N9,N1,e];rfl
       rw [eg];have hwm:=hfm w (NV e);refine k w H6 (hs4.trans s6) ⟨(hbd w hwm.1).2,hwm.2,λy ty ny=>?_,(hbd w hwm.1).1⟩;obtain ⟨x,hx,hn,hle⟩:=yH hp hne hc ty ny;obtain ⟨j,hj⟩:=List.getElem?_of_mem (hfn x hx hn);have:=hd2 j (wkD x) (by rw [N1,hj];rfl);exact Cf hle this
structure Jr (K:PySem.W.Frag) (ps:List Pt) (oss:List (List Pt)) (W:Addr) (H0 H:Hp) (R:V) (L:Addr) (rest:List Pt) (left:List (List Pt)) (done:List Str):Prop where
 same:af H0 H
 dn:H W=some (.lst (done.map V.str))
 rd:Den K (wo W H) R (be rest)
 ld:∃ xs,SqL K (wo W H) L xs/\aI K (wo W H) xs (left.map be)
 pw:PW rest
 ow:∀ os∈left,PW os/\os.length=rest.length
 few:left.length<=9
 nd:aB rest left=false
 len:done.length+rest.length=ps.length
 bd:∀ w∈done,Bd w
 lp:∀ ws,LP rest left ws->LP ps oss (done++ws)
theorem bt:aA ["pattern","others","rest","left","words","word"] ["pattern","others"] (ag (top 42)):=⟨rfl,rfl,rfl,by decide +kernel,rfl,by decide +kernel,by decide +kernel⟩
set_option maxHeartbeats 8000000 in
theorem nt (T:Tx K mg A):au P w K mg base CX0 8 A.fu A.fm ["pattern","others"] (g7 K):=by
 have dN:au P w K mg base CX0 7 A.dU A.dY ["pattern","others"] (fk K):=(ik T).mono (by decide);have oU:au P w K mg base CX0 7 A.fe A.eW ["pattern","others"] (ie K):=(nI T).mono (by decide);have sm:au P w K mg base CX0 7 A.oE A.pB ["patterns","word"] (pU K):=(uP T).mono (by decide);refine T.d5.fn.ok bt (λvs H Q E h=>?_) (λcdv Ar outer s H vs Q E hr h=>?_)
 ·obtain ⟨u,b,xs,ps,oss,rfl,_⟩:=h;rfl
 ·obtain ⟨u,b,xs,ps,oss,rfl,hu,hq,hds,hpw,hne,h12,ho,h9,k0,k⟩:=h;have hxl:xs.length=oss.length:=by rw [hds.length,NU]
  have Az:=jL hpw h12;have Mm:∀ os∈oss,POk os:=λos h=>jL (ho os h).1 (ho os h).2.2;refine ⟨_,ah (bj (bi (ak dN hr (by rfl) T.bT.mg T.bT.fn.kp T.bT.bd .nil av (aa (pv 0) (aa (pv 1) (ae))))) (aj (ar (lj))) (aG))
   (ah (a9 (i:=2) bt.nd rfl (Or.inl rfl) (pv 0))
   (ah (gL (i:=3) (N':=["other","pattern"]) (n:=1) (fi:=[0]) (g:=aY 0) bt.nd rfl (Or.inl rfl) rfl (aU (ag (top 42)) ["pattern","others","rest","left","words","word"] (by decide +kernel)) (aP (pv 1)) (λs H fp=>aw (i:=0) (show (["other","pattern"]:List Str).Nodup by decide +kernel) rfl (Or.inl rfl) (.inr rfl)) (λs H fp=>dO (aR (fA) (aK (r:=cD K) aS (by rfl) T.cq PySem.boot_len (aa (pv 0) (ae))) (aK (r:=cD K) aS (by rfl) T.cq PySem.boot_len (aa (pv 1) (ae))) (aQ _))) (λs H fp=>pv 0))
   (ah (a9 (i:=4) bt.nd rfl (Or.inl rfl) (bQ (ae)))
   (ah (xT PassesOwn.never (Fs (pv 2) (λ_=>rfl)) (ah (a9 (i:=5) bt.nd rfl (Or.inl rfl) (ak oU hr (by rfl) T.d4.mg T.d4.fn.kp T.d4.bd .nil av (aa (pv 2) (aa (pv 3) (ae)))))
   (ah (iX (c5 PySem.F.plainAttrs_list PySem.F.slot_list_append PySem.F.type_list_append eM (pv 4) (aa (pv 5) (ae))))
   (ah (a9 (i:=2) bt.nd rfl (Or.inl rfl) (dP (r:=uz K) gB (pv 2) (eT (ap)) (gF)))
   (aj (a9 (i:=3) bt.nd rfl (Or.inl rfl) (ak sm hr (by rfl) T.behind.mg T.behind.fn.kp T.behind.bd .nil av (aa (pv 3) (aa (pv 5) (ae))))))))))
   (aj (ar (c5 (r:=rJoin K) PySem.F.plainAttrs_str PySem.F.slot_str_join PySem.F.type_str_join my (aH) (aa (pv 4) (ae))))))))),?_⟩
  refine ⟨_,rfl,_,rfl,u,b,xs,ps,oss,rfl,hu,hq,hds,Az,Mm,by lia,λH1 s1=>⟨_,rfl,?_⟩⟩;cases hnd:aB ps oss with
  | true=>exact bF (k0 hnd H1 s1)
  | false=>
   refine bg ⟨_,rfl,?_⟩;obtain ⟨a,ys,eu,hqa,hda⟩:=bR hu;have hyl:ys.length=ps.length:=by rw [hda.length,NU]
   refine ⟨_,rfl,b,rfl,⟨_,s1.seq hq⟩,λL hL=>?_⟩;refine aE (K:=K) (xs:=xs) (λi acc σ H2=>(∃ v,σ=[v,some u])/\af H1 H2/\aI K H acc (((oss.take i).filter λos=>decide (os.length=ps.length)).map be)) ab ⟨⟨_,rfl⟩,af.new hL,.nil⟩ (λi acc σ H2 _ _ q=>(s1.trans q.2.1).seq hq) (λi x acc σ H2 hx hLx q=>?_) (λacc σ H2 hLx q=>?_)
   ·obtain ⟨q0,s2,dn⟩:=q;apply cf q0;clear q0;intro v;obtain ⟨os,hoi,hdo⟩:=bO hds hx;have hi:=aF hoi;obtain ⟨c,zs,rfl,hqc,hdc⟩:=bR hdo;have hzl:zs.length=os.length:=by rw [hdc.length,NU]
    have hal:acc.length<=9:=by
     rw [dn.length,NU];exact N2 (List.length_filter_le _ _) (by rw [N7];lia)
    have et:(oss.take (i+1)).filter (λos=>decide (os.length=ps.length))=(oss.take i).filter (λos=>decide (os.length=ps.length))++[os].filter (λos=>decide (os.length=ps.length)):=by rw [List.take_add_one,hoi,<-List.filter_append];rfl
    subst eu;refine ⟨_,rfl,c,zs,rfl,.inl ((s1.trans s2).seq hqc),_,rfl,a,ys,rfl,.inl ((s1.trans s2).seq hqa),rfl,_,rfl,?_⟩;by_cases hl:os.length=ps.length
    ·rw [decide_eq_true (show V.int (zs.length:Int)=V.int (ys.length:Int) by rw [hzl,hyl,hl])];refine bF ⟨_,rfl,acc,hLx,small (by lia),_,ab,⟨_,rfl⟩,aq hL s2,?_⟩;have e2:[os].filter (λos=>decide (os.length=ps.length))=[os]:=by simp [hl]
     rw [et,e2,N8];exact dn.append (.cons hdo .nil)
    ·rw [decide_eq_false (show ¬ V.int (zs.length:Int)=V.int (ys.length:Int) from λq=>hl (by injection q with q;lia))];refine bg ⟨acc,hLx,⟨_,rfl⟩,s2,?_⟩;have e2:[os].filter (λos=>decide (os.length=ps.length))=[]:=by simp [hl]
     rw [et,e2,List.append_nil];exact dn
   ·obtain ⟨_,s2,dn⟩:=q;rw [NZ (by lia)] at dn;refine ⟨Nat.zero_le _,λW hW=>?_⟩;have hs2:af H H2:=s1.trans s2;have hLW:L≠W:=ao hLx hW;have hwo:af H2 (wo W (upd H2 W (.lst []))):=iH hW (af.new hW);have start:Jr K ps oss W H2 (upd H2 W (.lst [])) u L ps (oss.filter λos=>decide (os.length=ps.length)) []:=
     ⟨af.new hW,ab,hu.same (hs2.trans hwo),⟨acc,.of (hwo _ _ hLx),dn.same (hs2.trans hwo)⟩,hpw,λos h=>⟨(ho os (List.mem_filter.mp h).1).1,of_decide_eq_true (List.mem_filter.mp h).2⟩,N2 (List.length_filter_le _ _) h9,ux hnd,by simp,(λw hw=>by cases hw),λws h=>by simpa using h.wide⟩
    refine ⟨λm σ H'=>∃ R L' rest left done v,σ=[some u,some (.ref b),some R,some (.ref L'),some (.ref W),v]/\m=rest.length/\Jr K ps oss W H2 H' R L' rest left done,⟨ps.length,u,L,ps,_,[],_,rfl,rfl,start⟩,?_⟩;rintro m σ H' ⟨R,L',rest,left,done,v,rfl,rfl,sk⟩;have hwS:af (wo W H') H':=bG;obtain ⟨c,cs,eR,hqR,hdR⟩:=bR sk.rd;obtain ⟨lx,hqL,hdL⟩:=sk.ld;have NO:done.length+rest.length<=12:=by rw [sk.len];exact h12
    subst eR;cases rest with
    | nil=>
     cases hdR;refine ⟨_,rfl,false,.inl ⟨[],hwS.seq hqR,rfl⟩,bg ?_⟩;have hlp:=sk.lp [] (LP.nil sk.nd λos h=>(sk.ow os h).2);rw [List.append_nil] at hlp;have h1:((" " : Str)).length=1:=rfl;refine ⟨rfl,_,rfl," ",W,done,rfl,rfl,.of sk.dn,gW (m:=500) (λw hw=>(sk.bd w hw).1) (by rw [h1];lia),?_⟩;exact k done H' (hs2.trans sk.same) hlp
    | cons p r=>
     have hrl:(p::r).length=r.length+1:=rfl;refine ⟨_,rfl,true,.inl ⟨cs,hwS.seq hqR,by cases hdR;rfl⟩,bF ?_⟩;refine ⟨λσ' H''=>∃ R L' rest left done v,σ' = [some u,some (.ref b),some R,some (.ref L'),some (.ref W),v]/\rest.length=r.length/\Jr K ps oss W H2 H'' R L' rest left done,λσ' H'' ⟨R,L',rest,left,done,v,e,hr,sk'⟩=>⟨rest.length,by rw [hr,hrl];exact Nat.lt_succ_self _,R,L',rest,left,done,v,e,rfl,sk'⟩,?_⟩;have how:∀ os∈left,PW os/\os≠[]/\os.length<=12:=λos h=>by
      have h1:=sk.ow os h;refine ⟨h1.1,λe=>?_,by lia⟩;rw [e] at h1;cases h1.2
     refine ⟨_,rfl,_,rfl,.ref c,L',lx,p,r,left,rfl,sk.rd.same hwS,hwS.seq hqL,hdL.same hwS,sk.pw,by lia,how,sk.few,sk.nd,λw H4 s4 fw=>?_⟩;have hW4:=s4 _ _ sk.dn;refine ⟨_,rfl,.inl ⟨rfl,_,.of hW4⟩,_,rfl,W,_,_,rfl,rfl,hW4,small (by rw [NU];lia),?_⟩;have hup:af (wo W H') (upd H4 W (.lst (done.map V.str++[.str w]))):=λb o e=>by
      have e1:=gq e;rw [ay e1.1];exact s4 _ _ e1.2
     have hWW:(upd H4 W (.lst (done.map V.str++[.str w]))) W=some (.lst ((done++[w]).map V.str)):=by rw [ab,N8];rfl
     have hs5:af H2 (upd H4 W (.lst (done.map V.str++[.str w]))):=aq hW (sk.same.trans s4);generalize upd H4 W (.lst (done.map V.str++[.str w]))=H5 at hup hWW hs5;cases hdR with
     | cons hd1 hdr=>
      rename_i y1 yr;refine ⟨_,rfl,_,rfl,c,_,rfl,hup.seq hqR,λR2 hR2=>?_⟩;rw [qd];have sR:af H5 (upd H5 R2 (.lst yr)):=af.new hR2;have hRR:(upd H5 R2 (.lst yr)) R2=some (.lst yr):=ab;have hRW:R2≠W:=(ao hWW hR2).symm;generalize upd H5 R2 (.lst yr)=H6 at sR hRR;have IB:=hup.trans sR;refine ⟨_,rfl,_,rfl,L',lx,left,w,rfl,IB.seq hqL,hdL.same IB,λos h=>⟨jL (how os h).1 (how os h).2.2,(how os h).2.1⟩,N2 fw.bd.1 (by decide),by have:=sk.few;have:=hdL.length;rw [NU] at this;lia,λB bP H7 hB s7 hB7 dn7=>?_⟩;have hW7:=s7 _ _ (sR _ _ hWW);have hBW:B≠W:=λe=>by rw [e,sR _ _ hWW] at hB;cases hB
      refine ⟨.ref R2,B,r,aN left w,done++[w],some (.str w),rfl,rfl,?_⟩;have M7:af (wo W H') (wo W H7):=iH d6 (IB.trans s7);refine ⟨hs5.trans (sR.trans s7),hW7,.lst (.of (by rw [aT hRW];exact s7 _ _ hRR)) (hdr.same M7),⟨bP,.of (by rw [aT hBW];exact hB7),dn7.same (wj (sR _ _ hWW))⟩,λx hx=>sk.pw x (NY _ hx),λos h=>⟨vq (λo h=>(sk.ow o h).1) os h,zz (λo h=>(sk.ow o h).2) os h⟩,N2 (lL left w) sk.few,fw.nd,?_,λx hx=>?_,λws h=>?_⟩
      ·have:=sk.len;rw [List.length_append,List.length_singleton];rw [hrl] at this;lia
      ·rcases List.mem_append.mp hx with z | z
       ·exact sk.bd x z
       ·rw [N3.mp z];exact fw.bd
      ·have:=sk.lp (w::ws) (LP.step sk.pw (λos h=>(how os h).2.1) fw h);rw [List.append_assoc];exact this
theorem mP:aA ["patterns","others","lines"] ["patterns","others"] (ag (top 43)):=⟨rfl,rfl,rfl,by decide +kernel,rfl,by decide +kernel,by decide +kernel⟩
set_option maxHeartbeats 8000000 in
theorem ua (T:Tx K mg A):au P w K mg base CX0 9 A.jU A.ka ["patterns","others"] (mN K):=by
 have oM:au P w K mg base CX0 8 A.fu A.fm ["pattern","others"] (g7 K):=(nt T).mono (by decide);refine T.eh.fn.ok mP (λvs H Q E h=>?_) (λcdv Ar outer s H vs Q E hr h=>?_)
 ·obtain ⟨a,b,xs,ys,pss,qss,rfl,_⟩:=h;rfl
 ·obtain ⟨a,b,xs,ys,pss,qss,rfl,hqa,hda,hqb,hdb,hp,hq,hp9,hq9,k⟩:=h;have hxl:xs.length=pss.length:=by rw [hda.length,NU]
  refine ⟨_,ah (gL (i:=2) (N':=["pattern","others"]) (n:=1) (fi:=[1]) (g:=aY 0) mP.nd rfl (Or.inl rfl) rfl (aU (ag (top 43)) ["patterns","others","lines"] (by decide +kernel)) (aP (pv 0)) (λs H fp=>aw (i:=0) (show (["pattern","others"]:List Str).Nodup by decide +kernel) rfl (Or.inl rfl) (.inr rfl)) (λs H fp=>aO) (λs H fp=>ak oM hr (by rfl) T.d5.mg T.d5.fn.kp T.d5.bd .nil av (aa (pv 0) (aa (pv 1) (ae)))))
   (aj (ar (aW (N':=["line"]) (n:=1) (fi:=[]) (g:=aY 0) rfl (aU (ag (top 43)) ["patterns","others","lines"] (by decide +kernel)) (aP (pv 2)) (λs H fp=>aw (i:=0) (show (["line"]:List Str).Nodup by decide +kernel) rfl (Or.inl rfl) (.inr rfl)) (λs H fp=>dO (aR (FL) (pv 0) (lj) (aQ _))) (λs H fp=>pv 0)))),?_⟩
  refine ⟨_,rfl,a,rfl,⟨_,hqa⟩,λD hD=>?_⟩;refine aE (K:=K) (xs:=xs) (λi acc σ H2=>(∃ v,σ=[v,some (.ref b)])/\af H H2/\∃ os:List (Option (List Str)),acc=os.map oS/\os.length=i/\∀ (j:Nat) ps o,pss[j]? = some ps->os[j]? = some o->(o=none/\aB ps qss=true)\/∃ ws,o=some ws/\LP ps qss ws) ab ⟨⟨_,rfl⟩,af.new hD,[],rfl,rfl,λj ps o _ hj=>by simp at hj⟩ (λi acc σ H2 _ _ q=>q.2.1.seq hqa) (λi x acc σ H2 hx hDx q=>?_) (λacc σ H2 hDx q=>?_)
  ·obtain ⟨q0,s2,os,rfl,hol,hos⟩:=q;apply cf q0;clear q0;intro v;obtain ⟨ps,hpi,hdp⟩:=bO hda hx;have hi:=aF hpi;obtain ⟨w1,w2,w3⟩:=hp ps (NV hpi);have nxt:∀ (o:Option (List Str)),((o=none/\aB ps qss=true)\/∃ ws,o=some ws/\LP ps qss ws)->∀ (j:Nat) ps' o',pss[j]? = some ps'->(os++[o])[j]? = some o'->(o' = none/\aB ps' qss=true)\/∃ ws,o' = some ws/\LP ps' qss ws:=λo ho j ps' o' h1 h2=>by
    rcases Nat.lt_or_ge j os.length with z | z
    ·rw [List.getElem?_append_left z] at h2;exact hos j ps' o' h1 h2
    ·rw [List.getElem?_append_right z] at h2;have:j - os.length=0:=by
      have:=aF h2;simp at this;lia
     rw [this] at h2;cases h2;have:j=i:=by lia
     subst this;rw [hpi] at h1;cases h1;exact ho
   refine bM ⟨_,rfl,_,rfl,x,b,ys,ps,qss,rfl,hdp.same s2,s2.seq hqb,hdb.same s2,w1,w2,w3,hq,hq9,λhn H4 s4=>?_,λws H4 s4 hlp=>?_⟩
   ·exact ⟨_,s4 _ _ hDx,small (by rw [NU];lia),_,ab,⟨_,rfl⟩,aq hD (s2.trans s4),os++[none],by simp [oS],by simp [hol],nxt none (.inl ⟨rfl,hn⟩)⟩
   ·exact ⟨_,s4 _ _ hDx,small (by rw [NU];lia),_,ab,⟨_,rfl⟩,aq hD (s2.trans s4),os++[some ws],by simp [oS,lnV],by simp [hol],nxt (some ws) (.inr ⟨ws,rfl,hlp⟩)⟩
  ·obtain ⟨_,s2,os,rfl,hol,hos⟩:=q;refine ⟨_,rfl,D,rfl,⟨_,.of hDx⟩,λF hF=>?_⟩;refine aE (K:=K) (xs:=os.map oS) (λi acc σ H4=>(∃ v,σ=[v])/\af H2 H4/\acc=((os.take i).filterMap id).map lnV) ab ⟨⟨_,rfl⟩,af.new hF,rfl⟩ (λi acc σ H4 _ _ q=>.of (q.2.1 _ _ hDx)) (λi x acc σ H4 hx hFx q=>?_) (λacc σ H4 hFx q=>?_)
   ·obtain ⟨q0,s4,rfl⟩:=q;apply cf q0;clear q0;intro v;rw [N1] at hx;cases e:os[i]? with
    | none=>rw [e] at hx;cases hx
    | some o=>
     rw [e] at hx;cases hx;have hi:=aF e;have hal:(((os.take i).filterMap id).map lnV).length<=9:=by
      rw [NU];exact N2 (List.length_filterMap_le _ _) (by rw [N7];lia)
     have et:(os.take (i+1)).filterMap id=(os.take i).filterMap id++[o].filterMap id:=by rw [List.take_add_one,e,<-List.filterMap_append];rfl
     cases o with
     | none=>
      refine ⟨_,rfl,rfl,_,rfl,?_⟩;refine bg ⟨_,hFx,⟨_,rfl⟩,s4,?_⟩;rw [et];simp
     | some ws=>
      refine ⟨_,rfl,rfl,_,rfl,?_⟩;refine bF ⟨_,rfl,_,hFx,small (by lia),_,ab,⟨_,rfl⟩,aq hF s4,?_⟩;rw [et,N8];rfl
   ·obtain ⟨_,s4,rfl⟩:=q;rw [NU,NZ (NX _)] at hFx;have NA:os.length=pss.length:=by rw [hol,hxl]
    refine k F H4 _ (s2.free hF) (s2.trans s4) hFx ⟨λws hw=>?_,λps hps=>?_⟩ (N2 (List.length_filterMap_le _ _) (by lia))
    ·obtain ⟨o,ho,he⟩:=List.mem_filterMap.mp hw;have he':o=some ws:=he;subst he';obtain ⟨j,hj⟩:=List.getElem?_of_mem ho;have hjl:=aF hj;have hpj:pss[j]? = some pss[j]:=NW (by lia);rcases hos j _ _ hpj hj with ⟨z,_⟩ | ⟨ws',z,hlp⟩
     ·cases z
     ·cases z;exact ⟨_,NV hpj,hlp⟩
    ·obtain ⟨j,hj⟩:=List.getElem?_of_mem hps;have hjl:=aF hj;have hoj:os[j]? = some os[j]:=NW (by lia);rcases hos j _ _ hj hoj with ⟨_,z⟩ | ⟨ws',z,hlp⟩
     ·exact .inl z
     ·exact .inr ⟨ws',List.mem_filterMap.mpr ⟨_,NV hoj,z⟩,hlp⟩
theorem xD {pss qss:List (List Pt)}{L:List (List Str)} (hp:jz pss) (h:e7 pss qss L):∀ ws∈L,Words ws/\(∀ w∈ws,Bd w)/\ws≠[]/\ws.length<=12:=λws hw=>by
 obtain ⟨ps,m1,m2⟩:=h.of ws hw;obtain ⟨r1,r2,r3⟩:=hp ps m1;have hl:=ee m2.tk;exact ⟨lI r1 m2.tk,m2.bd,λe=>r2 (List.eq_nil_of_length_eq_zero (by rw [hl,e];rfl)),by lia⟩
theorem Aq {w:Str} (h:bW w=true):32∉w.cps.toList:=λq=>by
 unfold bW cA at h;rw [Oa,List.all_eq_true] at h;have:=h.2 32 q;rw [r9] at this;cases this
theorem Gx {ws:List Str} (hw:Words ws) (hb:∀ w∈ws,Bd w) (hne:ws≠[]) (hl:ws.length<=12):Txt.split (Txt.join " " ws) " " = ws/\PyData.strOk (Txt.join " " ws)=true/\LOk (Txt.join " " ws):=by
 have hj:=n5 (y:= " ") (m:=500) (by decide +kernel) (λw h=>⟨(hb w h).2,(hb w h).1⟩);have h1:((" " : Str)).length=1:=rfl;rw [h1] at hj;refine ⟨nC hne λw h=>Aq (hw w h),hj.1,?_⟩;show (Txt.join " " ws).length<=10000;have:ws.length * (500+1)<=12 * 501:=Nat.mul_le_mul hl (NX _);lia
theorem rA:aA ["one","other"] ["one","other"] (ag (top 44)):=⟨rfl,rfl,rfl,by decide +kernel,rfl,by decide +kernel,by decide +kernel⟩
set_option maxHeartbeats 8000000 in
theorem rh (T:Tx K mg A):au P w K mg base CX0 10 A.ic A.iu ["one","other"] (kI K):=by
 have lu:au P w K mg base CX0 8 A.jN A.km ["line"] (lC K):=(qP T).mono (by decide);have pG:au P w K mg base CX0 9 A.jU A.ka ["patterns","others"] (mN K):=(ua T).mono (by decide);refine T.gC.fn.ok rA (λvs H Q E h=>?_) (λcdv Ar outer s H vs Q E hr h=>?_)
 ·obtain ⟨a,b,xs,ys,pss,qss,rfl,_⟩:=h;rfl
 ·obtain ⟨a,b,xs,ys,pss,qss,rfl,hqa,hda,hqb,hdb,hp,hq,hp9,hq9,k⟩:=h;refine ⟨_,aj (ar (AK lu hr T.lG.bd rfl (by rfl) T.Bb (by rfl) T.lG.mg (aa (bX (r:=vH K) oX (ak pG hr (by rfl) T.eh.mg T.eh.fn.kp T.eh.bd .nil av (aa (pv 0) (aa (pv 1) (ae)))) (ak pG hr (by rfl) T.eh.mg T.eh.fn.kp T.eh.bd .nil av (aa (pv 1) (aa (pv 0) (ae))))) (ae)))),?_⟩;refine ⟨_,rfl,_,rfl,a,b,xs,ys,pss,qss,rfl,hqa,hda,hqb,hdb,hp,hq,hp9,hq9,λD H1 L hD s1 hD1 hL hL9=>?_⟩;refine ⟨_,rfl,_,rfl,b,a,ys,xs,qss,pss,rfl,s1.seq hqb,hdb.same s1,s1.seq hqa,hda.same s1,hq,hp,hq9,hp9,λF H2 M hF s2 hF2 hM hM9=>?_⟩;refine ⟨D,F,_,_,rfl,rfl,.of (s2 _ _ hD1),.of hF2,by rw [NU,NU];exact N2 (Nat.add_le_add hL9 hM9) (by decide),λG hG=>?_⟩;have sG:af H2 (upd H2 G (.lst (L.map lnV++M.map lnV))):=af.new hG;have hGG:(upd H2 G (.lst (L.map lnV++M.map lnV))) G=some (.lst ((L++M).map lnV)):=by rw [ab,N8]
  generalize upd H2 G (.lst (L.map lnV++M.map lnV))=H3 at sG hGG;have hs:af H H3:=(s1.trans s2).trans sG;have hok:∀ ws∈L++M,Words ws/\(∀ w∈ws,Bd w)/\ws≠[]/\ws.length<=12:=λws hw=>by
   rcases List.mem_append.mp hw with z | z
   ·exact xD hp hL ws z
   ·exact xD hq hM ws z
  refine ⟨_,rfl,?_⟩;refine qc (kds:=(L++M).map lkD) (Sh.ok Ge) (.of hGG) (by rw [NU,NU]) (λd hd=>?_) (λm x d H6 Q6 hx hd s6 kk=>?_) (λE9=>?_) (λhnn H6 s6=>?_)
  ·obtain ⟨ws,_,rfl⟩:=N5.mp hd;exact ⟨uZ ws,Fj ws⟩
  ·rw [N1] at hx hd;cases e:(L++M)[m]? with
   | none=>rw [e] at hx;cases hx
   | some ws=>
    rw [e] at hx hd;cases hx;cases hd;obtain ⟨o1,o2,o3,o4⟩:=hok ws (NV e);obtain ⟨l1,l2,l3⟩:=Gx o1 o2 o3 o4;refine ⟨_,rfl,l3,l2,λr H7 s7 dr=>kk r H7 s7 ?_⟩;rw [l1] at dr;exact dr
  ·have HF:L++M=[]:=List.map_eq_nil_iff.mp E9;have e1:L=[]:=(List.append_eq_nil_iff.mp HF).1;have e2:M=[]:=(List.append_eq_nil_iff.mp HF).2;subst e1 e2;exact k none H3 hs (parts_nil hp hq hL hM)
  ·have hne:L++M≠[]:=λe=>hnn (by rw [e];rfl);obtain ⟨d,hd1,hd2,_⟩:=jT (Sh.ok Ge) (all:=(L++M).map lkD) (λd hd=>by obtain ⟨w,_,rfl⟩:=N5.mp hd;exact uZ w) (by intro e;exact hne (List.map_eq_nil_iff.mp e));rw [N1] at hd1;cases e:(L++M)[bz ((L++M).map lkD)]? with
   | none=>rw [e] at hd1;cases hd1
   | some ws=>
    rw [e] at hd1;cases hd1;have eg:((L++M).map lnV).getD (bz ((L++M).map lkD)) .non=lnV ws:=by
     rw [N9,N1,e];rfl
    rw [eg];refine k (some ws) H6 (hs.trans s6) (AA hp hq hL hM (NV e) λvs hv=>?_);obtain ⟨j,hj⟩:=List.getElem?_of_mem hv;exact hd2 j (lkD vs) (by rw [N1,hj];rfl)
theorem GP {n:Nat}{l:List (List Pt)} (h:n<l.length):i4 (n+1) l=if aB (l.getD n []) (l.take n++l.drop (n+1))=true then i4 n (l.take n++l.drop (n+1)) else i4 n l:=rfl
theorem pV {K:PySem.W.Frag}{H:Hp}:∀ (n:Nat) {xs:List V}{ds:List PyData},aI K H xs ds->aI K H (xs.drop n) (ds.drop n)
 | 0,_,_,h=>h
 | _+1,_,_,.nil=>.nil
 | n+1,_,_,.cons _ t=>pV n t
theorem bN:aA ["patterns","kept","place","others"] ["patterns"] (ag (top 45)):=⟨rfl,rfl,rfl,by decide +kernel,rfl,by decide +kernel,by decide +kernel⟩
set_option maxHeartbeats 8000000 in
theorem mI (T:Tx K mg A):au P w K mg base CX0 7 A.eE A.d8 ["patterns"] (gw K):=by
 have eH:au P w K mg base CX0 6 A.gX A.gY ["patterns"] (g9 K):=(kE T).mono (by decide);have dN:au P w K mg base CX0 6 A.dU A.dY ["pattern","others"] (fk K):=(ik T).mono (by decide);refine T.dq.fn.ok bN (λvs H Q E h=>?_) (λcdv Ar outer s H vs Q E hr h=>?_)
 ·obtain ⟨a,xs,pss,rfl,_⟩:=h;rfl
 ·obtain ⟨a,xs,pss,rfl,hq,hds,hp,h9,k⟩:=h;have hxl:xs.length=pss.length:=by rw [hds.length,NU]
  refine ⟨_,ah (a9 (i:=1) bN.nd rfl (Or.inl rfl) (ak eH hr (by rfl) T.ordered.mg T.ordered.fn.kp T.ordered.bd .nil av (aa (pv 0) (ae))))
   (ah (fP PassesOwn.never rfl (GI (by rfl) T.An (by rfl) T.gT (aa (aK (r:=cD K) aS (by rfl) T.cq PySem.boot_len (aa (pv 1) (ae))) (ae))) (aw (i:=2) bN.nd rfl (Or.inl rfl)) (ah (a9 (i:=3) bN.nd rfl (Or.inl rfl) (bX (r:=vH K) oX (dP (r:=uz K) gB (pv 1) (gF) (eT (pv 2))) (dP (r:=uz K) gB (pv 1) (eT (bX jM (pv 2) (ap))) (gF))))
   (aj (bj (bi (ak dN hr (by rfl) T.bT.mg T.bT.fn.kp T.bT.bd .nil av (aa (ba (r:=c9 K) aX (pv 1) (pv 2) (λ_ _=>rfl)) (aa (pv 3) (ae))))) (aj (a9 (i:=1) bN.nd rfl (Or.inl rfl) (pv 3))) (aG)))))
   (aj (ar (pv 1)))),?_⟩
  refine ⟨_,rfl,a,xs,pss,rfl,hq,by lia,hds,λps h=>jL (hp ps h).1 (hp ps h).2.2,λD acc H1 l hD s1 hD1 a7 gu fr hnD dn=>?_⟩;have hpl:∀ ps∈l,POk ps:=λps h=>jL (hp ps (a7.mem_iff.mp h)).1 (hp ps (a7.mem_iff.mp h)).2.2;have hll:l.length=pss.length:=a7.length_eq;have hal:acc.length=l.length:=by rw [dn.length,NU]
  refine ⟨_,rfl,D,_,rfl,.inl (.of hD1),l.length,by rw [hal],Nat.lt_of_le_of_lt (show l.length<=9 by lia) (by decide),?_⟩;refine CU (n:=l.length) (λi σ H2=>∃ (E:Addr) (cB:List V) (l':List (List Pt)) (u v:Option V),σ=[some (.ref a),some (.ref E),u,v]/\af H1 H2/\H E=none/\H2 E=some (.lst cB)/\(∀ x∈cB,x∈acc)/\(∀ x∈cB,x ≠ .ref E)/\aI K (lim H H2) cB (l'.map be)/\(∀ ps∈l',ps∈l)/\l.length - i<=l'.length/\l'.length<=9/\i4 (l.length - i) l' = i4 l.length l)
   ⟨D,acc,l,_,_,rfl,af.refl _,hD,hD1,λx h=>h,hnD,dn,λps h=>h,by lia,by lia,rfl⟩ (λi σ H2 hi q=>?_) (λσ H2 q=>?_)
  ·obtain ⟨E,cB,l',u,v,rfl,s2,hE,hE2,iD,hnE,dn',hl',hn1,hn2,hw⟩:=q;obtain ⟨n,hn⟩:∃ n:Nat,l.length - i=n+1:=⟨l.length - i - 1,by lia⟩;have hpn:((l.length:Int) - 1 - (i:Int))=(n:Int):=by lia
   have NC:cB.length=l'.length:=by rw [dn'.length,NU]
   rw [hn] at hw hn1;rw [hpn];have hnl:n<l'.length:=hn1;refine ⟨_,rfl,_,rfl,_,rfl,E,_,rfl,.of hE2,λA1 hA1=>?_⟩;rw [oA (Int.natCast_nonneg n),Int.toNat_natCast];have sA:af H2 (upd H2 A1 (.lst (cB.take n))):=af.new hA1;have hAA:(upd H2 A1 (.lst (cB.take n))) A1=some (.lst (cB.take n)):=ab;generalize upd H2 A1 (.lst (cB.take n))=H3 at sA hAA;refine ⟨_,rfl,_,rfl,_,_,rfl,rfl,_,rfl,E,_,rfl,.of (sA _ _ hE2),λB1 hB1=>?_⟩;have ec:jD cB (some ((n:Int)+1)) none=cB.drop (n+1):=xI (n+1);rw [ec];have sB:af H3 (upd H3 B1 (.lst (cB.drop (n+1)))):=af.new hB1;have hBB:(upd H3 B1 (.lst (cB.drop (n+1)))) B1=some (.lst (cB.drop (n+1))):=ab;generalize upd H3 B1 (.lst (cB.drop (n+1)))=H4 at sB hBB;refine ⟨A1,B1,_,_,rfl,rfl,.of (sB _ _ hAA),.of hBB,N2 (show (cB.take n).length+(cB.drop (n+1)).length<=18 by rw [N7,List.length_drop];lia) (by decide),λC hC=>?_⟩;have sC:af H4 (upd H4 C (.lst (cB.take n++cB.drop (n+1)))):=af.new hC;have hCC:(upd H4 C (.lst (cB.take n++cB.drop (n+1)))) C=some (.lst (cB.take n++cB.drop (n+1))):=ab;generalize upd H4 C (.lst (cB.take n++cB.drop (n+1)))=H5 at sC hCC;have s5:af H2 H5:=(sA.trans sB).trans sC;have dn5:aI K (lim H H5) cB (l'.map be):=dn'.same (c7 s5);have dnx:aI K (lim H H5) (cB.take n++cB.drop (n+1)) ((l'.take n++l'.drop (n+1)).map be):=by
    rw [N8,List.map_take,List.map_drop];exact (p9 n dn5).append (pV (n+1) dn5)
   have Kj:(l'.take n++l'.drop (n+1)).length=l'.length - 1:=by rw [List.length_append,N7,List.length_drop];lia
   have Nq:(cB.take n++cB.drop (n+1)).length<=9:=by rw [List.length_append,N7,List.length_drop];lia
   have hx:cB[n]? = some cB[n]:=NW (by lia);obtain ⟨ps,hps,hdp⟩:=bO dn5 hx;have xS:∀ ps∈l'.take n++l'.drop (n+1),ps∈l:=λps h=>by
    rcases List.mem_append.mp h with z | z
    ·exact hl' ps (List.mem_of_mem_take z)
    ·exact hl' ps (List.mem_of_mem_drop z)
   have hCE:(H C)=none:=((s1.trans s2).trans (sA.trans sB)).free hC;refine ⟨_,rfl,_,rfl,E,cB,n,_,rfl,rfl,.of (s5 _ _ hE2),bA hx,_,rfl,_,C,_,ps,l'.take n++l'.drop (n+1),rfl,hdp.same cg,.of hCC,dnx.same cg,hpl ps (hl' ps (NV hps)),λos h=>hpl os (xS os h),by lia,λH6 s6=>⟨_,rfl,?_⟩⟩;have egd:l'.getD n []=ps:=by rw [N9,hps];rfl
   have hw':(if aB ps (l'.take n++l'.drop (n+1))=true then i4 n (l'.take n++l'.drop (n+1)) else i4 n l')=i4 l.length l:=by
    rw [<-hw,GP hnl,egd]
   have hni:l.length - (i+1)=n:=by lia
   cases hnd:aB ps (l'.take n++l'.drop (n+1)) with
   | true=>
    rw [hnd,if_pos rfl] at hw';refine bF ⟨_,rfl,?_⟩;refine ⟨C,_,_,_,_,rfl,s2.trans (s5.trans s6),hCE,s6 _ _ hCC,λx h=>?_,λx h=>?_,dnx.same (c7 s6),xS,by rw [hni,Kj];lia,by lia,by rw [hni];exact hw'⟩
    ·rcases List.mem_append.mp h with z | z
     ·exact iD x (List.mem_of_mem_take z)
     ·exact iD x (List.mem_of_mem_drop z)
    ·obtain ⟨t,ys,rfl,_,ht2,_⟩:=fr x (by
      rcases List.mem_append.mp h with z | z
      ·exact iD x (List.mem_of_mem_take z)
      ·exact iD x (List.mem_of_mem_drop z))
     intro e;cases e;have:=(s2.trans (sA.trans sB)) _ _ ht2;rw [hC] at this;cases this
   | false=>
    rw [hnd,if_neg N6] at hw';refine bg ⟨E,cB,l',_,_,rfl,s2.trans (s5.trans s6),hE,s6 _ _ (s5 _ _ hE2),iD,hnE,dn5.same (c7 s6),hl',by rw [hni];lia,hn2,by rw [hni];exact hw'⟩
  ·obtain ⟨E,cB,l',u,v,rfl,s2,hE,hE2,iD,hnE,dn',hl',hn1,hn2,hw⟩:=q;rw [Nat.sub_self] at hw;have hw':l' = i4 l.length l:=hw;refine ⟨_,rfl,?_⟩;refine k E cB H2 l hE (s1.trans s2) hE2 a7 gu (λx h=>?_) hnE ?_
   ·obtain ⟨t,ys,e,h1,h2,h3⟩:=fr x (iD x h);exact ⟨t,ys,e,h1,s2 _ _ h2,h3⟩
   ·rw [<-hw'];exact dn'
theorem yM {K:PySem.W.Frag}{H:Hp}:∀ {os:List (Option Pt)}{xs:List V},aI K H xs (os.map ptO)->(os.all Option.isSome)=true->aI K H xs ((os.map λo=>o.getD (.hole 2)).map Pt.dat)
 | [],_,h,_=>by cases h;exact .nil
 | none::r,_,_,h=>by cases h
 | some p::r,_,h,ha=>by
  cases h with
  | cons h1 t=>exact .cons h1 (yM t (by simpa using ha))
theorem DS {K:PySem.W.Frag}{H:Hp}{x:V}{o:Option Pt} (h:Den K H x (ptO o)):decide (x = .non)=o.isNone:=by
 cases o with
 | none=>cases h;rfl
 | some p=>
  cases p <;> (cases h;exact decide_eq_false (by intro e;cases e))
theorem Je {K:PySem.W.Frag}{H:Hp}{D:Addr}{ys:List V}{x:V}{o:Option Pt} (hD:H D=some (.lst ys)) (h:Den K H x (ptO o)):Den K (wo D H) x (ptO o):=by
 cases o with
 | none=>cases h;exact .non
 | some p=>
  have h':Den K H x p.dat:=h;have:=Eo (af.refl H) (af.refl H) h';exact this.same (wj hD)
theorem yO:aA ["one","other"] ["one","other"] (ag (top 31)):=⟨rfl,rfl,rfl,by decide +kernel,rfl,by decide +kernel,by decide +kernel⟩
set_option maxHeartbeats 8000000 in
theorem yY (T:Tx K mg A):au P w K mg base CX0 5 A.ng A.mV ["one","other"] (qQ K):=by
 have df:au P w K mg base CX0 4 A.dB A.du ["one","other"] (fo K):=(iE T).mono (by decide);refine T.oN.fn.ok yO (λvs H Q E h=>?_) (λcdv Ar outer s H vs Q E hr h=>?_)
 ·obtain ⟨u,v,p,q,rfl,_⟩:=h;rfl
 ·obtain ⟨u,v,p,q,rfl,hu,hv,hp,hq,k⟩:=h;refine ⟨_,ah (bj (bi (ak df hr (by rfl) T.br.mg T.br.fn.kp T.br.bd .nil av (aa (pv 0) (aa (pv 1) (ae))))) (aj (ar (pv 0))) (aG))
   (ah (bj (bi (ak df hr (by rfl) T.br.mg T.br.fn.kp T.br.bd .nil av (aa (pv 1) (aa (pv 0) (ae))))) (aj (ar (pv 1))) (aG))
   (aj (ar (lj)))),?_⟩
  refine ⟨_,rfl,_,rfl,u,v,p,q,rfl,hu,hv,hp,hq,λH1 s1=>⟨_,rfl,?_⟩⟩;cases h1:p.within q with
  | true=>
   refine bF ⟨_,rfl,k u H1 s1 ?_⟩;have e:jl p q=some p:=by unfold jl;rw [if_pos h1]
   rw [e];exact hu.same s1
  | false=>
   refine bg ?_;refine ⟨_,rfl,_,rfl,v,u,q,p,rfl,hv.same s1,hu.same s1,hq,hp,λH2 s2=>⟨_,rfl,?_⟩⟩;cases h2:q.within p with
   | true=>
    refine bF ⟨_,rfl,k v H2 (s1.trans s2) ?_⟩;have e:jl p q=some q:=by unfold jl;rw [if_neg (by rw [h1];decide),if_pos h2]
    rw [e];exact hv.same (s1.trans s2)
   | false=>
    refine bg (k .non H2 (s1.trans s2) ?_);have e:jl p q=none:=by unfold jl;rw [if_neg (by rw [h1];decide),if_neg (by rw [h2];decide)]
    rw [e];exact .non
theorem EJ:aA ["one","other","parts"] ["one","other"] (ag (top 32)):=⟨rfl,rfl,rfl,by decide +kernel,rfl,by decide +kernel,by decide +kernel⟩
set_option maxHeartbeats 8000000 in
theorem JG (T:Tx K mg A):au P w K mg base CX0 6 A.Ed A.Em ["one","other"] (CT K):=by
 have zO:au P w K mg base CX0 5 A.ng A.mV ["one","other"] (qQ K):=(yY T).mono (by decide);refine T.met.fn.ok EJ (λvs H Q E h=>?_) (λcdv Ar outer s H vs Q E hr h=>?_)
 ·obtain ⟨u,v,ps,qs,rfl,_⟩:=h;rfl
 ·obtain ⟨u,v,ps,qs,rfl,hu,hv,hp,hq,k⟩:=h;obtain ⟨a,xs,eu,hqa,hda⟩:=bR hu;obtain ⟨b,ys,ev,hqb,hdb⟩:=bR hv;have hxl:xs.length=ps.length:=by rw [hda.length,NU]
  have hyl:ys.length=qs.length:=by rw [hdb.length,NU]
  have hpl:=hp.1;have hql:=hq.1;refine ⟨_,ah (bj (aR (kJ) (aK (r:=cD K) aS (by rfl) T.cq PySem.boot_len (aa (pv 0) (ae))) (aK (r:=cD K) aS (by rfl) T.cq PySem.boot_len (aa (pv 1) (ae))) (aQ _)) (aj (ar (lj))) (aG))
   (ah (gL (i:=2) (N':=["part","beside"]) (n:=2) (fi:=[]) (g:=Hv K 2 (rW (aY 0) (rW (aY 1) (GJ)))) EJ.nd rfl (Or.inl rfl) rfl (aU (ag (top 32)) ["one","other","parts"] (by decide +kernel)) (wL (by rfl) T.Be (aa (pv 0) (aa (pv 1) (ae)))) (λs H fp=>nk rfl (cn (aw (i:=0) (show (["part","beside"]:List Str).Nodup by decide +kernel) rfl (Or.inl rfl) (.inr rfl)) (cn (aw (i:=1) (show (["part","beside"]:List Str).Nodup by decide +kernel) rfl (Or.inl rfl) (.inr rfl)) (jQ)))) (λs H fp=>aO) (λs H fp=>ak zO hr (by rfl) T.oN.mg T.oN.fn.kp T.oN.bd .nil av (aa (pv 0) (aa (pv 1) (ae)))))
   (ah (bj (bi (aK (r:=Gh K) (tI rfl) (by rfl) T.Dy Aw (aa (aW (N':=["part"]) (n:=1) (fi:=[]) (g:=aY 0) rfl (aU (ag (top 32)) ["one","other","parts"] (by decide +kernel)) (aP (pv 2)) (λs H fp=>aw (i:=0) (show (["part"]:List Str).Nodup by decide +kernel) rfl (Or.inl rfl) (.inr rfl)) (λs H fp=>aO) (λs H fp=>b6 (FC) (pv 0) (lj) (aQ _))) (ae)))) (aj (ar (lj))) (aG))
   (aj (ar (pv 2))))),?_⟩
  subst eu ev;refine ⟨_,rfl,a,xs,rfl,.inl hqa,_,rfl,b,_,rfl,.inl hqb,rfl,_,rfl,?_⟩;by_cases hl:ps.length=qs.length
  ·have e:decide (V.int (xs.length:Int)=V.int (ys.length:Int))=true:=decide_eq_true (by rw [hxl,hyl,hl]);rw [e];refine bg ?_;refine ⟨_,rfl,_,rfl,a,b,rfl,⟨_,hqa⟩,⟨_,hqb⟩,λD hD=>?_⟩;refine yS (K:=K) (xs:=xs) (ys:=ys) (λi acc σ H2=>(∃ u v,σ=[u,v])/\af H H2/\aI K (wo D H2) acc ((((ps.zip qs).take i).map λp=>jl p.1 p.2).map ptO)) ab ⟨⟨_,_,rfl⟩,af.new hD,.nil⟩ (λi acc σ H2 _ q=>⟨q.2.1.seq hqa,q.2.1.seq hqb⟩) (λi x y acc σ H2 t hx hy hDx q ht=>?_) (λacc σ H2 hDx q=>?_)
   ·obtain ⟨q0,s2,dn⟩:=q;apply yc q0;clear q0;intro u v;obtain ⟨p,hpi,hdp⟩:=cW hda hx;obtain ⟨q,hqi,hdq⟩:=cW hdb hy;have hi:=aF hpi;have hal:acc.length<=i:=by
     rw [dn.length,NU,NU,N7];lia
    have st:af H2 (upd H2 t (.tup [x,y])):=af.new ht;have hDd:(upd H2 t (.tup [x,y])) D=some (.lst acc):=st _ _ hDx;refine DW (.of ab) ⟨_,rfl,_,rfl,x,y,p,q,rfl,hdp.same (s2.trans st),hdq.same (s2.trans st),hp.2 p (NV hpi),hq.2 q (NV hqi),λr H4 s4 dr=>?_⟩;refine ⟨_,s4 _ _ hDd,small (by lia),_,ab,⟨_,_,rfl⟩,aq hD ((s2.trans st).trans s4),?_⟩;have hz:(ps.zip qs)[i]? = some (p,q):=by rw [List.getElem?_zip_eq_some];exact ⟨hpi,hqi⟩
    rw [bY hz,N8,p7];refine (dn.same (mF (st.trans s4))).append (.cons ?_ .nil);exact Je (s4 _ _ hDd) dr
   ·obtain ⟨_,s2,dn⟩:=q;have Md:min xs.length ys.length=(ps.zip qs).length:=by rw [List.length_zip,hxl,hyl]
    rw [Md,NZ (NX _)] at dn;generalize hos:(ps.zip qs).map (λp=>jl p.1 p.2)=os at dn;have hal:acc.length=os.length:=by rw [dn.length,NU]
    have hol:os.length<=10000:=by rw [<-hos,NU,List.length_zip];lia
    have Lu:((ps.zip qs).all λx=>(jl x.1 x.2).isSome)=os.all Option.isSome:=by rw [<-hos,List.all_map];rfl
    have Mv:((ps.zip qs).map λx=>(jl x.1 x.2).getD (.hole 2))=os.map λo=>o.getD (.hole 2):=by rw [<-hos,List.map_map];rfl
    refine ⟨_,rfl,D,rfl,⟨_,.of hDx⟩,λF hF=>?_⟩;refine aE (K:=K) (xs:=acc) (λi bP σ H4=>(∃ v,σ=[v])/\af H2 H4/\bP=((os.take i).map Option.isNone).map V.bl) ab ⟨⟨_,rfl⟩,af.new hF,rfl⟩ (λi bP σ H4 _ _ q=>.of (q.2.1 _ _ hDx)) (λi x bP σ H4 hx hFx q=>?_) (λbP σ H4 hFx q=>?_)
    ·obtain ⟨q0,s4,rfl⟩:=q;apply cf q0;clear q0;intro v;have hi:=aF hx;obtain ⟨d,hd,kX⟩:=dn.get hx;rw [N1] at hd;cases e:os[i]? with
     | none=>rw [e] at hd;cases hd
     | some o=>
      rw [e] at hd;cases hd;refine bM ⟨_,rfl,rfl,?_⟩;rw [DS kX];refine ⟨_,hFx,small (by rw [NU,NU,N7];lia),_,ab,⟨_,rfl⟩,aq hF s4,?_⟩;rw [bY e,N8];rfl
    ·obtain ⟨_,s4,rfl⟩:=q;refine ⟨F,_,rfl,.of hFx,_,rfl,?_⟩;rw [NZ (by lia)];have ean:((os.map Option.isNone).any id) = !(os.all Option.isSome):=by
      rw [List.any_map,List.not_all_eq_any_not]
      congr 1
      funext o
      cases o <;> rfl
     rw [ean];cases fc:os.all Option.isSome with
     | true=>
      refine bg ⟨_,rfl,k _ H4 (s2.trans s4) ?_⟩;have em:eO ps qs=some (os.map λo=>o.getD (.hole 2)):=by
       unfold eO;rw [if_pos ⟨hl,by rw [Lu];exact fc⟩,Mv]
      rw [em];exact .lst (.of (s4 _ _ hDx)) ((yM dn fc).same (bG.trans s4))
     | false=>
      refine bF (k .non H4 (s2.trans s4) ?_);have em:eO ps qs=none:=by
       unfold eO;rw [if_neg (λz=>by rw [Lu,fc] at z;cases z.2)]
      rw [em];exact .non
  ·have e:decide (V.int (xs.length:Int)=V.int (ys.length:Int))=false:=decide_eq_false (λq=>hl (by rw [hxl,hyl] at q;injection q with q;lia));rw [e];refine bF (k .non H (af.refl _) ?_);have em:eO ps qs=none:=by
    unfold eO;rw [if_neg (λz=>hl z.1)]
   rw [em];exact .non
end
end K38
namespace L2
open PySem PySem.Spec PyProof.Rows PySem.W
structure PAi (X:Cx) (es:List Expr) (t:TA):Prop where
 go:PA X es t
structure PSi (X:Cx) (st:Stmt) (t:TS):Prop where
 go:PS X st t
structure Ny (X:Cx) (st:List Stmt) (t:TS):Prop where
 go:PSs X st t
section
variable {X:Cx}
theorem Ab:bootBuiltins "set" = some (.type "set"):=by decide +kernel
end
end L2
namespace LG
open PySem L2
def wsD (ws:List Str):PyData:=.list (ws.map PyData.str)
def gD (wss:List (List Str)):PyData:=.list (wss.map wsD)
structure GOk (n:Nat) (wss:List (List Str)):Prop where
 ne:wss≠[]
 le:wss.length<64
 CV:n<=12
 pos:0<n
 row:∀ ws∈wss,ws.length=n/\∀ w∈ws,PtW (.word w)
def wAt (wss:List (List Str)) (p:Nat):List Str:=wss.map λws=>ws.getD p Str.empty
def uAt (wss:List (List Str)) (p:Nat):List Str:=jI [] (wAt wss p)
def gg (wss:List (List Str)) (p:Nat) (s l:Int):Bool:=decide (2<=((uAt wss p).length:Int)) && (decide (((uAt wss p).length:Int)<=s) && (uAt wss p).all λw=>decide (l<=((wAt wss p).countP λz=>decide (z=w):Nat)))
section
variable {K:PySem.W.Frag}{H:Hp}
theorem pM:∀ {ws:List Str}{ys:List V},aI K H ys (ws.map PyData.str)->ys=ws.map V.str
 | [],_,h=>by cases h;rfl
 | w::ws,_,h=>by
  cases h with
  | cons a t=>
   cases a;rw [pM t];rfl
theorem IL {x:V}{ws:List Str} (h:Den K H x (wsD ws)):∃ r,x = .ref r/\SqL K H r (ws.map V.str):=by
 cases h with
 | lst hq t=>
  rw [pM t] at hq;exact ⟨_,rfl,hq⟩
theorem AY {x:V}{wss:List (List Str)} (h:Den K H x (gD wss)):∃ a xs,x = .ref a/\SqL K H a xs/\aI K H xs (wss.map wsD):=by
 cases h with
 | lst hq t=>exact ⟨_,_,rfl,hq,t⟩
theorem rG {xs:List V}{wss:List (List Str)}{i:Nat}{x:V} (h:aI K H xs (wss.map wsD)) (hx:xs[i]? = some x):∃ ws r,wss[i]? = some ws/\x = .ref r/\SqL K H r (ws.map V.str):=by
 obtain ⟨d,hd,hn⟩:=h.get hx;rw [N1] at hd;cases e:wss[i]? with
 | none=>rw [e] at hd;cases hd
 | some ws=>
  rw [e] at hd;cases hd;obtain ⟨r,rfl,hq⟩:=IL hn;exact ⟨ws,r,rfl,rfl,hq⟩
end
theorem Fe {wss:List (List Str)}{ws:List Str}{i p:Nat} (h:wss[i]? = some ws):wAt (wss.take (i+1)) p=wAt (wss.take i) p++[ws.getD p Str.empty]:=by
 unfold wAt;rw [List.take_add_one,h];simp
theorem yU (zs:List Str):(jI [] zs).length<=zs.length:=by
 have:=Bl zs [];simpa using this
theorem GOk.Jf {n:Nat}{wss:List (List Str)} (h:GOk n wss) (p:Nat):(wAt wss p).length<64:=by unfold wAt;rw [NU];exact h.le
theorem GOk.LS {n:Nat}{wss:List (List Str)} (h:GOk n wss) (p:Nat):(uAt wss p).length<64:=Nat.lt_of_le_of_lt (yU _) (h.Jf p)
section
variable {K:PySem.W.Frag}{H H':Hp}{P:Addr}
theorem p8 {ps:Array Value}{a:Addr}{o:HO} (h:H P=some (.tbl ps)) (e:H a=some o) (n:∀ qs,o ≠ .tbl qs):a≠P:=λz=>by
 rw [z,h] at e;cases e;exact n _ rfl
theorem Eb {ps:Array Value}{a:Addr}{o:HO} (h:H P=some (.tbl ps)) (r:Rd H a o) (n:∀ qs,o ≠ .tbl qs):Rd (wo P H) a o:=by
 rcases r with r | ⟨ob,r⟩
 ·exact .inl (by rw [aT (p8 h r n)];exact r)
 ·exact .inr ⟨ob,by rw [aT (p8 h r λqs e=>by cases e)];exact r⟩
theorem AQ {ps:Array Value}{a:Addr}{xs:List V} (h:H P=some (.tbl ps)) (r:SqL K H a xs):SqL K (wo P H) a xs:=by
 rcases r with r | r
 ·exact .inl (Eb h r λqs e=>by cases e)
 ·exact .inr r
theorem oQ {ps:Array Value}{a:Addr}{xs:List V} (h:H P=some (.tbl ps)) (r:SqT K H a xs):SqT K (wo P H) a xs:=by
 rcases r with r | r
 ·exact .inl (Eb h r λqs e=>by cases e)
 ·exact .inr r
theorem Bm {ps:Array Value}{v:V}{d:PyData} (h:H P=some (.tbl ps)) (r:Den K H v d):Den K (wo P H) v d:=r.keep (λ_ _ q=>AQ h q) λ_ _ q=>oQ h q
theorem tD {ps:Array Value}{v:List V}{d:List PyData} (h:H P=some (.tbl ps)) (r:aI K H v d):aI K (wo P H) v d:=r.keep (λ_ _ q=>AQ h q) λ_ _ q=>oQ h q
theorem eY {pos:Pos}{qual:Str} (h:qS P pos qual H):∃ ps,H P=some (.tbl ps):=let ⟨ps,e,_⟩:=h;⟨ps,e⟩
theorem bh {pos:Pos}{qual:Str} (h:qS P pos qual H) (s:af H H'):qS P pos qual H':=by
 obtain ⟨ps,h1,h2,h3⟩:=h;refine ⟨ps,s _ _ h1,h2,h3.imp id λ⟨c,a,b⟩=>⟨c,a,s _ _ b⟩⟩
theorem DY {c:Addr}{qual:Str}{H1 H2:Hp}{u v:Value} (h:H2=H1\/∃ ps,H1 P=some (.tbl ps)/\H1 c=none/\H2=upd (upd H1 P (.tbl (ps ++ #[u,v,.ref c]))) c (qR c qual)):af (wo P H1) H2:=by
 rcases h with rfl | ⟨ps,h1,h2,rfl⟩
 ·exact bG
 ·refine aq ?_ (aq d6 bG);by_cases e:c=P
  ·rw [e,d6]
  ·rw [aT e];exact h2
theorem vQ {a:Addr}{o:HO}{ps:Array Value} (s:af (wo P H) H') (h:H P=some (.tbl ps)) (e:H a=some o) (n:∀ qs,o ≠ .tbl qs):H' a=some o:=s _ _ (by rw [aT (p8 h e n)];exact e)
end
def i5 (wss:List (List Str)) (n:Nat) (s l:Int):List Nat:=(List.range n).filter λp=>gg wss p s l
def plc (wss:List (List Str)) (n:Nat) (s l:Int):Option Nat:=if i5 wss n s l=[] then none else some ((i5 wss n s l).getD (bz ((i5 wss n s l).map λp=>.int (uAt wss p).length)) 0)
def M6:Option Nat->V
 | none=>.non
 | some p=>.int p
theorem Cn {wss:List (List Str)}{i:Nat}{s l:Int}:i5 wss (i+1) s l=i5 wss i s l++[i].filter λp=>gg wss p s l:=by
 unfold i5;rw [List.range_succ,List.filter_append]
theorem Ex {wss:List (List Str)}{i:Nat}{s l:Int}:(i5 wss i s l).length<=i:=by
 unfold i5;exact N2 (List.length_filter_le _ _) (by rw [List.length_range];exact NX _)
theorem xN {wss:List (List Str)}{n p:Nat}{s l:Int} (h:p∈i5 wss n s l):p<n/\gg wss p s l=true:=by
 unfold i5 at h;obtain ⟨h1,h2⟩:=List.mem_filter.mp h;exact ⟨List.mem_range.mp h1,h2⟩
theorem xk (wss:List (List Str)) (ps:List Nat) (h:ps≠[]):bz (ps.map λp=>PyData.int (uAt wss p).length)<ps.length:=by
 obtain ⟨d,h1,_⟩:=jT (all:=ps.map λp=>PyData.int (uAt wss p).length) (Sh.ok .int) (λd hd=>by
  obtain ⟨p,_,rfl⟩:=N5.mp hd;exact ⟨_,rfl⟩) (λe=>h (List.map_eq_nil_iff.mp e))
 have:=aF h1
 rwa [NU] at this
theorem JQ {wss:List (List Str)}{n p:Nat}{s l:Int} (h:plc wss n s l=some p):p<n/\gg wss p s l=true:=by
 unfold plc at h
 split at h
 ·cases h
 ·rename_i hne;have hl:=xk wss _ hne;rw [N9,NW hl] at h;cases h;exact xN (List.getElem_mem hl)
theorem Hm (i:Int):(PyData.int i).depth<=100:=Nat.zero_le _
structure Cm {α:Type} (l:List (Key×α)) (p:Key×List α):Prop where
 ne:p.2≠[]
 of:∀ x∈p.2,(p.1,x)∈l
 le:p.2.length<=l.length
theorem Js {α:Type}{l:List (Key×α)}{st:List (Key×List α)}{k:Key}{x:α} (h:∀ p∈st,Cm l p):∀ p∈bJ st k x,Cm (l++[(k,x)]) p:=λp hp=>by
 have up:∀ q∈st,Cm (l++[(k,x)]) q:=λq hq=>⟨(h q hq).ne,λy hy=>List.mem_append_left _ ((h q hq).of y hy),by rw [List.length_append];exact N2 (h q hq).le (Nat.le_add_right _ _)⟩;unfold bJ at hp
 split at hp
 ·obtain ⟨q,hq,rfl⟩:=N5.mp hp;by_cases e:q.1=k
  ·rw [if_pos e];refine ⟨by simp,λy hy=>?_,?_⟩
   ·rcases List.mem_append.mp hy with z | z
    ·exact (up q hq).of y z
    ·rw [N3.mp z];show (q.1,x)∈_;rw [e];simp
   ·show (q.2++[x]).length<=_;rw [List.length_append,List.length_append,List.length_singleton,List.length_singleton];exact Nat.succ_le_succ (h q hq).le
  ·rw [if_neg e];exact up q hq
 ·rcases List.mem_append.mp hp with z | z
  ·exact up p z
  ·rw [N3.mp z];refine ⟨by simp,λy hy=>?_,by simp⟩;rw [N3.mp hy];simp
theorem uL {α:Type} (l:List (Key×α)):∀ p∈b0 l,Cm l p:=by
 have go:∀ (r pre:List (Key×α)) (st:List (Key×List α)),(∀ p∈st,Cm pre p)->∀ p∈r.foldl (λst p=>bJ st p.1 p.2) st,Cm (pre++r) p:=λr=>by
  induction r with
  | nil=>intro pre st h p hp;rw [List.append_nil];exact h p hp
  | cons q r ih=>
   intro pre st h p hp;have:=ih (pre++[q]) (bJ st q.1 q.2) (Js h) p hp
   rwa [List.append_assoc,List.singleton_append] at this
 exact go l [] [] (λp hp=>by cases hp)
def byW (wss:List (List Str)) (p:Nat):List (List (List Str)):=grp ((wAt wss p).map Sum.inr) wss
theorem zip_map {α β:Type} (f:α->β):∀ l:List α,(l.map f).zip l=l.map λx=>(f x,x)
 | []=>rfl
 | a::l=>by rw [Oc,List.zip_cons_cons,zip_map f l];rfl
theorem qa {wss g:List (List Str)}{p:Nat} (h:g∈byW wss p):g≠[]/\g.length<=wss.length/\(∀ ws∈g,ws∈wss)/\∃ w:Str,∀ ws∈g,ws.getD p Str.empty=w:=by
 unfold byW grp at h;obtain ⟨q,hq,rfl⟩:=N5.mp h;have ez:((wAt wss p).map (Sum.inr:Str->Key)).zip wss=wss.map λws=>(Sum.inr (ws.getD p Str.empty),ws):=by
  unfold wAt;rw [List.map_map];exact zip_map _ wss
 rw [ez] at hq;have ok:=uL _ q hq;have key:∀ ws∈q.2,ws∈wss/\(Sum.inr (ws.getD p Str.empty):Key)=q.1:=λws hws=>by
  obtain ⟨v,hv,e⟩:=N5.mp (ok.of ws hws);injection e with e1 e2;rw [<-e2];exact ⟨hv,e1⟩
 refine ⟨ok.ne,?_,λws hws=>(key ws hws).1,?_⟩
 ·have:=ok.le
  rwa [NU] at this
 ·cases e:q.1 with
  | inl i=>
   obtain ⟨ws,hws⟩:=List.exists_mem_of_ne_nil _ ok.ne;have:=(key ws hws).2;rw [e] at this;cases this
  | inr w=>
   refine ⟨w,λws hws=>?_⟩;have:=(key ws hws).2;rw [e] at this;exact Sum.inr.inj this
theorem GOk.sub {n p:Nat}{wss g:List (List Str)} (h:GOk n wss) (hg:g∈byW wss p):GOk n g:=by
 obtain ⟨h1,h2,h3,_⟩:=qa hg;exact ⟨h1,Nat.lt_of_le_of_lt h2 h.le,h.CV,h.pos,λws hws=>h.row ws (h3 ws hws)⟩
theorem oJ {x:Str}:∀ {zs us:List Str},x∈jI us zs↔x∈us\/x∈zs
 | [],us=>by simp [jI]
 | z::zs,us=>by
  unfold jI;rw [oJ];by_cases h:z∈us
  ·rw [if_pos h,List.mem_cons];constructor
   ·rintro (a | a)
    ·exact .inl a
    ·exact .inr (.inr a)
   ·rintro (a | a | a)
    ·exact .inl a
    ·rw [a];exact .inl h
    ·exact .inr a
  ·rw [if_neg h,List.mem_append,N3,List.mem_cons];constructor
   ·rintro ((a | a) | a)
    ·exact .inl a
    ·exact .inr (.inl a)
    ·exact .inr (.inr a)
   ·rintro (a | a | a)
    ·exact .inl (.inl a)
    ·exact .inl (.inr a)
    ·exact .inr a
theorem mr:∀ {zs us:List Str},us.Nodup->(jI us zs).Nodup
 | [],us,h=>h
 | z::zs,us,h=>by
  unfold jI;refine mr ?_;by_cases e:z∈us
  ·rw [if_pos e];exact h
  ·rw [if_neg e,List.nodup_append];refine ⟨h,by simp,λa ha b hb=>?_⟩;rw [N3.mp hb];exact λz'=>e (z' ▸ ha)
def two (wss:List (List Str)) (p:Nat):Bool:=decide (2<=(uAt wss p).length)
theorem Fh {wss:List (List Str)}{p:Nat} (h:two wss p=true):∃ x y,x≠y/\x∈wAt wss p/\y∈wAt wss p:=by
 have h2:2<=(uAt wss p).length:=of_decide_eq_true h;have nd:(uAt wss p).Nodup:=mr (by simp);have hm:∀ z∈uAt wss p,z∈wAt wss p:=λz hz=>(oJ.mp hz).resolve_left (by simp)
 match e:uAt wss p,h2,nd,hm with
 | x::y::r,_,nd,hm=>exact ⟨x,y,λz=>(List.nodup_cons.mp nd).1 (by rw [z];simp),hm x (by simp),hm y (by simp)⟩
theorem IH {wss:List (List Str)}{p:Nat}{x y:Str} (hne:x≠y) (hx:x∈wAt wss p) (hy:y∈wAt wss p):two wss p=true:=by
 have hx':x∈uAt wss p:=oJ.mpr (.inr hx);have hy':y∈uAt wss p:=oJ.mpr (.inr hy);refine decide_eq_true ?_
 match e:uAt wss p,hx',hy' with
 | [z],hx',hy'=>exact (hne ((N3.mp hx').trans (N3.mp hy').symm)).elim
 | _::_::r,_,_=>simp
def mu (n:Nat) (wss:List (List Str)):Nat:=(List.range n).countP (two wss)
theorem Ly (n:Nat) (wss:List (List Str)):mu n wss<=n:=by
 unfold mu;exact N2 List.countP_le_length (by rw [List.length_range];exact NX _)
theorem BH {l:List Nat}{f g:Nat->Bool}{p:Nat} (h:∀ q,f q=true->g q=true) (hp:p∈l) (h1:f p=false) (h2:g p=true):l.countP f<l.countP g:=by
 induction l with
 | nil=>cases hp
 | cons a l ih=>
  have mono:l.countP f<=l.countP g:=List.countP_mono_left λq _=>h q;rw [List.countP_cons,List.countP_cons];rcases List.mem_cons.mp hp with e | e
  ·rw [<-e,h1,h2];simp;lia
  ·have:=ih e;have hs:(if f a=true then 1 else 0)<=(if g a=true then 1 else 0):=by
    cases hf:f a with
    | false=>simp
    | true=>rw [h a hf];simp
   lia
theorem JT {n p:Nat}{wss g:List (List Str)} (hp:p<n) (ht:two wss p=true) (hg:g∈byW wss p):mu n g<mu n wss:=by
 obtain ⟨_,_,h3,w,h4⟩:=qa hg;refine BH (p:=p) (λq hq=>?_) (List.mem_range.mpr hp) ?_ ht
 ·obtain ⟨x,y,hne,hx,hy⟩:=Fh hq;have up:∀ z∈wAt g q,z∈wAt wss q:=λz hz=>by
   obtain ⟨ws,hws,rfl⟩:=N5.mp hz;exact List.mem_map_of_mem (h3 ws hws)
  exact IH hne (up x hx) (up y hy)
 ·rw [Bool.eq_false_iff];intro z;obtain ⟨x,y,hne,hx,hy⟩:=Fh z;obtain ⟨a,ha,rfl⟩:=N5.mp hx;obtain ⟨b,hb,rfl⟩:=N5.mp hy;exact hne ((h4 a ha).trans (h4 b hb).symm)
theorem Gi {wss:List (List Str)}{p:Nat}{s l:Int} (h:gg wss p s l=true):two wss p=true:=by
 unfold gg at h;have:=of_decide_eq_true (Bool.and_eq_true_iff.mp h).1;exact decide_eq_true (by lia)
def prt (n:Nat) (s l:Int):Nat->List (List Str)->List (List (List Str))
 | 0,g=>[g]
 | N+1,g=>match plc g n s l with
  | none=>[g]
  | some p=>(byW g p).flatMap (prt n s l N)
theorem Ak {n:Nat}{s l:Int}:∀ {N:Nat}{wss:List (List Str)},GOk n wss->∀ g∈prt n s l N wss,GOk n g
 | 0,wss,h,g,hg=>by rw [N3.mp hg];exact h
 | N+1,wss,h,g,hg=>by
  unfold prt at hg
  split at hg
  ·rw [N3.mp hg];exact h
  ·rename_i p _;obtain ⟨g',h1,h2⟩:=List.mem_flatMap.mp hg;exact Ak (h.sub h1) g h2
theorem uX {K:PySem.W.Frag}{H:Hp}{xs:List V}{wss:List (List Str)}:aI K H xs (wss.map wsD)->fX (λx ws=>Den K H x (wsD ws)) xs wss:=by
 induction wss generalizing xs with
 | nil=>intro h;cases h;exact .nil
 | cons ws wss ih=>
  intro h;cases h with
  | cons a t=>exact .cons a (ih t)
theorem uU {K:PySem.W.Frag}{H:Hp}{xs:List V}{wss:List (List Str)} (h:fX (λx ws=>Den K H x (wsD ws)) xs wss):aI K H xs (wss.map wsD):=by
 induction h with
 | nil=>exact .nil
 | cons h _ ih=>exact .cons h ih
def tot {α:Type} (st:List (Key×List α)):Nat:=(st.map λp=>p.2.length).sum
theorem BP {α:Type}{st:List (Key×List α)}{k:Key}{x:α} (h:(st.map (·.1)).Nodup):((bJ st k x).map (·.1)).Nodup/\tot (bJ st k x)=tot st+1:=by
 unfold bJ
 split
 ·rename_i ha;have e:(st.map λp=>if p.1=k then (p.1,p.2++[x]) else p).map (·.1)=st.map (·.1):=by
   rw [List.map_map];exact List.map_congr_left λp _=>by show (if p.1=k then (p.1,p.2++[x]) else p).1=p.1;split <;> rfl
  refine ⟨by rw [e];exact h,?_⟩;have key:∀ l:List (Key×List α),(l.map (·.1)).Nodup->(l.any λp=>decide (p.1=k))=true->tot (l.map λp=>if p.1=k then (p.1,p.2++[x]) else p)=tot l+1:=λl=>by
   induction l with
   | nil=>intro _ h;cases h
   | cons a l ih=>
    intro hn ha;have hn':=List.nodup_cons.mp hn;by_cases e:a.1=k
    ·have em:(l.map λp=>if p.1=k then (p.1,p.2++[x]) else p)=l:=by
      have:∀ p∈l,(if p.1=k then (p.1,p.2++[x]) else p)=p:=λp hp=>if_neg λz=>hn'.1 (by show a.1∈_;rw [e,<-z];exact List.mem_map_of_mem hp);exact (List.map_congr_left this).trans (List.map_id' l)
     rw [Oc,if_pos e,em];simp [tot];lia
    ·have ha':(l.any λp=>decide (p.1=k))=true:=by
      rw [List.any_cons,decide_eq_false e] at ha;simpa using ha
     have:=ih hn'.2 ha';rw [Oc,if_neg e];simp only [tot,Oc,List.sum_cons] at this ⊢;lia
  exact key st h ha
 ·rename_i ha;refine ⟨?_,by simp [tot]⟩;rw [N8,List.nodup_append];refine ⟨h,by simp,λa hm b hb e=>?_⟩;apply ha;rw [Oc,List.map_nil,N3] at hb;obtain ⟨p,hp,rfl⟩:=N5.mp hm;rw [List.any_eq_true];exact ⟨p,hp,decide_eq_true (e.trans hb)⟩
theorem tH {α:Type} (l:List (Key×α)):tot (b0 l)=l.length:=by
 have go:∀ (r:List (Key×α)) (st:List (Key×List α)),(st.map (·.1)).Nodup->tot (r.foldl (λst p=>bJ st p.1 p.2) st)=tot st+r.length:=λr=>by
  induction r with
  | nil=>intro st _;rfl
  | cons q r ih=>
   intro st h;have:=BP (k:=q.1) (x:=q.2) h;rw [List.foldl_cons,ih _ this.1,this.2,List.length_cons];lia
 have:=go l [] (by simp);simpa [b0,tot] using this
def iB {α:Type} (gs:List (List α)):Nat:=(gs.map List.length).sum
theorem yz (wss:List (List Str)) (p:Nat):iB (byW wss p)=wss.length:=by
 have h:=tH (((wAt wss p).map (Sum.inr:Str->Key)).zip wss);have e:iB (byW wss p)=tot (b0 (((wAt wss p).map (Sum.inr:Str->Key)).zip wss)):=by
  unfold iB byW grp tot;rw [List.map_map];rfl
 rw [e,h,List.length_zip,NU];unfold wAt;rw [NU,Nat.min_self]
theorem pf {n:Nat}{s l:Int}:∀ {N:Nat}{wss:List (List Str)},wss≠[]->(prt n s l N wss).length<=wss.length
 | 0,wss,h=>by
  show 1<=_;exact List.length_pos_iff.mpr h
 | N+1,wss,h=>by
  unfold prt
  split
  ·show 1<=_;exact List.length_pos_iff.mpr h
  ·rename_i p _;have key:∀ gs:List (List (List Str)),(∀ g∈gs,g≠[])->(gs.flatMap (prt n s l N)).length<=iB gs:=λgs=>by
    induction gs with
    | nil=>intro _;exact NX _
    | cons g gs ih=>
     intro hg;rw [List.flatMap_cons,List.length_append];have h1:=pf (n:=n) (s:=s) (l:=l) (N:=N) (hg g (by simp));have h2:=ih λg' hg'=>hg g' (by simp [hg']);simp only [iB,Oc,List.sum_cons] at h2 ⊢;lia
   have:=key (byW wss p) λg hg=>(qa hg).1;rw [yz] at this;exact this
theorem Gn {n:Nat}{s l:Int}{N:Nat}{wss:List (List Str)}{p:Nat} (i:Nat):(((byW wss p).take i).flatMap (prt n s l N)).length<=wss.length:=by
 have key:∀ gs:List (List (List Str)),(∀ g∈gs,g≠[])->(gs.flatMap (prt n s l N)).length<=iB gs:=λgs=>by
  induction gs with
  | nil=>intro _;exact NX _
  | cons g gs ih=>
   intro hg;rw [List.flatMap_cons,List.length_append];have h1:=pf (n:=n) (s:=s) (l:=l) (N:=N) (hg g (by simp));have h2:=ih λg' hg'=>hg g' (by simp [hg']);simp only [iB,Oc,List.sum_cons] at h2 ⊢;lia
 have mono:∀ (gs:List (List (List Str))) (i:Nat),iB (gs.take i)<=iB gs:=λgs=>by
  induction gs with
  | nil=>intro i;simp [iB]
  | cons g gs ih=>
   intro i;cases i with
   | zero=>simp [iB]
   | succ i=>
    have:=ih i;simp only [iB,List.take_succ_cons,Oc,List.sum_cons] at this ⊢;lia
 have h1:=key ((byW wss p).take i) λg hg=>(qa (List.mem_of_mem_take hg)).1;have h2:=mono (byW wss p) i;rw [yz] at h2;lia
def hU (A B:Hp):Hp:=λb=>match A b with
 | some o=>some o
 | none=>B b
section
variable {A B H:Hp}
theorem Ku:af A (hU A B):=λb o e=>by unfold hU;rw [e]
theorem Nh (a:af A H) (b:af B H):af B (hU A B):=λc o e=>by
 unfold hU;cases q:A c with
 | none=>exact e
 | some o'=>
  have h1:=a c o' q;have h2:=b c o e;rw [h1] at h2;exact h2
theorem JU (a:af A H) (b:af B H):af (hU A B) H:=λc o e=>by
 unfold hU at e
 split at e
 ·rename_i o' q;cases e;exact a c _ q
 ·exact b c o e
theorem wJ {c:Addr} (a:A c=none) (b:B c=none):hU A B c=none:=by unfold hU;rw [a];exact b
theorem LM {c:Addr} (h:hU A B c≠none):A c≠none\/B c≠none:=by
 unfold hU at h
 split at h
 ·rename_i o q;exact .inl (by rw [q];simp)
 ·exact .inr h
end
theorem wa {P G:Addr}{pos:Pos}{qual:Str}{H:Hp}{xs ys:List V} (h:qS P pos qual H) (hG:H G=some (.lst xs)):qS P pos qual (upd H G (.lst ys)):=by
 obtain ⟨ps,h1,h2,h3⟩:=h;have a:P≠G:=λe=>by rw [e,hG] at h1;cases h1
 refine ⟨ps,by rw [ay a];exact h1,h2,h3.imp id λ⟨c,x,y⟩=>⟨c,x,?_⟩⟩;have b:c≠G:=λe=>by rw [e,hG] at y;cases y
 rw [ay b];exact y
def aJ (ws:List Str):List Pt:=ws.map Pt.word
def byL (rss:List (List Str)):List (List (List Str)):=grp (rss.map λws=>(Sum.inl (ws.length:Int):Key)) rss
theorem zE {rss g:List (List Str)} (h:g∈byL rss):g≠[]/\g.length<=rss.length/\(∀ ws∈g,ws∈rss)/\∃ n:Nat,∀ ws∈g,ws.length=n:=by
 unfold byL grp at h;obtain ⟨q,hq,rfl⟩:=N5.mp h;rw [zip_map] at hq;have ok:=uL _ q hq;have key:∀ ws∈q.2,ws∈rss/\(Sum.inl (ws.length:Int):Key)=q.1:=λws hws=>by
  obtain ⟨v,hv,e⟩:=N5.mp (ok.of ws hws);injection e with e1 e2;rw [<-e2];exact ⟨hv,e1⟩
 refine ⟨ok.ne,?_,λws hws=>(key ws hws).1,?_⟩
 ·have:=ok.le
  rwa [NU] at this
 ·obtain ⟨w0,hw0⟩:=List.exists_mem_of_ne_nil _ ok.ne;refine ⟨w0.length,λws hws=>?_⟩;have:=(key ws hws).2.trans (key w0 hw0).2.symm;have:=Sum.inl.inj this;lia
theorem ER (rss:List (List Str)):iB (byL rss)=rss.length:=by
 have h:=tH ((rss.map λws=>(Sum.inl (ws.length:Int):Key)).zip rss);have e:iB (byL rss)=tot (b0 ((rss.map λws=>(Sum.inl (ws.length:Int):Key)).zip rss)):=by
  unfold iB byL grp tot;rw [List.map_map];rfl
 rw [e,h,List.length_zip,NU,Nat.min_self]
def zC (rss:List (List Str)):Prop:=rss.length<64/\∀ ws∈rss,0<ws.length/\ws.length<=12/\∀ w∈ws,PtW (.word w)
def gn (g:List (List Str)):Nat:=(g.headD []).length
theorem HJ {rss g:List (List Str)} (h:zC rss) (hg:g∈byL rss):GOk (gn g) g:=by
 obtain ⟨h1,h2,h3,n,h4⟩:=zE hg;obtain ⟨w0,r,rfl⟩:∃ w r,g=w::r:=by
  cases g with
  | nil=>exact (h1 rfl).elim
  | cons w r=>exact ⟨w,r,rfl⟩
 have e:gn (w0::r)=n:=h4 w0 (by simp);have:=h.2 w0 (h3 w0 (by simp));have e0:=h4 w0 (by simp);refine ⟨h1,Nat.lt_of_le_of_lt h2 h.1,by lia,by lia,λws hws=>⟨by rw [e];exact h4 ws hws,(h.2 ws (h3 ws hws)).2.2⟩⟩
def wO (s l:Int) (g:List (List Str)):List (List Pt):=(prt (gn g) s l 13 g).map λg'=>bp (g'.map aJ) (gn g)
def gth (s l:Int) (rss:List (List Str)):List (List Pt):=(byL rss).flatMap (wO s l)
theorem yn (s l:Int) (rss:List (List Str)) (i:Nat):(((byL rss).take i).flatMap (wO s l)).length<=rss.length:=by
 have key:∀ gs:List (List (List Str)),(∀ g∈gs,g≠[])->(gs.flatMap (wO s l)).length<=iB gs:=λgs=>by
  induction gs with
  | nil=>intro _;exact NX _
  | cons g gs ih=>
   intro hg;rw [List.flatMap_cons,List.length_append];have h1:(wO s l g).length<=g.length:=by unfold wO;rw [NU];exact pf (hg g (by simp))
   have h2:=ih λg' hg'=>hg g' (by simp [hg']);simp only [iB,Oc,List.sum_cons] at h2 ⊢;lia
 have mono:∀ (gs:List (List (List Str))) (i:Nat),iB (gs.take i)<=iB gs:=λgs=>by
  induction gs with
  | nil=>intro i;simp [iB]
  | cons g gs ih=>
   intro i;cases i with
   | zero=>simp [iB]
   | succ i=>
    have:=ih i;simp only [iB,List.take_succ_cons,Oc,List.sum_cons] at this ⊢;lia
 have h1:=key ((byL rss).take i) λg hg=>(zE (List.mem_of_mem_take hg)).1;have h2:=mono (byL rss) i;rw [ER] at h2;lia
theorem Hx {ps:List Pt} (hne:ps≠[]) (h:∀ p∈ps,PtW p):PtW (lN ps):=by
 cases ps with
 | nil=>exact (hne rfl).elim
 | cons p r=>
  have hp:=h p (by simp);show PtW (if r.all (λq=>decide (q=p))=true then p else if r.all (λq=>decide (q.around=p.around))=true then .hole p.around else .hole 2)
  split
  ·exact hp
  ·split
   ·exact qg hp.ok
   ·exact (by decide:2<3)
theorem zV {n:Nat}{g:List (List Str)} (h:GOk n g):PW (bp (g.map aJ) n)/\bp (g.map aJ) n≠[]/\(bp (g.map aJ) n).length<=12:=by
 have hl:(bp (g.map aJ) n).length=n:=by unfold bp;rw [NU,List.length_range]
 refine ⟨λp hp=>?_,λe=>?_,by rw [hl];exact h.CV⟩
 ·unfold bp at hp;obtain ⟨i,hi,rfl⟩:=N5.mp hp;have hin:=List.mem_range.mp hi;refine Hx (λe=>h.ne (List.map_eq_nil_iff.mp (List.map_eq_nil_iff.mp e))) λq hq=>?_;obtain ⟨ps,hps,rfl⟩:=N5.mp hq;obtain ⟨ws,hws,rfl⟩:=N5.mp hps;have z9:=h.row ws hws;have hiw:i<ws.length:=by lia
  unfold aJ;rw [N9,N1,NW hiw];exact z9.2 _ (List.getElem_mem hiw)
 ·have:=congrArg List.length e;rw [hl] at this;have h0:=h.pos;simp at this;lia
theorem GB {s l:Int}{g:List (List Str)} (h:GOk (gn g) g):jz (wO s l g):=λps hps=>by
 unfold wO at hps;obtain ⟨g',hg',rfl⟩:=N5.mp hps;exact zV (Ak h g' hg')
theorem JO {s l:Int}{rss:List (List Str)} (h:zC rss):jz (gth s l rss):=λps hps=>by
 obtain ⟨g,hg,hp⟩:=List.mem_flatMap.mp hps;exact GB (HJ h hg) ps hp
def bV {α:Type} (l:List (Key×α)):List Key:=l.foldl (λks p=>if (ks.any λq=>decide (q=p.1))=true then ks else ks++[p.1]) []
theorem Ls {k:Key}{ks:List Key}:(ks.any λq=>decide (q=k))=true↔k∈ks:=by
 rw [List.any_eq_true];constructor
 ·rintro ⟨q,hq,e⟩;rw [<-of_decide_eq_true e];exact hq
 ·exact λh=>⟨k,h,decide_eq_true rfl⟩
theorem sQ {α:Type}{l:List (Key×α)}{p:Key×α} (h:p.1∈bV l):bV (l++[p])=bV l:=by
 have e:bV (l++[p])=if ((bV l).any λq=>decide (q=p.1))=true then bV l else bV l++[p.1]:=by
  unfold bV;rw [List.foldl_append];rfl
 rw [e,if_pos (Ls.mpr h)]
theorem qh {α:Type}{l:List (Key×α)}{p:Key×α} (h:p.1∉bV l):bV (l++[p])=bV l++[p.1]:=by
 have e:bV (l++[p])=if ((bV l).any λq=>decide (q=p.1))=true then bV l else bV l++[p.1]:=by
  unfold bV;rw [List.foldl_append];rfl
 rw [e,if_neg (λz=>h (Ls.mp z))]
theorem snoc_ind {α:Type}{C:List α->Prop} (h0:C []) (hs:∀ l x,C l->C (l++[x])) (l:List α):C l:=by
 have:∀ r:List α,C r.reverse:=λr=>by
  induction r with
  | nil=>exact h0
  | cons x r ih=>rw [List.reverse_cons];exact hs _ _ ih
 have e:=this l.reverse
 rwa [List.reverse_reverse] at e
theorem yf {α:Type} (l:List (Key×α)):(bV l).Nodup:=by
 refine snoc_ind (C:=λl=>(bV l).Nodup) List.nodup_nil (λl p ih=>?_) l;by_cases hn:p.1∈bV l
 ·rw [sQ hn];exact ih
 ·rw [qh hn,List.nodup_append];refine ⟨ih,by simp,λa ha b hb=>?_⟩;rw [N3.mp hb];exact λe=>hn (e ▸ ha)
theorem vF {α:Type}{k:Key} (l:List (Key×α)):k∈bV l↔∃ x,(k,x)∈l:=by
 refine snoc_ind (C:=λl=>k∈bV l↔∃ x,(k,x)∈l) (by simp [bV]) (λl p ih=>?_) l;have e:k∈bV (l++[p])↔k∈bV l\/k=p.1:=by
  by_cases hn:p.1∈bV l
  ·rw [sQ hn];exact ⟨.inl,λh=>h.elim id λz=>z ▸ hn⟩
  ·rw [qh hn,List.mem_append,N3]
 rw [e,ih];constructor
 ·rintro (⟨x,hx⟩ | rfl)
  ·exact ⟨x,List.mem_append_left _ hx⟩
  ·exact ⟨p.2,Od _ (N3.mpr rfl)⟩
 ·rintro ⟨x,hx⟩;rcases List.mem_append.mp hx with hx | hx
  ·exact .inl ⟨x,hx⟩
  ·exact .inr (by rw [<-N3.mp hx])
def ofK {α:Type} (l:List (Key×α)) (k:Key):List α:=(l.filter λp=>decide (p.1=k)).map (·.2)
theorem rX {α:Type} (l:List (Key×α)) (p:Key×α) (k:Key):ofK (l++[p]) k=if p.1=k then ofK l k++[p.2] else ofK l k:=by
 unfold ofK;rw [List.filter_append,N8];by_cases h:p.1=k
 ·rw [if_pos h];simp [h]
 ·rw [if_neg h];simp [h]
theorem Fl {α:Type}{l:List (Key×α)}{k:Key} (h:k∉bV l):ofK l k=[]:=by
 unfold ofK;rw [List.map_eq_nil_iff,List.filter_eq_nil_iff];intro p hp e;have e':=of_decide_eq_true e;exact h ((vF l).mpr ⟨p.2,by rw [<-e'];exact hp⟩)
theorem BK {α:Type} (l:List (Key×α)):b0 l=(bV l).map λk=>(k,ofK l k):=by
 refine snoc_ind (C:=λl=>b0 l=(bV l).map λk=>(k,ofK l k)) rfl (λl p ih=>?_) l;have e:b0 (l++[p])=bJ (b0 l) p.1 p.2:=by
  unfold b0;rw [List.foldl_append];rfl
 rw [e,ih];unfold bJ;by_cases h:p.1∈bV l
 ·rw [sQ h];have h2:(((bV l).map λk=>(k,ofK l k)).any λq=>decide (q.1=p.1))=true:=by
   rw [List.any_eq_true];exact ⟨_,N5.mpr ⟨_,h,rfl⟩,decide_eq_true rfl⟩
  rw [if_pos h2,List.map_map];refine List.map_congr_left λk hk=>?_;show (if k=p.1 then (k,ofK l k++[p.2]) else (k,ofK l k))=(k,ofK (l++[p]) k);rw [rX];by_cases e:k=p.1
  ·rw [if_pos e,if_pos e.symm]
  ·rw [if_neg e,if_neg (Ne.symm e)]
 ·rw [qh h];have h2:¬ (((bV l).map λk=>(k,ofK l k)).any λq=>decide (q.1=p.1))=true:=by
   intro z;obtain ⟨q,hq,eq⟩:=List.any_eq_true.mp z;obtain ⟨k,hk,rfl⟩:=N5.mp hq;have:=of_decide_eq_true eq;exact h (this ▸ hk)
  rw [if_neg h2,N8]
  congr 1
  ·refine List.map_congr_left λk hk=>?_;show (k,ofK l k)=(k,ofK (l++[p]) k);rw [rX,if_neg (λe:p.1=k=>h (e ▸ hk))]
  ·show [(p.1,[p.2])]=[(p.1,ofK (l++[p]) p.1)];rw [rX,if_pos rfl,Fl h];rfl
theorem F7 {α:Type} (f:α->Key) (xs:List α):grp (xs.map f) xs=(bV (xs.map λx=>(f x,x))).map λk=>xs.filter λx=>decide (f x=k):=by
 unfold grp;rw [zip_map,BK,List.map_map];refine List.map_congr_left λk hk=>?_;show ofK (xs.map λx=>(f x,x)) k=_;unfold ofK;rw [List.filter_map,List.map_map];simp [Function.comp_def]
theorem Jl (rss:List (List Str)):∃ ks:List Key,ks.Nodup/\(∀ k,k∈ks↔∃ ws∈rss,(Sum.inl (ws.length:Int):Key)=k)/\byL rss=ks.map λk=>rss.filter λws=>decide ((Sum.inl (ws.length:Int):Key)=k):=by
 refine ⟨_,yf (rss.map λws=>((Sum.inl (ws.length:Int):Key),ws)),λk=>?_,?_⟩
 ·rw [vF];constructor
  ·rintro ⟨x,hx⟩;obtain ⟨ws,hw,e⟩:=N5.mp hx;injection e with e1 e2;exact ⟨ws,hw,e1⟩
  ·rintro ⟨ws,hw,rfl⟩;exact ⟨ws,N5.mpr ⟨ws,hw,rfl⟩⟩
 ·exact F7 (λws:List Str=>(Sum.inl (ws.length:Int):Key)) rss
theorem G9 {n:Nat}{s l:Int}{N:Nat}{g:List (List Str)} (h:plc g n s l=none):prt n s l N g=[g]:=by
 cases N with
 | zero=>rfl
 | succ N=>unfold prt;rw [h]
theorem z4 {pss:List (List Pt)}{n i:Nat} (hi:i<n):(bp pss n)[i]? = some (lN (pss.map λps=>ps.getD i (.hole 2))):=by
 unfold bp;rw [N1,List.getElem?_range hi];rfl
theorem Gd {n:Nat}{g:List (List Str)} (hne:g≠[]) (h:∀ ws∈g,ws.length=n):byL g=[g]:=by
 obtain ⟨ks,hnd,hk,e⟩:=Jl g;have hks:∀ k,k∈ks↔k=(Sum.inl (n:Int):Key):=λk=>by
  rw [hk];constructor
  ·rintro ⟨ws,hw,rfl⟩;rw [h ws hw]
  ·rintro rfl;obtain ⟨ws,hw⟩:=List.exists_mem_of_ne_nil _ hne;exact ⟨ws,hw,by rw [h ws hw]⟩
 have e2:ks=[(Sum.inl (n:Int):Key)]:=List.perm_singleton.mp ((List.perm_ext_iff_of_nodup hnd (by simp)).mpr λk=>by rw [hks,N3]);rw [e,e2,List.map_singleton]
 congr 1
 refine List.filter_eq_self.mpr λws hw=>?_;rw [h ws hw];exact decide_eq_true rfl
theorem zW {ps qs:List Pt} (h:aC ps qs=true):eO ps qs≠none:=by
 unfold aC at h;obtain ⟨h1,h2⟩:=Bool.and_eq_true_iff.mp h;unfold eO;rw [if_pos ⟨of_decide_eq_true h1,List.all_eq_true.mpr λx hx=>by
  have:=List.all_eq_true.mp h2 x hx;unfold jl;rw [if_pos this];rfl⟩]
 simp
theorem F2 {l:List (List Pt)} (hw:∀ p∈l,PW p) (ho:lZ l) (hn:l.Nodup) (hm:∀ p∈l,∀ q∈l,p≠q->eO p q=none):i4 l.length l=l:=by
 refine Fp (JP hw ho) ho (CP hw) hn λp=>?_;rw [JM hw];constructor
 ·exact λh=>h.1
 ·refine λh=>⟨h,λq hq hwi=>?_⟩;by_cases e:q=p
  ·exact e
  ·exact absurd (hm p h q hq (Ne.symm e)) (zW hwi)
end LG
namespace L2
open PySem
theorem CM {K:PySem.W.Frag}{a:Addr}{xs:List V}{g:TG}{tb:TS}{D:Ends}{σ:St}{H:Hp} (Pv:Nat->St->Hp->Prop) (h0:Pv 0 σ H) (hl:∀ i σ H,Pv i σ H->SqL K H a xs)
  (hs:∀ i x σ H p,xs[i]? = some x->Pv i σ H->H p=none->g (.ref p) σ (upd H p (.tup [.int i,x])) λσ2 H2=>tb { D with nx:=Pv (i+1),ct:=Pv (i+1),bk:=D.nx } σ2 H2) (hd:∀ σ H,Pv xs.length σ H->D.nx σ H) :
  ∃ W:Nat->Nat->St->Hp->Prop,(∃ m,W 0 m σ H)/\∀ i m σ H,W i m σ H ->
   ((Ite K a).stop i H/\D.nx σ H)\/((Ite K a).go i H/\∃ N:St->Hp->Prop,(∀ σ' H',N σ' H'->∃ m',m' < m/\W (i+1) m' σ' H')/\∀ x H',(Ite K a).yld i H x H'->g x σ H' λσ2 H2=>tb { D with nx:=N,ct:=N,bk:=D.nx } σ2 H2):=by
 refine ⟨λi m σ H=>m+i=xs.length/\Pv i σ H,⟨xs.length,Nat.add_zero _,h0⟩,?_⟩;rintro i m σ H ⟨em,p⟩;have q:=hl i σ H p;cases m with
 | zero=>
  have e:i=xs.length:=by lia
  subst e;exact .inl ⟨⟨xs,q,NX _⟩,hd σ H p⟩
 | succ m=>
  have hlt:i<xs.length:=by lia
  refine .inr ⟨⟨xs,xs[i],q,NW hlt⟩,Pv (i+1),λσ' H' p'=>⟨m,by lia,by lia,p'⟩,λx H' y=>?_⟩;obtain ⟨t,v,hn,hv,e1,e2⟩:=y;rw [e1,e2];exact hs i v σ H t (hv xs q) p hn
end L2
namespace LG
open PySem L2
section
variable {s l:Int}{zs ms:List Str}{g:List (List Str)}
end
theorem kg:∀ (a b:List Str),aD (aJ a) b=decide (a=b)
 | [],[]=>rfl
 | [],_::_=>rfl
 | _::_,[]=>rfl
 | x::a,y::b=>by
  have h:=kg a b;unfold aD aJ at h ⊢;rw [Bool.eq_iff_iff,decide_eq_true_eq] at h ⊢;rw [Oa,decide_eq_true_eq] at h ⊢;simp only [Oc,List.zip_cons_cons,List.all_cons,List.length_cons,Oa,List.cons.injEq];rw [<-h];simp only [Pt.takes,decide_eq_true_eq];constructor
  ·rintro ⟨e,rfl,q⟩;exact ⟨rfl,by lia,q⟩
  ·rintro ⟨rfl,e,q⟩;exact ⟨by lia,rfl,q⟩
theorem vw:∀ (a b:List Str),aC (aJ a) (aJ b)=decide (a=b)
 | [],[]=>rfl
 | [],_::_=>rfl
 | _::_,[]=>rfl
 | x::a,y::b=>by
  have h:=vw a b;unfold aC aJ at h ⊢;rw [Bool.eq_iff_iff,decide_eq_true_eq] at h ⊢;rw [Oa,decide_eq_true_eq] at h ⊢;simp only [Oc,List.zip_cons_cons,List.all_cons,List.length_cons,Oa,List.cons.injEq];rw [<-h];simp only [Pt.within,Pt.takes,decide_eq_true_eq];constructor
  ·rintro ⟨e,rfl,q⟩;exact ⟨rfl,by lia,q⟩
  ·rintro ⟨rfl,e,q⟩;exact ⟨by lia,rfl,q⟩
theorem vJ (x y:Str):jl (.word x) (.word y)=if x=y then some (.word x) else none:=by
 unfold jl;simp only [Pt.within,Pt.takes,decide_eq_true_eq];by_cases h:x=y
 ·rw [if_pos h,if_pos h]
 ·rw [if_neg h,if_neg h,if_neg λe=>h e.symm]
theorem yZ:∀ a:List Str,((a.map Pt.word).zip (a.map Pt.word)).map (λx=>(jl x.1 x.2).getD (.hole 2))=a.map Pt.word
 | []=>rfl
 | x::a=>by
  rw [Oc,List.zip_cons_cons,Oc,yZ a];show (jl (.word x) (.word x)).getD (.hole 2)::_=_;rw [vJ,if_pos rfl];rfl
theorem wA:∀ (a b:List Str),a.length=b.length->(((a.map Pt.word).zip (b.map Pt.word)).all λx=>(jl x.1 x.2).isSome)=decide (a=b)
 | [],[],_=>rfl
 | [],_::_,h=>by cases h
 | _::_,[],h=>by cases h
 | x::a,y::b,h=>by
  rw [Oc,Oc,List.zip_cons_cons,List.all_cons,wA a b (by simpa using h)];show ((jl (.word x) (.word y)).isSome && _)=_;rw [vJ];by_cases e:x=y
  ·subst e;rw [if_pos rfl];simp
  ·rw [if_neg e,Option.isSome_none,Bool.false_and];exact (decide_eq_false λq=>e (List.cons.inj q).1).symm
theorem EI (a b:List Str):eO (aJ a) (aJ b)=if a=b then some (aJ a) else none:=by
 unfold eO aJ;rw [NU,NU];by_cases e:a=b
 ·subst e;rw [if_pos rfl,if_pos ⟨rfl,by rw [wA a a rfl];exact decide_eq_true rfl⟩,yZ]
 ·rw [if_neg e,if_neg];rintro ⟨hl,h⟩;rw [wA a b hl] at h;exact e (of_decide_eq_true h)
def xl:Pt->Bool
 | .hole _=>true
 | .word _=>false
theorem FZ {a b:List Str}{n:Nat} (ha:a.length=n) (hb:b.length=n):((bp [aJ a,aJ b] n).filter xl).isEmpty=decide (a=b):=by
 rw [Bool.eq_iff_iff,List.isEmpty_iff,decide_eq_true_eq,List.filter_eq_nil_iff];have at':∀ i<n,lN ([aJ a,aJ b].map λps=>ps.getD i (.hole 2))=lN [.word (a.getD i Str.empty),.word (b.getD i Str.empty)]:=λi hi=>by
  have q:∀ c:List Str,c.length=n->(aJ c).getD i (.hole 2) = .word (c.getD i Str.empty):=λc hc=>by
   unfold aJ;rw [N9,N9,N1,NW (by lia)];rfl
  rw [Oc,Oc,List.map_nil,q a ha,q b hb]
 constructor
 ·intro h;refine List.ext_getElem? λi=>?_;by_cases hi:i<n
  ·have hm:lN [.word (a.getD i Str.empty),.word (b.getD i Str.empty)]∈bp [aJ a,aJ b] n:=by
    rw [<-at' i hi];exact N5.mpr ⟨i,List.mem_range.mpr hi,rfl⟩
   have hh:=h _ hm;have e:b.getD i Str.empty=a.getD i Str.empty:=by
    by_cases e:b.getD i Str.empty=a.getD i Str.empty
    ·exact e
    ·refine absurd ?_ hh;have:decide (Pt.word (b.getD i Str.empty)=Pt.word (a.getD i Str.empty))=false:=decide_eq_false λz=>e (Pt.word.inj z);unfold lN;simp only [List.all_cons,List.all_nil,Bool.and_true,this];rw [if_neg N6]
     split <;> rfl
   rw [N9,N9,NW (by lia),NW (by lia)] at e;rw [NW (by lia),NW (by lia)];exact congrArg some (Eq.symm e)
  ·rw [List.getElem?_eq_none (by lia),List.getElem?_eq_none (by lia)]
 ·rintro rfl x hx;unfold bp at hx;obtain ⟨i,hi,rfl⟩:=N5.mp hx;rw [at' i (List.mem_range.mp hi)];unfold lN;simp [xl]
theorem Jh (i i':Int) (x x':Str):ltv (.tuple [.int i,.str x]) (.tuple [.int i',.str x'])=if i=i' then (if x=x' then false else decide (x.cps.toList<x'.cps.toList)) else decide (i<i'):=by
 simp only [ltv,aL,PyData.eqv,beq_iff_eq]
theorem Lx (a b:Str):ltv (Pt.word a).key (Pt.word b).key=ltv (wkD a) (wkD b):=by
 unfold Pt.key wkD;rw [LK,Jh,if_pos rfl]
theorem HL (a b:Str):PyData.eqv (Pt.word a).key (Pt.word b).key=PyData.eqv (wkD a) (wkD b):=by
 rw [De];unfold Pt.key;rw [KO,Bool.eq_iff_iff];simp only [Oa,decide_eq_true_eq];exact ⟨λh=>h.2,λh=>⟨⟨trivial,by rw [h]⟩,h⟩⟩
theorem C2:∀ a b:List Str,aL ((aJ a).map Pt.key) ((aJ b).map Pt.key)=aL (a.map wkD) (b.map wkD)
 | [],[]=>rfl
 | [],_::_=>rfl
 | _::_,[]=>rfl
 | x::a,y::b=>by
  have ih:=C2 a b;unfold aJ at ih ⊢;simp only [Oc,aZ];rw [Lx,HL,ih]
theorem DH:∀ a b:List Str,PyData.eqvAll ((aJ a).map Pt.key) ((aJ b).map Pt.key)=PyData.eqvAll (a.map wkD) (b.map wkD)
 | [],[]=>rfl
 | [],_::_=>rfl
 | _::_,[]=>rfl
 | x::a,y::b=>by
  have ih:=DH a b;unfold aJ at ih ⊢;simp only [Oc,PyData.eqvAll];rw [HL,ih]
theorem LI (a b:List Str):ltv (gm (aJ a)) (gm (aJ b))=ltv (lkD a) (lkD b):=by
 unfold gm lkD;rw [HR,HR,C2,DH];unfold aJ;rw [NU,NU]
theorem vT {ws:List Str}:bp [aJ ws] ws.length=aJ ws:=by
 refine List.ext_getElem? λi=>?_;by_cases hi:i<ws.length
 ·rw [z4 hi];unfold aJ;rw [Oc,List.map_nil,N9,N1,NW hi];rfl
 ·rw [List.getElem?_eq_none (by unfold bp;rw [NU,List.length_range];lia),List.getElem?_eq_none (by unfold aJ;rw [NU];lia)]
theorem zM {s l:Int}{ws:List Str}:gth s l [ws]=[aJ ws]:=by
 unfold gth;rw [Gd (n:=ws.length) (by simp) (λx hx=>by rw [N3.mp hx]),List.flatMap_cons,List.flatMap_nil,List.append_nil];unfold wO;have hp:plc [ws] (gn [ws]) s l=none:=by
  unfold plc i5;rw [if_pos];rw [List.filter_eq_nil_iff];intro p _;have:(uAt [ws] p).length<=1:=by
   unfold uAt wAt;rw [Oc,List.map_nil];simp [jI]
  unfold gg;rw [decide_eq_false (by lia)];simp
 rw [G9 hp,Oc,List.map_nil,Oc,List.map_nil];show [bp [aJ ws] ws.length]=_;rw [vT]
theorem DO {l:List (List Str)}{i:Nat}{ws:List Str} (hn:l.Nodup) (hi:l[i]? = some ws) {o:Option (List Str)}
  (h:AU (l.map aJ) ((l.take i++l.drop (i+1)).map aJ) o):o=some ws:=by
 have kn:∀ (m:List (List Str)) vs,bw (m.map aJ) vs=decide (vs∈m):=λm vs=>by
  unfold bw;rw [List.any_map,Bool.eq_iff_iff,List.any_eq_true,decide_eq_true_eq];constructor
  ·rintro ⟨x,hx,q⟩;have q:aD (aJ x) vs=true:=q;rw [kg,decide_eq_true_eq] at q;exact q ▸ hx
  ·exact λhx=>⟨vs,hx,by show aD (aJ vs) vs=true;rw [kg];exact decide_eq_true rfl⟩
 have hlt:=aF hi;have el:l=l.take i++ws::l.drop (i+1):=by
  have e:=List.take_append_drop i l;rw [List.drop_eq_getElem_cons hlt] at e;rw [NW hlt] at hi;rw [Option.some.inj hi] at e;exact e.symm
 have hno:ws∉l.take i++l.drop (i+1):=by
  rw [el] at hn;obtain ⟨_,n2,n3⟩:=List.nodup_append.mp hn;intro h;rcases List.mem_append.mp h with h | h
  ·exact n3 ws h ws (N4 ..) rfl
  ·exact (List.nodup_cons.mp n2).1 h
 have hm:∀ vs,vs∈l↔vs=ws\/vs∈l.take i++l.drop (i+1):=λvs=>by
  conv=>lhs;rw [el]
  rw [List.mem_append,List.mem_append,List.mem_cons];constructor
  ·rintro (h | h | h)
   ·exact .inr (.inl h)
   ·exact .inl h
   ·exact .inr (.inr h)
  ·rintro (h | h | h)
   ·exact .inr (.inl h)
   ·exact .inl h
   ·exact .inr (.inr h)
 have hne:∀ vs,bw (l.map aJ) vs≠bw ((l.take i++l.drop (i+1)).map aJ) vs↔vs=ws:=λvs=>by
  rw [kn,kn];constructor
  ·intro h;rcases Decidable.em (vs=ws) with e | e
   ·exact e
   ·refine absurd ?_ h;rw [Bool.eq_iff_iff,decide_eq_true_eq,decide_eq_true_eq,hm];exact ⟨λq=>q.resolve_left e,.inr⟩
  ·rintro rfl;rw [decide_eq_true ((hm _).mpr (.inl rfl)),decide_eq_false hno];exact λe=>by cases e
 cases o with
 | none=>exact absurd (h ws) ((hne ws).mpr rfl)
 | some vs=>rw [(hne vs).mp (show PLn _ _ vs from h).pa]
theorem Fk {l:List (List Str)}{z:Str}{ps:List Pt} (h:A8 ((l.map aJ).filter (lE z)) ps):ps=aJ (Txt.split z " "):=by
 have h1:=List.mem_filter.mp h.1;obtain ⟨x,_,rfl⟩:=N5.mp h1.1;have q:aD (aJ x) (Txt.split z " ")=true:=h1.2;rw [kg,decide_eq_true_eq] at q;rw [q]
theorem yj {l:List (List Str)}{z:Str} (h:Txt.split z " " ∈ l):(l.map aJ).filter (lE z)≠[]:=λe=>by
 have:aJ (Txt.split z " ")∈(l.map aJ).filter (lE z):=List.mem_filter.mpr ⟨N5.mpr ⟨_,h,rfl⟩,by show aD _ _=true;rw [kg];exact decide_eq_true rfl⟩;rw [e] at this;cases this
theorem qK (f:Str->Str) (hf:∀ w,(f w).cps.toList.filter (· != 61)=w.cps.toList.filter (· != 61)):∀ ws:List Str,(Str.join " " (ws.map f)).cps.toList.filter (· != 61)=(Str.join " " ws).cps.toList.filter (· != 61)
 | []=>rfl
 | [w]=>hf w
 | w::v::r=>by
  have ih:=qK f hf (v::r);rw [Oc] at ih;rw [Oc,Oc,uK,uK,List.filter_append,List.filter_append,hf w,List.filter_cons,List.filter_cons,ih]
theorem xJ (ws:List Str):Txt.replace (Txt.join " " ((aJ ws).map cv)) "=" "" = Txt.replace (Txt.join " " ws) "=" "" :=by
 have e1:(("=" : Str))=⟨#[61]⟩:=by decide +kernel
 have e2:(("" : Str))=⟨#[]⟩:=by decide +kernel
 have jn:∀ l:List Str,Txt.join " " l=Str.join " " l:=λl=>StrLaws.glued_eq_join " " l;refine kh ?_;rw [e1,e2,PyProof.Rows.replace_strikes,PyProof.Rows.replace_strikes,jn,jn];unfold aJ;rw [List.map_map];refine qK (cv ∘ Pt.word) (λw=>?_) ws;show (if jE w=true then "=" ++ w else w).cps.toList.filter _=_
 split
 ·rw [PySem.Str.cps_append,Array.toList_append,tq];rfl
 ·rfl
end LG
namespace K38
open PySem L2 LG
section
variable {P:Program}{w:World}{K:PySem.W.Frag}{mg:Str->Option Value}{base:Heap}{A:Ad}
theorem AR {z:Str}{ws:List Str} (h:lK 12 z ws):PW (aJ ws)/\aJ ws≠[]/\(aJ ws).length<=12:=by
 refine ⟨λp hp=>?_,λe=>?_,?_⟩
 ·obtain ⟨w,hw,rfl⟩:=N5.mp hp;have:=h.wd w hw;exact ⟨this.word,N2 this.len (by decide),this.ok⟩
 ·have h1:=h.pos;rw [List.map_eq_nil_iff.mp e] at h1;exact absurd h1 (by decide)
 ·unfold aJ;rw [NU];exact h.le
theorem k5 {z:Str}{ws:List Str} (h:lK 12 z ws):POk (aJ ws):=⟨N2 (AR h).2.2 (by decide),λq hq=>((AR h).1 q hq).ok⟩
theorem qt {z:Str}{ws:List Str} (h:lK 12 z ws):LOk z/\PyData.strOk z=true:=by
 have:=h.ok (by decide);exact ⟨N2 this.2 (by decide),this.1⟩
def i8 (K:PySem.W.Frag):Sp:=λvs H Q _=>∃ (z:Str) (ws:List Str),vs=[.str z]/\lK 12 z ws/\∀ D acc H',H D=none->af H H'->H' D=some (.lst acc)->aI K (tO H') acc ((aJ ws).map Pt.dat)->Q (.ref D) H'
def eC (K:PySem.W.Frag):Sp:=λvs H Q _=>∃ (x y:Str) (ws us:List Str),vs=[.str x,.str y]/\lK 12 x ws/\lK 12 y us/\∀ H',af H H'->Q (.bl true) H'
theorem uA:aA ["line"] ["line"] (ag (top 73)):=⟨rfl,rfl,rfl,by decide +kernel,rfl,by decide +kernel,by decide +kernel⟩
set_option maxHeartbeats 8000000 in
theorem mR (T:Tx K mg A):au P w K mg base CX0 2 A.gP A.gR ["line"] (i8 K):=by
 have eA:au P w K mg base CX0 1 A.fB A.fQ ["line"] (gb K):=(iO T).mono (by decide);refine T.bD.fn.ok uA (λvs H Q E h=>?_) (λcdv Ar outer s H vs Q E hr h=>?_)
 ·obtain ⟨z,ws,rfl,_⟩:=h;rfl
 ·obtain ⟨z,ws,rfl,hln,k⟩:=h;refine ⟨_,aj (ar (aW (N':=["word"]) (n:=1) (fi:=[]) (g:=aY 0) rfl (aU (ag (top 73)) ["line"] (by decide +kernel)) (aP (ak eA hr (by rfl) T.words_of.mg T.words_of.fn.kp T.words_of.bd .nil av (aa (pv 0) (ae)))) (λs H fp=>aw (i:=0) (show (["word"]:List Str).Nodup by decide +kernel) rfl (Or.inl rfl) (.inr rfl)) (λs H fp=>aO) (λs H fp=>eF (aa (aH) (aa (pv 0) (ae)))))),?_⟩;refine ⟨_,rfl,z,rfl,(qt hln).1,λL hL=>⟨L,rfl,⟨_,.of ab⟩,λI hI=>?_⟩⟩;rw [hln.split] at hI ⊢;have sL:af H (upd H L (.lst (ws.map V.str))):=af.new hL;have hLL:(upd H L (.lst (ws.map V.str))) L=some (.lst (ws.map V.str)):=ab;generalize upd H L (.lst (ws.map V.str))=H1 at sL hLL hI ⊢;refine aE (K:=K) (xs:=ws.map V.str) (λn acc σ2 H2=>(∃ u,σ2=[u])/\af H1 H2/\aI K (tO H2) acc ((aJ (ws.take n)).map Pt.dat)) ab ⟨⟨_,rfl⟩,af.new hI,.nil⟩ (λn acc σ2 H2 _ _ q=>.of (q.2.1 _ _ hLL)) (λn y acc σ2 H2 hy hIx q=>?_) (λacc σ2 H2 hI2 q=>?_)
  ·obtain ⟨q0,s2,dn⟩:=q;apply cf q0;clear q0;intro u;obtain ⟨w',hw',rfl⟩:=cY hy;have hwk:=hln.wd w' (NV hw');have hnl:=aF hw';have hwl:=hln.le;have hal:acc.length+1<=20:=by rw [dn.length,NU];unfold aJ;rw [NU,N7];lia
   refine bM ⟨_,rfl,(by show 2<=sizeLine;decide),λt ht=>?_⟩;have st:af H2 (upd H2 t (.tup [.str "word",.str w'])):=af.new ht;have pt:n6 (upd H2 t (.tup [.str "word",.str w'])) (.ref t) (.word w'):=⟨t,rfl,ab⟩;have hI4:=st _ _ hIx;refine ⟨_,hI4,small (by lia),_,ab,⟨_,rfl⟩,aq hI (s2.trans st),?_⟩;have et:aJ (ws.take (n+1))=aJ (ws.take n)++[.word w']:=by unfold aJ;rw [List.take_add_one,hw'];simp
   rw [et,N8];have tt:=DI (ys:=acc++[.ref t]) hI4;have dw:Den K (tO (upd H2 t (.tup [.str "word",.str w']))) (.ref t) (Pt.word w').dat:=.tup (.of (by unfold tO;rw [ab])) (.cons (.str (by decide +kernel)) (.cons (.str hwk.ok) .nil));exact (dn.same ((Hz st).trans tt)).append (.cons (dw.same tt) .nil)
  ·obtain ⟨_,s2,dn⟩:=q;rw [NU,NZ (NX _)] at dn;exact k I acc H2 (sL.free hI) (sL.trans s2) hI2 dn
theorem GC (ds:List PyData):PyData.eqv (.list ds) (.list [])=ds.isEmpty:=by
 cases ds <;> rfl
theorem nV (ps:List Pt):PyData.eqv (be ps) (be ps)=true:=((Sh.ok (.list Gw)).eqv _ _ (EE ps) (EE ps)).mpr rfl
theorem bZ:aA ["one","other","first","second","alike","holes"] ["one","other"] (ag (top 74)):=⟨rfl,rfl,rfl,by decide +kernel,rfl,by decide +kernel,by decide +kernel⟩
set_option maxHeartbeats 8000000 in
theorem nA (T:Tx K mg A):au P w K mg base CX0 7 A.eP A.fq ["one","other"] (eC K):=by
 have eQ:au P w K mg base CX0 6 A.gP A.gR ["line"] (i8 K):=(mR T).mono (by decide);have kZ:au P w K mg base CX0 6 A.iQ A.iV ["one","other"] (j4 K):=(oz T).mono (by decide);have Kl:au P w K mg base CX0 6 A.Ed A.Em ["one","other"] (CT K):=(JG T).mono (by decide);have wR:au P w K mg base CX0 6 A.wq A.wY ["pattern","line"] (xa K):=(AN T).mono (by decide);have tm:au P w K mg base CX0 6 A.pC A.oP ["patterns"] (qy K):=(vf T).mono (by decide);refine T.bL.fn.ok bZ (λvs H Q E h=>?_) (λcdv Ar outer s H vs Q E hr h=>?_)
 ·obtain ⟨x,y,ws,us,rfl,_⟩:=h;rfl
 ·obtain ⟨x,y,ws,us,rfl,hx,hy,k⟩:=h;refine ⟨_,ah (a9 (i:=2) bZ.nd rfl (Or.inl rfl) (ak eQ hr (by rfl) T.bD.mg T.bD.fn.kp T.bD.bd .nil av (aa (pv 0) (ae))))
   (ah (a9 (i:=3) bZ.nd rfl (Or.inl rfl) (ak eQ hr (by rfl) T.bD.mg T.bD.fn.kp T.bD.bd .nil av (aa (pv 1) (ae))))
   (ah (a9 (i:=4) bZ.nd rfl (Or.inl rfl) (b6 (fA) (pv 0) (pv 1) (aQ _)))
   (ah (bj ((pw_or (aR (kJ) (ak kZ hr (by rfl) T.fC.mg T.fC.fn.kp T.fC.bd .nil av (aa (pv 2) (aa (pv 3) (ae)))) (pv 4) (aQ _)) (pw_or1 (aR (r:=zw K) (qz hr) (ak Kl hr (by rfl) T.met.mg T.met.fn.kp T.met.bd .nil av (aa (pv 2) (aa (pv 3) (ae)))) (jx (bi (pv 4)) (pv 2) (lj)) (aQ _)))).pt) (aj (ar (gh))) (aG))
   (ah (bj (aR (fA) (aK (r:=cD K) aS (by rfl) T.cq PySem.boot_len (aa (pv 2) (ae))) (aK (r:=cD K) aS (by rfl) T.cq PySem.boot_len (aa (pv 3) (ae))) (aQ _)) (ah (gL (i:=5) (N':=["part"]) (n:=1) (fi:=[]) (g:=aY 0) bZ.nd rfl (Or.inl rfl) rfl (aU (ag (top 74)) ["one","other","first","second","alike","holes"] (by decide +kernel)) (aP (ak tm hr (by rfl) T.joined.mg T.joined.fn.kp T.joined.bd .nil av (aa (bQ (aa (pv 2) (aa (pv 3) (ae)))) (ae)))) (λs H fp=>aw (i:=0) (show (["part"]:List Str).Nodup by decide +kernel) rfl (Or.inl rfl) (.inr rfl)) (λs H fp=>dO (aR (fA) (ba (r:=jg K) cK (pv 0) (ap) (λ_ _=>rfl)) (aH) (aQ _))) (λs H fp=>pv 0))
   (aj (bj (aR (kJ) (b6 (r:=DK K) (vW hr) (pv 5) (bQ (ae)) (aQ _)) (pv 4) (aQ _)) (aj (ar (gh))) (aG)))) (aG))
   (aj (ar (qr (b6 (fA) (ak wR hr (by rfl) T.fits.mg T.fits.fn.kp T.fits.bd .nil av (aa (pv 2) (aa (pv 1) (ae)))) (pv 4) (aQ _)) (nE (b6 (fA) (ak wR hr (by rfl) T.fits.mg T.fits.fn.kp T.fits.bd .nil av (aa (pv 3) (aa (pv 0) (ae)))) (pv 4) (aQ _)))))))))),?_⟩
  refine ⟨_,rfl,x,ws,rfl,hx,λF K3 H1 hF s1 hFF dnF=>?_⟩;refine ⟨_,rfl,y,us,rfl,hy,λS cx H2 hS s2 hSS dnS=>?_⟩;have Io:=s2 _ _ hFF;have dF:Den K H2 (.ref F) (be (aJ ws)):=.lst (.of Io) ((dnF.same Bz).same s2);have dS:Den K H2 (.ref S) (be (aJ us)):=.lst (.of hSS) (dnS.same Bz);have s12:=s1.trans s2;have hlF:K3.length=ws.length:=by rw [dnF.length,NU];unfold aJ;rw [NU]
  have hlS:cx.length=us.length:=by rw [dnS.length,NU];unfold aJ;rw [NU]
  clear dnF dnS hFF s1 s2;have hxy:decide (V.str x=V.str y)=decide (ws=us):=by
   rw [Bool.eq_iff_iff,decide_eq_true_eq,decide_eq_true_eq];constructor
   ·intro e;have e:=V.str.inj e;rw [<-hx.split,<-hy.split,e]
   ·intro e;rw [hx.eq,hy.eq,e]
  have hw:=vw ws us;have hm:=EI ws us;have f1:aD (aJ ws) (Txt.split y " ")=decide (ws=us):=by rw [hy.split];exact kg ws us
  have f2:aD (aJ us) (Txt.split x " ")=decide (ws=us):=by
   rw [hx.split,kg,Bool.eq_iff_iff,decide_eq_true_eq,decide_eq_true_eq];exact ⟨Eq.symm,Eq.symm⟩
  have hj:ws.length=us.length->((bp [aJ ws,aJ us] ws.length).filter xl).isEmpty=decide (ws=us):=λe=>FZ rfl e.symm;have hm:eO (aJ ws) (aJ us)=if decide (ws=us)=true then some (aJ ws) else none:=by
   rw [hm];by_cases e:ws=us
   ·rw [if_pos e,if_pos (decide_eq_true e)]
   ·rw [if_neg e,if_neg (by rw [decide_eq_false e];decide)]
  refine ⟨_,rfl,_,rfl,rfl,?_⟩;rw [hxy];generalize decide (ws=us)=b at hw hm f1 f2 hj hxy;refine ⟨_,rfl,_,rfl,.ref F,.ref S,aJ ws,aJ us,rfl,dF,dS,k5 hx,k5 hy,λH3 s3=>⟨_,rfl,rfl,_,rfl,?_⟩⟩;rw [hw,decide_eq_true rfl];refine bg ?_;refine ⟨_,rfl,_,rfl,.ref F,.ref S,aJ ws,aJ us,rfl,dF.same s3,dS.same s3,k5 hx,k5 hy,λr H4 s4 hr=>⟨_,rfl,_,rfl,?_⟩⟩;rw [hm] at hr;have s24:=s3.trans s4;have dF4:=dF.same s24;have dS4:=dS.same s24;have hF4:=s24 _ _ Io;have hS4:=s24 _ _ hSS;have sH4:=s12.trans s24;clear dF dS Io hSS s12 s24 s3 s4 hm hw;cases b;refine bg ⟨_,_,hr,.non,Nat.zero_le _,_,rfl,bg ?_⟩;rotate_left;refine bF ⟨_,rfl,_,_,hr,dF4,N2 (jA _) (by decide),_,rfl,?_⟩;show if (!PyData.eqv (be (aJ ws)) (be (aJ ws)))=true then _ else _;rw [nV];refine bg ?_
  all_goals
   refine ⟨_,rfl,F,K3,rfl,.inl (.of hF4),_,rfl,S,cx,rfl,.inl (.of hS4),rfl,_,rfl,?_⟩;rw [hlF,hlS];by_cases hl:ws.length=us.length;rw [decide_eq_true (by rw [hl])];refine bF ⟨_,rfl,_,rfl,(by show 2<=sizeLine;decide),λE hE=>⟨E,[.ref F,.ref S],[aJ ws,aJ us],ws.length,rfl,.of ab,.cons (dF4.same (af.new hE)) (.cons (dS4.same (af.new hE)) .nil),(by simp),(by simp),?_,λJ Lg H5 hJ s5 hJJ dnJ=>⟨J,rfl,⟨_,.of hJJ⟩,λC hC=>?_⟩⟩⟩
   ·intro ps hps;simp only [List.mem_cons,List.not_mem_nil,or_false] at hps;rcases hps with rfl | rfl
    ·exact ⟨k5 hx,by unfold aJ;rw [NU]⟩
    ·exact ⟨k5 hy,by unfold aJ;rw [NU,hl]⟩
   have dJ:=dnJ.same cg;have s45:=(af.new (o:=.lst [.ref F,.ref S]) hE).trans s5;clear dnJ s5 hE;have hj2:=hj hl;have hjl:(bp [aJ ws,aJ us] ws.length).length<=12:=by
    unfold bp;rw [NU,List.length_range];exact hx.le
   generalize bp [aJ ws,aJ us] ws.length=js at dJ hj2 hjl;refine aE (K:=K) (xs:=Lg) (λn acc σ2 H6=>(∃ u,σ2=[u])/\af H5 H6/\aI K H5 acc (((js.take n).filter xl).map Pt.dat)) ab ⟨⟨_,rfl⟩,af.new hC,.nil⟩ (λn acc σ2 H6 _ _ q=>.of (q.2.1 _ _ hJJ)) (λn v acc σ2 H6 hv hCx q=>?_) (λacc σ2 H6 hC6 q=>?_)
   ·obtain ⟨q0,s6,dn⟩:=q;apply cf q0;clear q0;intro u;obtain ⟨p,hpn,hdp⟩:=cW dJ hv;obtain ⟨a',x1,y1,rfl,hq',_,_,Mo⟩:=ip hdp;have hal:acc.length<=12:=by
     rw [dn.length,NU];exact N2 (List.length_filter_le _ _) (N2 (by rw [N7];exact Nat.min_le_right _ _) hjl)
    have et:js.take (n+1)=js.take n++[p]:=by rw [List.take_add_one,hpn];rfl
    refine ⟨_,rfl,a',_,0,_,rfl,rfl,s6.su hq',rfl,rfl,_,rfl,?_⟩;have e1:decide (V.str x1=V.str "hole")=xl p:=by cases p <;> (rw [Mo.1];rfl)
    rw [e1,et,List.filter_append];cases hp:xl p with
    | true=>
     have e2:[p].filter xl=[p]:=List.filter_cons_of_pos hp;rw [e2,N8];exact bF ⟨_,rfl,_,hCx,small (by lia),_,ab,⟨_,rfl⟩,aq hC s6,dn.append (.cons hdp .nil)⟩
    | false=>
     have e2:[p].filter xl=[]:=List.filter_cons_of_neg (by rw [hp];decide);rw [e2,List.append_nil];exact bg ⟨_,hCx,⟨_,rfl⟩,s6,dn⟩
   obtain ⟨_,s6,dn⟩:=q;have hlj:Lg.length=js.length:=by rw [dJ.length,NU]
   rw [hlj,NZ (NX _)] at dn;refine ⟨_,rfl,Nat.zero_le _,λE2 hE2=>⟨_,_,.lst (.of ((af.new hE2) _ _ hC6)) (dn.same (s6.trans (af.new hE2))),.lst (.of ab) .nil,?_,_,rfl,rfl,_,rfl,?_⟩⟩
   ·exact N2 (jA _) (by decide)
   rw [GC,List.isEmpty_map,hj2,decide_eq_true rfl];refine bg ?_;have s4:=(s45.trans s6).trans (af.new (o:=.lst []) hE2);generalize upd H6 E2 (.lst [])=H7 at s4 ⊢;rotate_left;rw [decide_eq_false λe=>hl (by have:=V.int.inj e;lia)];refine bg ?_;have s4:=af.refl H4
   all_goals
    refine ⟨_,rfl,_,rfl,.ref F,y,aJ ws,rfl,dF4.same s4,(k5 hx).2,(qt hy).1,(qt hy).2,λH8 s8=>⟨_,rfl,rfl,?_⟩⟩;rw [f1,decide_eq_true rfl];refine ⟨_,rfl,bF ?_⟩;refine ⟨_,rfl,_,rfl,.ref S,x,aJ us,rfl,dS4.same (s4.trans s8),(k5 hy).2,(qt hx).1,(qt hx).2,λH9 s9=>⟨_,rfl,rfl,?_⟩⟩;rw [f2,decide_eq_true rfl];exact k H9 (sH4.trans ((s4.trans s8).trans s9))
def nG (K:PySem.W.Frag):Sp:=λvs H Q _=>∃ (a b:Addr) (xs:List V) (ks:List Key),vs=[.ref a,.ref b]/\SqL K H a xs/\SqL K H b (ks.map kV)/\ks.length=xs.length/\xs.length<=1000 /\
 ∀ (D:Addr) (as:List Addr) H',H D=none->af H H'->H' D=some (.lst (as.map V.ref))->(∀ a∈as,H a=none)->fX (λa g=>H' a=some (.lst g)) as (grp ks xs)->Q (.ref D) H'
theorem kA:aA ["rows","keys","groups","row","key"] ["rows","keys"] (ag (top 48)):=⟨rfl,rfl,rfl,by decide +kernel,rfl,by decide +kernel,by decide +kernel⟩
set_option maxHeartbeats 8000000 in
theorem tT (T:Tx K mg A):au P w K mg base CX0 1 A.ma A.mw ["rows","keys"] (nG K):=by
 refine T.jZ.fn.ok kA (λvs H Q E h=>?_) (λcdv Ar outer s H vs Q E hr h=>?_)
 ·obtain ⟨a,b,xs,ks,rfl,_⟩:=h;rfl
 ·obtain ⟨a,b,xs,ks,rfl,hqa,hqb,hl,hle,k⟩:=h;refine ⟨_,ah (a9 (i:=2) kA.nd rfl (Or.inl rfl) (C1))
   (ah (fP PassesOwn.never rfl (wL (by rfl) T.Be (aa (pv 0) (aa (pv 1) (ae)))) (nk rfl (cn (aw (i:=3) kA.nd rfl (Or.inl rfl)) (cn (aw (i:=4) kA.nd rfl (Or.inl rfl)) (jQ)))) (aj (iX (c5 PySem.F.plainAttrs_list PySem.F.slot_list_append PySem.F.type_list_append eM (GQ (pv 2) (pv 4) (bQ (ae)) ⟨rfl,rfl,rfl,rfl⟩) (aa (pv 3) (ae))))))
   (aj (ar (EG rfl (by rfl) T.tN o8 (pv 2))))),?_⟩
  intro G hG;have sG:af H (upd H G (.dK [])):=af.new hG;have hGG:(upd H G (.dK [])) G=some (.dK []):=ab;refine ⟨_,rfl,_,rfl,a,b,rfl,⟨_,sG.seq hqa⟩,⟨_,sG.seq hqb⟩,?_⟩;generalize upd H G (.dK [])=H1 at sG hGG ⊢;refine A6 (K:=K) (xs:=xs) (ys:=ks.map kV) (λi σ H2=>(∃ u v,σ=[some (.ref a),some (.ref b),some (.ref G),u,v])/\af H H2/\∃ (as:List Addr) (kvs:List (Key×V)),H2 G=some (.dK kvs)/\GL H H2 G as kvs (b0 ((ks.zip xs).take i))/\kvs.length<=i/\∀ g∈(b0 ((ks.zip xs).take i)).map (·.2),g.length<=i)
   ⟨⟨_,_,rfl⟩,sG,[],[],hGG,.nil,NX _,λg hg=>by cases hg⟩ (λi σ H2 q=>⟨q.2.1.seq hqa,q.2.1.seq hqb⟩) (λi x y σ H2 p hx hy q hp=>?_) (λσ H2 q=>?_)
  ·obtain ⟨q0,s2,as,kvs,hG2,gl,hkl,hgl⟩:=q;apply yc q0;clear q0;intro u v;have hi:=aF hx;rw [N1] at hy;obtain ⟨ky,hky,rfl⟩:∃ ky,ks[i]? = some ky/\y=kV ky:=by
    cases e:ks[i]? with
    | none=>rw [e] at hy;cases hy
    | some ky=>rw [e] at hy;cases hy;exact ⟨ky,rfl,rfl⟩
   have hz:(ks.zip xs)[i]? = some (ky,x):=by rw [List.getElem?_zip_eq_some];exact ⟨hky,hx⟩
   have sp:af H2 (upd H2 p (.tup [x,kV ky])):=af.new hp;have hpp:(upd H2 p (.tup [x,kV ky])) p=some (.tup [x,kV ky]):=ab;have hGp:G≠p:=ao hG2 hp;have s3:=s2.trans sp;have hG3:=sp _ _ hG2;have gl3:GL H (upd H2 p (.tup [x,kV ky])) G as kvs (b0 ((ks.zip xs).take i)):=gl.keep λc hc=>by
    obtain ⟨⟨g,e⟩,_⟩:=gl.mem c hc;exact ay (ao e hp)
   generalize upd H2 p (.tup [x,kV ky])=H3 at sp hpp s3 hG3 gl3 ⊢;refine ⟨p,_,rfl,.of hpp,rfl,_,_,rfl,_,_,rfl,rfl,?_⟩;refine ⟨_,rfl,G,rfl,.inl ⟨kvs,.of hG3⟩,_,rfl,Nat.zero_le _,λL hL=>?_⟩;have sL:af H3 (upd H3 L (.lst [])):=af.new hL;have hLL:(upd H3 L (.lst [])) L=some (.lst []):=ab;have hGL:L≠G:=(ao hG3 hL).symm;have Kg:L∉as:=λz=>by
    obtain ⟨⟨g,e⟩,_⟩:=gl3.mem L z;rw [hL] at e;cases e
   have hL0:H L=none:=s3.free hL;have s4:=s3.trans sL;have hG4:=sL _ _ hG3;have gl4:GL H (upd H3 L (.lst [])) G as kvs (b0 ((ks.zip xs).take i)):=gl3.keep λc hc=>by
    obtain ⟨⟨g,e⟩,_⟩:=gl3.mem c hc;exact ay (ao e hL)
   generalize upd H3 L (.lst [])=H4 at sL hLL s4 hG4 gl4 ⊢;have hex:b0 ((ks.zip xs).take (i+1))=bJ (b0 ((ks.zip xs).take i)) ky x:=yP hz;have hlen:∀ g∈(bJ (b0 ((ks.zip xs).take i)) ky x).map (·.2),g.length<=i+1:=λg hg=>by
    obtain ⟨q,hq,rfl⟩:=N5.mp hg;unfold bJ at hq
    split at hq
    ·obtain ⟨q',hq',rfl⟩:=N5.mp hq;have:=hgl q'.2 (List.mem_map_of_mem hq')
     split
     ·show (q'.2++[x]).length<=_;rw [List.length_append,List.length_singleton];lia
     ·lia
    ·rcases List.mem_append.mp hq with z | z
     ·have:=hgl q.2 (List.mem_map_of_mem z);lia
     ·rw [N3.mp z];show 1<=_;lia
   refine ⟨kvs,ky,hG4,rfl,small (by lia),λv' hv'=>?_,λhn=>?_⟩
   ·obtain ⟨c,g,rfl,hc,hcg,hgm,glN⟩:=gl4.grow (x:=x) hv';have hcm:=gl4.mem c hc;refine ⟨.inl ⟨rfl,_,.of hcg⟩,_,rfl,c,g,_,rfl,rfl,hcg,small (by have:=hgl g hgm;lia),?_⟩;refine ⟨⟨_,_,rfl⟩,aq hcm.2.1 s4,as,kvs,by rw [ay hcm.2.2.symm];exact hG4,by rw [hex];exact glN,by lia,by rw [hex];exact hlen⟩
   ·have hGn:H G=none:=hG;have hLu:(upd H4 G (.dK (putK kvs ky (.ref L)))) L=some (.lst []):=by rw [ay hGL];exact hLL
    refine ⟨.inl ⟨rfl,_,.of hLu⟩,_,rfl,L,[],_,rfl,rfl,hLu,small (by decide),?_⟩;have hL6:(upd (upd H4 G (.dK (putK kvs ky (.ref L)))) L (.lst ([]++[x]))) L=some (.lst [x]):=ab;have gl6:GL H (upd (upd H4 G (.dK (putK kvs ky (.ref L)))) L (.lst ([]++[x]))) G as kvs (b0 ((ks.zip xs).take i)):=gl4.keep λc hc=>by
     have:=gl4.mem c hc;rw [ay (λ(z:c=L)=>Kg (z ▸ hc)),ay this.2.2]
    obtain ⟨e1,glN⟩:=gl6.more hn hL6 hL0 hGL Kg;refine ⟨⟨_,_,rfl⟩,aq hL0 (aq hGn s4),as++[L],kvs++[(ky,.ref L)],by rw [ay hGL.symm,ab,e1],by rw [hex];exact glN,by rw [List.length_append,List.length_singleton];lia,by rw [hex];exact hlen⟩
  ·obtain ⟨q0,s2,as,kvs,hG2,gl,hkl,hgl⟩:=q;apply yc q0;clear q0;intro u v;have hm:min xs.length (ks.map kV).length=(ks.zip xs).length:=by rw [NU,List.length_zip,Nat.min_comm]
   rw [hm,NZ (NX _)] at gl;refine ⟨_,rfl,G,kvs,rfl,.of hG2,λD hD=>?_⟩;rw [gl.vals];have sD:af H2 (upd H2 D (.lst (as.map V.ref))):=af.new hD;exact k D as _ (s2.free hD) (s2.trans sD) ab (λc hc=>(gl.mem c hc).2.1) (gl.lists.mono λc g e=>sD _ _ e)
def iI (K:PySem.W.Frag):Sp:=λvs H Q _=>∃ (u:V) (p n:Nat) (wss:List (List Str)),vs=[u,.int p]/\Den K H u (gD wss)/\GOk n wss/\p<n /\
 ∀ (D:Addr) H',H D=none->af H H'->H' D=some (.lst ((wAt wss p).map V.str))->Q (.ref D) H'
def iM (K:PySem.W.Frag):Sp:=λvs H Q _=>∃ (u:V) (p n:Nat) (wss:List (List Str)),vs=[u,.int p]/\Den K H u (gD wss)/\GOk n wss/\p<n /\
 ∀ H',af H H'->Q (.int (uAt wss p).length) H'
def gf (K:PySem.W.Frag):Sp:=λvs H Q _=>∃ (u:V) (p n:Nat) (wss:List (List Str)) (t:Addr) (s l:Int),vs=[u,.int p,.ref t]/\Den K H u (gD wss)/\GOk n wss/\p<n/\SqT K H t [.int s,.int l] /\
 ∀ H',af H H'->Q (.bl (gg wss p s l)) H'
theorem xM:aA ["group","place"] ["group","place"] (ag (top 49)):=⟨rfl,rfl,rfl,by decide +kernel,rfl,by decide +kernel,by decide +kernel⟩
set_option maxHeartbeats 8000000 in
theorem l5 (T:Tx K mg A):au P w K mg base CX0 1 A.iA A.iw ["group","place"] (iI K):=by
 refine T.dX.fn.ok xM (λvs H Q E h=>?_) (λcdv Ar outer s H vs Q E hr h=>?_)
 ·obtain ⟨u,p,n,wss,rfl,_⟩:=h;rfl
 ·obtain ⟨u,p,n,wss,rfl,hd,ok,hp,k⟩:=h;obtain ⟨a,xs,rfl,hq,hds⟩:=AY hd;have hxl:xs.length=wss.length:=by rw [hds.length,NU]
  refine ⟨_,aj (ar (aW (N':=["words","place"]) (n:=1) (fi:=[1]) (g:=aY 0) rfl (aU (ag (top 49)) ["group","place"] (by decide +kernel)) (aP (pv 0)) (λs H fp=>aw (i:=0) (show (["words","place"]:List Str).Nodup by decide +kernel) rfl (Or.inl rfl) (.inr rfl)) (λs H fp=>aO) (λs H fp=>ba (r:=c9 K) aX (pv 0) (pv 1) (λ_ _=>rfl)))),?_⟩;refine ⟨_,rfl,a,rfl,⟨_,hq⟩,λD hD=>?_⟩;refine aE (K:=K) (xs:=xs) (λi acc σ H4=>(∃ u,σ=[u,some (.int p)])/\af H H4/\acc=(wAt (wss.take i) p).map V.str) ab ⟨⟨_,rfl⟩,af.new hD,rfl⟩ (λi acc σ H4 _ _ q=>q.2.1.seq hq) (λi x acc σ H4 hx hDx q=>?_) (λacc σ H4 hD4 q=>?_)
  ·obtain ⟨q0,s4,rfl⟩:=q;apply cf q0;clear q0;intro u;have hi:=aF hx;obtain ⟨ws,r,hw,rfl,hqr⟩:=rG hds hx;have z9:=ok.row ws (NV hw);have hpw:p<ws.length:=by lia
   have hat:(ws.map V.str)[p]? = some (.str (ws.getD p Str.empty)):=by rw [N1,N9,NW hpw];rfl
   have hle:=ok.le;refine bM ⟨_,rfl,_,rfl,r,_,_,_,rfl,rfl,s4.seq hqr,bA hat,_,hDx,small (by unfold wAt;rw [NU,NU,N7];lia),_,ab,⟨_,rfl⟩,aq hD s4,?_⟩;rw [Fe hw,N8];rfl
  ·obtain ⟨_,s4,rfl⟩:=q;rw [hxl,NZ (NX _)] at hD4;exact k D H4 hD s4 hD4
theorem nW:aA ["group","place"] ["group","place"] (ag (top 50)):=⟨rfl,rfl,rfl,by decide +kernel,rfl,by decide +kernel,by decide +kernel⟩
set_option maxHeartbeats 8000000 in
theorem pH (T:Tx K mg A):au P w K mg base CX0 2 A.fH A.fO ["group","place"] (iM K):=by
 have g5:au P w K mg base CX0 1 A.iA A.iw ["group","place"] (iI K):=(l5 T).mono (by decide);refine T.eV.fn.ok nW (λvs H Q E h=>?_) (λcdv Ar outer s H vs Q E hr h=>?_)
 ·obtain ⟨u,p,n,wss,rfl,_⟩:=h;rfl
 ·obtain ⟨u,p,n,wss,rfl,hd,ok,hp,k⟩:=h;refine ⟨_,aj (ar (wx B3 rfl (by rfl) T.cq PySem.boot_len (by rfl) T.EY Ab (aa (ak g5 hr (by rfl) T.dX.mg T.dX.fn.kp T.dX.bd .nil av (aa (pv 0) (aa (pv 1) (ae)))) (ae)))),?_⟩;refine ⟨_,rfl,_,rfl,u,p,n,wss,rfl,hd,ok,hp,λD H1 hD s1 hDD=>⟨D,_,rfl,.of hDD,Nat.lt_trans (ok.Jf p) (by decide),k H1 s1⟩⟩
theorem Fm {α:Type}{l m:List α}{f:α->Bool} (h:l.Perm m):l.all f=m.all f:=by
 rw [Bool.eq_iff_iff,List.all_eq_true,List.all_eq_true];exact ⟨λq x hx=>q x (h.mem_iff.mpr hx),λq x hx=>q x (h.mem_iff.mp hx)⟩
theorem Ck (ws:List Str):(ws.map V.str).all gy=true:=by
 rw [List.all_eq_true];intro x hx;obtain ⟨w,_,rfl⟩:=N5.mp hx;rfl
theorem AB (ws:List Str) (w:Str):(ws.map V.str).countP (λz=>eqV z (.str w))=ws.countP λz=>decide (z=w):=by
 rw [List.countP_map];rfl
theorem bI:aA ["group","place","sieve","spread","least","words","unlike"] ["group","place","sieve"] (ag (top 51)):=⟨rfl,rfl,rfl,by decide +kernel,rfl,by decide +kernel,by decide +kernel⟩
set_option maxHeartbeats 8000000 in
theorem l8 (T:Tx K mg A):au P w K mg base CX0 2 A.dH A.dD ["group","place","sieve"] (gf K):=by
 have g5:au P w K mg base CX0 1 A.iA A.iw ["group","place"] (iI K):=(l5 T).mono (by decide);refine T.cU.fn.ok bI (λvs H Q E h=>?_) (λcdv Ar outer s H vs Q E hr h=>?_)
 ·obtain ⟨u,p,n,wss,t,s,l,rfl,_⟩:=h;rfl
 ·obtain ⟨u,p,n,wss,t,s,l,rfl,hd,ok,hp,hqt,k⟩:=h;refine ⟨_,ah (tG (pv 2) (nk rfl (cn (aw (i:=3) bI.nd rfl (Or.inl rfl)) (cn (aw (i:=4) bI.nd rfl (Or.inr rfl)) (jQ)))))
   (ah (a9 (i:=5) bI.nd rfl (Or.inr rfl) (ak g5 hr (by rfl) T.dX.mg T.dX.fn.kp T.dX.bd .nil av (aa (pv 0) (aa (pv 1) (ae)))))
   (ah (a9 (i:=6) bI.nd rfl (Or.inl rfl) (wx (pE rfl hr) rfl (by rfl) T.oe vK (by rfl) T.EY Ab (aa (pv 5) (ae))))
   (aj (ar (qr (xA AL AL (ap) (aK (r:=cD K) aS (by rfl) T.cq PySem.boot_len (aa (pv 6) (ae))) (pv 3)) (nE (aK (r:=Cc K) (lU rfl) (by rfl) T.yJ sO (aa (aW (N':=["word","least","words"]) (n:=1) (fi:=[4,5]) (g:=aY 0) rfl (aU (ag (top 51)) ["group","place","sieve","spread","least","words","unlike"] (by decide +kernel)) (aP (pv 6)) (λs H fp=>aw (i:=0) (show (["word","least","words"]:List Str).Nodup by decide +kernel) rfl (Or.inl rfl) (.inr rfl)) (λs H fp=>aO) (λs H fp=>b6 (HG) (D1 (K:=K) rfl (r:=C8 K) PySem.F.plainAttrs_list PySem.F.slot_list_count PySem.F.type_list_count Eh (pv 2) (aa (pv 0) (ae))) (pv 1) (aQ _))) (ae))))))))),?_⟩
  refine ⟨_,rfl,t,_,rfl,hqt,rfl,_,_,rfl,_,_,rfl,rfl,?_⟩;refine ⟨_,rfl,_,rfl,u,p,n,wss,rfl,hd,ok,hp,λW H1 hW s1 hWW=>?_⟩;refine ⟨_,rfl,W,_,rfl,.of hWW,Nat.lt_trans (ok.Jf p) (by decide),ok.LS p,λU ms hU a7 hup=>?_⟩;have sU:af H1 (upd H1 U (.lst (ms.map V.str))):=af.new hU;have hUU:(upd H1 U (.lst (ms.map V.str))) U=some (.lst (ms.map V.str)):=ab;have hW2:=sU _ _ hWW;have s2:=s1.trans sU;generalize upd H1 U (.lst (ms.map V.str))=H2 at sU hUU hW2 s2 ⊢;have hml:ms.length=(uAt wss p).length:=a7.length_eq;have hlen:((ms.map V.str).length:Int)=((uAt wss p).length:Int):=by rw [NU,hml]
  refine ⟨_,rfl,U,_,rfl,.inl (.of hUU),_,_,rfl,rfl,_,rfl,?_⟩;rw [hlen];cases c1:decide ((2:Int)<=((uAt wss p).length:Int)) with
  | false=>
   refine bg ⟨_,rfl,bg ?_⟩;have e:gg wss p s l=false:=by unfold gg;rw [c1];rfl
   rw [<-e];exact k H2 s2
  | true=>
   refine bF ⟨_,rfl,_,_,rfl,rfl,_,rfl,?_⟩;cases c2:decide (((uAt wss p).length:Int)<=s) with
   | false=>
    refine bg ?_;have e:gg wss p s l=false:=by unfold gg;rw [c1,c2];rfl
    show Q (.bl false) H2;rw [<-e];exact k H2 s2
   | true=>
    refine bF ⟨_,rfl,U,rfl,⟨_,.of hUU⟩,λB hB=>?_⟩;refine aE (K:=K) (xs:=ms.map V.str) (λi acc σ H4=>(∃ u,σ=[u,some (.int l),some (.ref W)])/\af H2 H4/\acc=((ms.take i).map λw=>decide (l<=((wAt wss p).countP λz=>decide (z=w):Nat))).map V.bl) ab ⟨⟨_,rfl⟩,af.new hB,rfl⟩ (λi acc σ H4 _ _ q=>.of (q.2.1 _ _ hUU)) (λi x acc σ H4 hx hBx q=>?_) (λacc σ H4 hB4 q=>?_)
    ·obtain ⟨q0,s4,rfl⟩:=q;apply cf q0;clear q0;intro u';obtain ⟨w',hw,rfl⟩:=cY hx;have hi:=aF hw;have hu:=ok.LS p;have hW4:=s4 _ _ hW2;refine bM ⟨_,rfl,.inl ⟨rfl,_,.of hW4⟩,_,rfl,W,_,_,rfl,rfl,.of hW4,rfl,Ck _,_,rfl,_,_,rfl,rfl,?_⟩;refine ⟨_,hBx,small (by rw [NU,NU,N7];lia),_,ab,⟨_,rfl⟩,aq hB s4,?_⟩;rw [AB,List.take_add_one,hw];simp
    ·obtain ⟨_,s4,rfl⟩:=q;rw [NU,NZ (NX _)] at hB4;refine ⟨B,_,rfl,.of hB4,?_⟩;have e:gg wss p s l=((ms.map λw=>decide (l<=((wAt wss p).countP λz=>decide (z=w):Nat))).all id):=by
      unfold gg;rw [c1,c2,List.all_map,Bool.true_and,Bool.true_and];exact (Fm a7).symm
     rw [<-e];exact k H4 (s2.trans s4)
def MW:Str:=("place_to_part_at" : Str) ++ ".<locals>." ++ "<lambda>"
def cu (P:Addr) (H:Hp):Prop:=qS P ⟨183,27,183,69⟩ MW H
def gz (K:PySem.W.Frag) (P:Addr):Sp:=λvs H Q _=>∃ (u:V) (n:Nat) (wss:List (List Str)) (t:Addr) (s l:Int),vs=[u,.ref t]/\Den K H u (gD wss)/\GOk n wss/\SqT K H t [.int s,.int l]/\cu P H /\
 ∀ H',af (wo P H) H'->cu P H'->Q (M6 (plc wss n s l)) H'
theorem gx:aA ["group","sieve","places"] ["group","sieve"] (ag (top 52)):=⟨rfl,rfl,rfl,by decide +kernel,rfl,by decide +kernel,by decide +kernel⟩
set_option maxHeartbeats 8000000 in
theorem mG (T:Tx K mg A):au P w K mg base CX0 5 A.ef A.cF ["group","sieve"] (gz K A.aM):=by
 have mH:au P w K mg base CX0 4 A.dH A.dD ["group","place","sieve"] (gf K):=(l8 T).mono (by decide);have nY:au P w K mg base CX0 2 A.fH A.fO ["group","place"] (iM K):=(pH T).mono (by decide);refine T.dh.fn.okC T.lam.code gx (λvs H Q E h=>?_) (λAr outer s H vs Q E hr h=>?_)
 ·obtain ⟨u,n,wss,t,s,l,rfl,_⟩:=h;rfl
 ·obtain ⟨u,n,wss,t,s',l,rfl,hd,ok,hqt,hla,k⟩:=h;obtain ⟨a,xs,rfl,hq,hds⟩:=AY hd;have hxl:xs.length=wss.length:=by rw [hds.length,NU]
  have hlen:0<wss.length:=List.length_pos_iff.mpr ok.ne;have hx0:xs[0]? = some xs[0]:=NW (by lia);obtain ⟨ws0,r0,hw0,er0,MK⟩:=rG hds hx0;have Kz:=ok.row ws0 (NV hw0);have h12:=ok.CV;refine ⟨_,ah (gL (i:=2) (N':=["place","group","sieve"]) (n:=1) (fi:=[0,1]) (g:=aY 0) gx.nd rfl (Or.inl rfl) rfl (aU (ag (top 52)) ["group","sieve","places"] (by decide +kernel)) (eL (by rfl) T.gT (aa (aK (r:=cD K) aS (by rfl) T.cq PySem.boot_len (aa (ba (r:=c9 K) aX (pv 0) (ap) (λ_ _=>rfl)) (ae))) (ae))) (λs H fp=>aw (i:=0) (show (["place","group","sieve"]:List Str).Nodup by decide +kernel) rfl (Or.inl rfl) (.inr rfl)) (λs H fp=>dO (bi (ak mH hr (by rfl) T.cU.mg T.cU.fn.kp T.cU.bd .nil av (aa (pv 1) (aa (pv 0) (aa (pv 2) (ae))))))) (λs H fp=>pv 0))
   (aj (ar (GV (P:=A.aM) (y:= "place") (N':=["place","group"]) (fi:=[0]) rfl hr (JA (ag (top 52)) ["group","sieve","places"] (by decide +kernel)) rfl T.lam.hd T.lam.bm (λq c' s H=>ak nY (hr.in1.deeper _) (by rfl) T.eV.mg T.eV.fn.kp T.eV.bd .nil av (aa (pv 1) (aa (pv 0) (ae)))) (by rfl) T.Bb (aa (pv 2) (ae))))),?_⟩
  rw [er0] at hx0;refine ⟨_,rfl,a,xs,0,_,rfl,rfl,hq,bA (j:=0) hx0,r0,_,rfl,.inl MK,(n:Int),?_,by lia,by lia,λD hD=>?_⟩
  ·rw [NU,Kz.1]
  refine ia (λi acc σ H4=>(∃ u,σ=[u,some (.ref a),some (.ref t)])/\af H H4/\acc=(i5 wss i s' l).map λp=>V.int (p:Nat)) ab ⟨⟨_,rfl⟩,af.new hD,rfl⟩ (λi acc σ H4 hi hDx q=>?_) (λacc σ H4 hD4 q=>?_)
  ·obtain ⟨q0,s4,rfl⟩:=q;apply cf q0;clear q0;intro u';have hi':i<n:=by lia
   have hpl:=Ex (wss:=wss) (i:=i) (s:=s') (l:=l);have e0:((0:Int)+(i:Int))=((i:Nat):Int):=by lia
   refine ⟨_,rfl,_,rfl,_,rfl,.ref a,i,n,wss,t,s',l,?_,hd.same s4,ok,hi',s4.su hqt,λH5 s5=>⟨_,rfl,?_⟩⟩
   ·rw [e0];rfl
   rw [Cn];cases hf:gg wss i s' l with
   | true=>
    refine bF ⟨_,rfl,_,s5 _ _ hDx,small (by rw [NU];lia),_,ab,⟨_,rfl⟩,aq hD (s4.trans s5),?_⟩;have e2:[i].filter (λp=>gg wss p s' l)=[i]:=by simp [hf]
    rw [e2,N8,e0];rfl
   | false=>
    refine bg ⟨_,s5 _ _ hDx,⟨_,rfl⟩,s4.trans s5,?_⟩;have e2:[i].filter (λp=>gg wss p s' l)=[]:=by simp [hf]
    rw [e2,List.append_nil]
  ·obtain ⟨_,s4,rfl⟩:=q;have la4:cu A.aM H4:=bh hla s4;refine ⟨_,rfl,.ref D,rfl,la4,λc H5 hn la5 hcx=>?_⟩;have sw:af (wo A.aM H4) H5:=DY hn;obtain ⟨ps,htb⟩:=eY la4;have hd5:Den K H5 (.ref a) (gD wss):=(Bm htb (hd.same s4)).same sw;have hD5:H5 D=_:=vQ sw htb hD4 λqs e=>by cases e
   have s05:af (wo A.aM H) H5:=(mF s4).trans sw;have en:(n:Int).toNat=n:=by lia
   refine qc (kds:=(i5 wss n s' l).map λp=>.int (uAt wss p).length) (Sh.ok .int) (.of hD5) (by rw [NU,NU,en]) (λd hd=>?_) (λm x d H6 Q6 hx hd s6 kk=>?_) (λE9=>?_) (λhnn H6 s6=>?_)
   ·obtain ⟨p,_,rfl⟩:=N5.mp hd;exact ⟨⟨_,rfl⟩,Hm _⟩
   ·rw [en,N1] at hx;rw [N1] at hd;cases e:(i5 wss n s' l)[m]? with
    | none=>rw [e] at hx;cases hx
    | some p=>
     rw [e] at hx hd;cases hx;cases hd;have hp:=(xN (NV e)).1;exact ⟨_,rfl,s6 _ _ hcx,_,rfl,_,rfl,.ref a,p,n,wss,rfl,hd5.same s6,ok,hp,λH7 s7=>kk _ H7 s7 (.int _)⟩
   ·have e:plc wss n s' l=none:=by
     unfold plc;rw [if_pos];have:=List.map_eq_nil_iff.mp E9
     rwa [en] at this
    have:=k H5 s05 la5;rw [e] at this;exact this
   ·rw [en] at hnn ⊢;have hne:i5 wss n s' l≠[]:=λe=>hnn (by rw [e];rfl);have hl:=xk wss _ hne;have e:plc wss n s' l=some ((i5 wss n s' l).getD (bz ((i5 wss n s' l).map λp=>.int (uAt wss p).length)) 0):=by unfold plc;rw [if_neg hne]
    have:=k H6 (s05.trans s6) (bh la5 s6);rw [e] at this;have e2:((i5 wss n s' l).map λp=>V.int (p:Nat)).getD (bz ((i5 wss n s' l).map λp=>.int (uAt wss p).length)) .non=V.int ((i5 wss n s' l).getD (bz ((i5 wss n s' l).map λp=>.int (uAt wss p).length)) 0:Nat):=by
     rw [N9,N1,N9,NW hl];rfl
    rw [e2];exact this
def rH (N:Nat) (K:PySem.W.Frag) (P:Addr):Sp:=λvs H Q _=>∃ (B:Hp) (u:V) (n:Nat) (wss:List (List Str)) (t:Addr) (s l:Int),vs=[u,.ref t]/\af B H/\B P=none/\Den K B u (gD wss)/\GOk n wss/\SqT K H t [.int s,.int l]/\cu P H/\mu n wss<N /\
 ∀ (D:Addr) (ys:List V) (C H':Hp),H D=none->af (wo P H) H'->cu P H'->H' D=some (.lst ys)->af B C->af C H'->(∀ b,C b≠none->B b≠none\/H b=none)->C P=none->aI K C ys ((prt n s l N wss).map gD)->Q (.ref D) H'
def uJ (K:PySem.W.Frag) (P:Addr):Sp:=rH 13 K P
theorem mv:aA ["group","sieve","place","groups","smaller"] ["group","sieve"] (ag (top 53)):=⟨rfl,rfl,rfl,by decide +kernel,rfl,by decide +kernel,by decide +kernel⟩
set_option maxHeartbeats 8000000 in
theorem Bt (T:Tx K mg A):∀ N,au P w K mg base CX0 (6+N) A.jo A.jv ["group","sieve"] (rH N K A.aM)
 | 0=>⟨λvs H Q E h=>by obtain ⟨B,u,n,wss,t,s,l,rfl,_⟩:=h;rfl,λ_ _ _ _ _ _ _ _ _ _ _ _ _ h=>by obtain ⟨B,u,n,wss,t,s,l,_,_,_,_,_,_,_,h1,_⟩:=h;lia⟩
 | N+1=>by
  have m9:au P w K mg base CX0 (6+N) A.ef A.cF ["group","sieve"] (gz K A.aM):=(mG T).mono (by lia);have p5:au P w K mg base CX0 (6+N) A.ma A.mw ["rows","keys"] (nG K):=(tT T).mono (by lia);have g5:au P w K mg base CX0 (6+N) A.iA A.iw ["group","place"] (iI K):=(l5 T).mono (by lia);have sP:au P w K mg base CX0 (6+N) A.jo A.jv ["group","sieve"] (rH N K A.aM):=Bt T N;show au P w K mg base CX0 ((6+N)+1) A.jo A.jv ["group","sieve"] (rH (N+1) K A.aM);refine T.parted.fn.ok mv (λvs H Q E h=>?_) (λcdv Ar outer s H vs R E hr h=>?_)
  ·obtain ⟨B,u,n,wss,t,s,l,rfl,_⟩:=h;rfl
  ·obtain ⟨B,u,n,wss,t,s',l,rfl,hBH,hBP,hdB,ok,hqt,hla,hmu,k⟩:=h;refine ⟨_,ah (a9 (i:=2) mv.nd rfl (Or.inl rfl) (ak m9 hr (by rfl) T.dh.mg T.dh.fn.kp T.dh.bd .nil av (aa (pv 0) (aa (pv 1) (ae)))))
   (ah (bj (aR (FC) (pv 2) (lj) (aQ _)) (aj (ar (bQ (aa (pv 0) (ae))))) (aG))
   (ah (a9 (i:=3) mv.nd rfl (Or.inl rfl) (bQ (ae)))
   (ah (fP PassesOwn.never rfl (aP (ak p5 hr (by rfl) T.jZ.mg T.jZ.fn.kp T.jZ.bd .nil av (aa (pv 0) (aa (ak g5 hr (by rfl) T.dX.mg T.dX.fn.kp T.dX.bd .nil av (aa (pv 0) (aa (pv 2) (ae)))) (ae))))) (aw (i:=4) mv.nd rfl (Or.inl rfl)) (aj (iX (c5 PySem.F.plainAttrs_list PySem.F.slot_list_extend PySem.F.type_list_extend vh (pv 3) (aa (ak sP hr (by rfl) T.parted.mg T.parted.fn.kp T.parted.bd .nil av (aa (pv 4) (aa (pv 1) (ae)))) (ae))))))
   (aj (ar (pv 3)))))),?_⟩
   obtain ⟨a,xs,rfl,hqB,Ll⟩:=AY hdB;have hxl:xs.length=wss.length:=by rw [Ll.length,NU]
   obtain ⟨tb,htb⟩:=eY hla;have hBw:af B (wo A.aM H):=iH hBP hBH;refine ⟨_,rfl,_,rfl,.ref a,n,wss,t,s',l,rfl,hdB.same hBH,ok,hqt,hla,λH1 s1 la1=>?_⟩;have hB1:af B H1:=hBw.trans s1;have Ml:SqT K H1 t [.int s',.int l]:=s1.su (oQ htb hqt);obtain ⟨tb1,Kh⟩:=eY la1;have old:∀ {b:Addr}{H':Hp},af (wo A.aM H) H'->H' b=none->b≠A.aM->H b=none:=λ{b H'} s' e ne=>by
    have:=s'.free e
    rwa [aT ne] at this
   refine ⟨_,rfl,rfl,_,rfl,?_⟩;cases hpl:plc wss n s' l with
   | none=>
    refine bF ⟨_,rfl,(by show 1<=sizeLine;decide),λD hD=>?_⟩;have sD:af H1 (upd H1 D (.lst [.ref a])):=af.new hD;have e:prt n s' l (N+1) wss=[wss]:=by unfold prt;rw [hpl]
    exact k D _ B _ (old s1 hD (ao Kh hD).symm) (s1.trans sD) (bh la1 sD) ab (af.refl B) (hB1.trans sD) (λb h=>.inl h) hBP (by rw [e];exact .cons hdB .nil)
   | some p=>
    obtain ⟨hp,L7⟩:=JQ hpl;have epr:prt n s' l (N+1) wss=(byW wss p).flatMap (prt n s' l N):=by
     conv=>lhs;unfold prt
     rw [hpl]
    refine bg ?_;refine ⟨Nat.zero_le _,λG hG=>?_⟩;have sG:af H1 (upd H1 G (.lst [])):=af.new hG;have hGG:(upd H1 G (.lst [])) G=some (.lst []):=ab;have hGP:G≠A.aM:=(ao Kh hG).symm;have la2:=bh la1 sG;have s2:af (wo A.aM H) (upd H1 G (.lst [])):=s1.trans sG;generalize upd H1 G (.lst [])=H2 at sG hGG la2 s2 ⊢;refine ⟨_,rfl,_,rfl,_,rfl,.ref a,p,n,wss,rfl,hdB.same (hB1.trans sG),ok,hp,λW H3 hW s3 hWW=>?_⟩;have s13:=sG.trans s3;have ek:((wAt wss p).map V.str)=((wAt wss p).map (Sum.inr:Str->Key)).map kV:=by rw [List.map_map];rfl
    rw [ek] at hWW;have hwl:=ok.le;refine ⟨a,W,xs,(wAt wss p).map Sum.inr,rfl,(hB1.trans s13).seq hqB,.of hWW,by rw [NU];unfold wAt;rw [NU,hxl],by lia,λD as H4 hD s4 hDD has fc=>⟨D,rfl,⟨_,.of hDD⟩,?_⟩⟩;have s14:=s13.trans s4;have hG3:=s3 _ _ hGG;have hG4:=s4 _ _ hG3;have la4:cu A.aM H4:=bh la2 (s3.trans s4);have s04:af (wo A.aM H) H4:=s2.trans (s3.trans s4);obtain ⟨tb4,J4⟩:=eY la4;have hB4:af B H4:=hB1.trans s14;have NE:=s14.su Ml;have hGH:H G=none:=old s1 hG hGP;have hBG:B G=none:=by
     cases e:B G with
     | none=>rfl
     | some o=>rw [hBH _ _ e] at hGH;cases hGH
    have hC:∃ C4:Hp,af B C4/\af C4 H4/\C4 G=none/\C4 A.aM=none/\(∀ b,C4 b≠none->B b≠none\/H b=none)/\∀ c∈as,(∀ g,H4 c=some (.lst g)->g≠[]->C4 c=H4 c):=by
     refine ⟨λb=>if b=G\/b=A.aM then none else if B b≠none\/b∈as then H4 b else none,λb o e=>?_,λb o e=>?_,by simp,by simp,λb hb=>?_,λc hc g hg hne=>?_⟩
     ·have h1:b≠G:=λz=>by rw [z,hBG] at e;cases e
      have h2:b≠A.aM:=λz=>by rw [z,hBP] at e;cases e
      show (if b=G\/b=A.aM then none else _)=_;rw [if_neg (by rintro (z | z) <;> contradiction),if_pos (.inl (by rw [e];simp))];exact hB4 _ _ e
     ·dsimp only at e
      split at e
      ·cases e
      ·split at e
       ·exact e
       ·cases e
     ·dsimp only at hb
      split at hb
      ·exact absurd rfl hb
      ·rename_i hn
       split at hb
       ·rename_i hor;rcases hor with z | z
        ·exact .inl z
        ·refine .inr (old (s2.trans s3) (has b z) λw=>hn (.inr w))
       ·exact absurd rfl hb
     ·have h1:c≠G:=λz=>by rw [z,hG4] at hg;cases hg;exact hne rfl
      have h2:c≠A.aM:=λz=>by rw [z,J4] at hg;cases hg
      show (if c=G\/c=A.aM then none else _)=_;rw [if_neg (by rintro (z | z) <;> contradiction),if_pos (.inr hc)]
    obtain ⟨C4,hBC,hC4,hCG,hCP,hCb,hCa⟩:=hC;have EN:=Bx (uX (Ll.same hBC)) ((wAt wss p).map Sum.inr);refine jC (K:=K) (xs:=as.map V.ref) (λi σ H5=>(∃ v,σ=[some (.ref a),some (.ref t),some (.int p),some (.ref G),v])/\af (wo A.aM (wo G H4)) H5/\cu A.aM H5/\∃ (acc:List V) (C:Hp),H5 G=some (.lst acc)/\af C4 C/\af C H5/\C G=none/\C A.aM=none/\(∀ b,C b≠none->B b≠none\/H b=none)/\aI K C acc ((((byW wss p).take i).flatMap (prt n s' l N)).map gD))
     ⟨⟨_,rfl⟩,bG.trans bG,la4,[],C4,hG4,af.refl _,hC4,hCG,hCP,hCb,.nil⟩ (λi σ H5 _ q=>.of (q.2.1 _ _ (by
      have h1:D≠G:=λz=>by rw [z,hG3] at hD;cases hD
      have h2:D≠A.aM:=λz=>by rw [z,J4] at hDD;cases hDD
      rw [aT h2,aT h1];exact hDD))) (λi x σ H5 hx q=>?_) (λσ H5 q=>?_)
    ·obtain ⟨q0,s5,la5,acc,C,hG5,sC,sC5,cG,cP,cb,dn⟩:=q;apply cf q0;clear q0;intro v;rw [N1] at hx;obtain ⟨c,hci,rfl⟩:∃ c,as[i]? = some c/\x = .ref c:=by
      cases e:as[i]? with
      | none=>rw [e] at hx;cases hx
      | some c=>rw [e] at hx;cases hx;exact ⟨c,rfl,rfl⟩
     obtain ⟨g,hgi,hcg⟩:=fc.at hci;obtain ⟨wg,hwi,hgw⟩:=EN.at hgi;have hwm:wg∈byW wss p:=NV hwi;have EK:=(qa hwm).1;have Jx:g≠[]:=λe=>by
      have:=hgw.len;rw [e] at this;exact EK (List.length_eq_zero_iff.mp this.symm)
     have hcC:C4 c=some (.lst g):=(hCa c (NV hci) g hcg Jx).trans hcg;have hdc:Den K C4 (.ref c) (gD wg):=.lst (.of hcC) (uU hgw);have hC5:af C4 H5:=sC.trans sC5;have s05:af (wo A.aM H) H5:=λb o e=>by
      by_cases h1:b=G
      ·rw [h1,aT hGP,hGH] at e;cases e
      ·have h2:=(gq e).1;exact s5 b o (by rw [aT h2,aT h1];exact s04 b o e)
     have L0:SqT K H5 t [.int s',.int l]:=s05.su (oQ htb hqt);refine ⟨_,rfl,.inl ⟨rfl,_,.of hG5⟩,_,rfl,_,rfl,C4,.ref c,n,wg,t,s',l,rfl,hC5,hCP,hdc,ok.sub hwm,L0,la5,by have:=JT hp (Gi L7) hwm;lia,λD2 ys C' H6 hD2 s6 la6 Hq sC' Ln cb' cP' dn'=>?_⟩;obtain ⟨tb5,yk⟩:=eY la5;have hG6:H6 G=some (.lst acc):=vQ s6 yk hG5 λqs e=>by cases e
     have sC6:af C H6:=(iH cP sC5).trans s6;have cG':C' G=none:=by
      cases e:C' G with
      | none=>rfl
      | some o=>
       rcases cb' G (by rw [e];simp) with z | z
       ·exact absurd hCG z
       ·rw [hG5] at z;cases z
     have hal:acc.length<=wss.length:=by rw [dn.length,NU];exact Gn i
     have hyl:ys.length<=wg.length:=by rw [dn'.length,NU];exact pf EK
     have hgl:=(qa hwm).2.1;refine ⟨G,D2,acc,ys,rfl,rfl,hG6,Hq,N2 (show _<=1000 by lia) (by decide),?_⟩;refine ⟨⟨_,rfl⟩,aq (by rw [aT hGP,d6]) (ck s5 s6),wa la6 hG6,acc++ys,hU C C',ab,sC.trans Ku,aq (wJ cG cG') (JU sC6 Ln),wJ cG cG',wJ cP cP',λb hb=>?_,?_⟩
     ·rcases LM hb with z | z
      ·exact cb b z
      ·rcases cb' b z with w | w
       ·exact hCb b w
       ·refine .inr (old s05 w λe=>z (by rw [e];exact cP'))
     ·rw [List.take_add_one,show (byW wss p)[i]? = some wg from hwi];simp only [Option.toList,List.flatMap_append,N8,List.flatMap_cons,List.flatMap_nil,List.append_nil];exact (dn.same Ku).append (dn'.same (Nh sC6 Ln))
    ·obtain ⟨q0,s5,la5,acc,C,hG5,sC,sC5,cG,cP,cb,dn⟩:=q;apply cf q0;clear q0;intro v;have hbl:as.length=(byW wss p).length:=by rw [fc.len,EN.len];rfl
     rw [NU,hbl,NZ (NX _)] at dn;have s05:af (wo A.aM H) H5:=λb o e=>by
      by_cases h1:b=G
      ·rw [h1,aT hGP,hGH] at e;cases e
      ·have h2:=(gq e).1;exact s5 b o (by rw [aT h2,aT h1];exact s04 b o e)
     refine ⟨_,rfl,k G acc C H5 hGH s05 la5 hG5 (hBC.trans sC) sC5 cb cP ?_⟩;rw [epr];exact dn
theorem CD (T:Tx K mg A):au P w K mg base CX0 19 A.jo A.jv ["group","sieve"] (uJ K A.aM):=Bt T 13
def gA (K:PySem.W.Frag):Sp:=λvs H Q _=>∃ (u:V) (n:Nat) (wss:List (List Str)),vs=[u]/\Den K H u (gD wss)/\GOk n wss /\
 ∀ D acc H',H D=none->af H H'->H' D=some (.lst acc)->aI K (lim H H') acc ((bp (wss.map aJ) n).map Pt.dat)->Q (.ref D) H'
theorem DR {H:Hp}{M:Addr}{xs:List V} (h:H M=some (.lst xs)):af (tO H) (wo M H):=λb o e=>by
 obtain ⟨n,e⟩:=w5 e;have:b≠M:=λz=>by rw [z,h] at e;cases e;exact n _ rfl
 rw [aT this];exact e
theorem mM:aA ["group"] ["group"] (ag (top 54)):=⟨rfl,rfl,rfl,by decide +kernel,rfl,by decide +kernel,by decide +kernel⟩
set_option maxHeartbeats 8000000 in
theorem mL (T:Tx K mg A):au P w K mg base CX0 6 A.d7 A.eB ["group"] (gA K):=by
 have tm:au P w K mg base CX0 5 A.pC A.oP ["patterns"] (qy K):=(vf T).mono (by decide);refine T.dg.fn.ok mM (λvs H Q E h=>?_) (λcdv Ar outer s H vs Q E hr h=>?_)
 ·obtain ⟨u,n,wss,rfl,_⟩:=h;rfl
 ·obtain ⟨u,n,wss,rfl,hd,ok,k⟩:=h;obtain ⟨a,xs,rfl,hq,hds⟩:=AY hd;have hxl:xs.length=wss.length:=by rw [hds.length,NU]
  have hle:=ok.le;have h12:=ok.CV;refine ⟨_,aj (ar (ak tm hr (by rfl) T.joined.mg T.joined.fn.kp T.joined.bd .nil av (aa (aW (N':=["words"]) (n:=1) (fi:=[]) (g:=aY 0) rfl (aU (ag (top 54)) ["group"] (by decide +kernel)) (aP (pv 0)) (λs H fp=>aw (i:=0) (show (["words"]:List Str).Nodup by decide +kernel) rfl (Or.inl rfl) (.inr rfl)) (λs H fp=>aO) (λs H fp=>aW (wi:=FG K (qb 0)) (N':=["word"]) (n:=1) (fi:=[]) (g:=aY 0) rfl (A9 (ag (top 54)) (by decide +kernel)) (aP (pv 0)) (λs H fp=>aw (i:=0) (show (["word"]:List Str).Nodup by decide +kernel) rfl (Or.inl rfl) (.inr rfl)) (λs H fp=>aO) (λs H fp=>eF (aa (aH) (aa (pv 0) (ae)))))) (ae)))),?_⟩;refine ⟨_,rfl,a,rfl,⟨_,hq⟩,λM hM=>?_⟩;refine aE (K:=K) (xs:=xs) (λi acc σ H2=>(∃ u,σ=[u])/\af H H2/\aI K (wo M H2) acc (((wss.take i).map aJ).map be)) ab ⟨⟨_,rfl⟩,af.new hM,.nil⟩ (λi acc σ H2 _ _ q=>q.2.1.seq hq) (λi x acc σ H2 hx hMx q=>?_) (λacc σ H2 hM2 q=>?_)
  ·obtain ⟨q0,s2,dn2⟩:=q;apply cf q0;clear q0;intro u;obtain ⟨ws,r,hw,rfl,hqr⟩:=rG hds hx;have hi:=aF hw;have z9:=ok.row ws (NV hw);have hal:acc.length<=64:=by rw [dn2.length,NU,NU,N7];lia
   refine bM ⟨_,rfl,r,rfl,⟨_,s2.seq hqr⟩,λI hI=>?_⟩;have hIM:I≠M:=(ao hMx hI).symm;refine aE (K:=K) (xs:=ws.map V.str) (λj bP σ2 H3=>(∃ u,σ2=[u])/\af H2 H3/\aI K (tO H3) bP (((ws.take j).map Pt.word).map Pt.dat)) ab ⟨⟨_,rfl⟩,af.new hI,.nil⟩ (λj bP σ2 H3 _ _ q=>(s2.trans q.2.1).seq hqr) (λj y bP σ2 H3 hy hIx q=>?_) (λbP σ2 H3 hI3 q=>?_)
   ·obtain ⟨q0,s3,dn3⟩:=q;apply cf q0;clear q0;intro u;obtain ⟨w',hw',rfl⟩:=cY hy;have hj:=aF hw';have hwk:=z9.2 w' (NV hw');have NR:bP.length+1<=20:=by rw [dn3.length,NU,NU,N7];lia
    refine bM ⟨_,rfl,(by show 2<=sizeLine;decide),λt ht=>?_⟩;have st:af H3 (upd H3 t (.tup [.str "word",.str w'])):=af.new ht;have pt:Ii (upd H3 t (.tup [.str "word",.str w'])) (.ref t) (.word w'):=⟨t,rfl,ab⟩;have hI4:=st _ _ hIx;refine ⟨_,hI4,small (by lia),_,ab,⟨_,rfl⟩,aq hI (s3.trans st),?_⟩;have et:(ws.take (j+1)).map Pt.word=(ws.take j).map Pt.word++[.word w']:=by rw [List.take_add_one,hw'];simp
    rw [et,N8];have tt:=DI (ys:=bP++[.ref t]) hI4;exact (dn3.same ((Hz st).trans tt)).append (.cons ((pt.den hwk).same tt) .nil)
   ·obtain ⟨_,s3,dn3⟩:=q;rw [NU,NZ (NX _)] at dn3;have hM3:=s3 _ _ hMx;refine ⟨_,hM3,small (by lia),_,ab,⟨_,rfl⟩,aq hM (s2.trans s3),?_⟩;rw [p7,List.take_add_one,hw];simp only [Option.toList,N8,Oc,List.map_nil];refine (dn2.same (mF s3)).append (.cons (.lst (xs:=bP) (.of (by rw [aT hIM];exact hI3)) (dn3.same (DR hM3))) .nil)
  ·obtain ⟨_,s2,dn2⟩:=q;rw [hxl,NZ (NX _)] at dn2;refine ⟨M,acc,wss.map aJ,n,rfl,.of hM2,dn2.same bG,λe=>ok.ne (List.map_eq_nil_iff.mp e),by rw [NU];lia,λps hps=>?_,λD C9 H3 hD s3 hDD dn3=>?_⟩
   ·obtain ⟨ws,hws,rfl⟩:=N5.mp hps;have z9:=ok.row ws hws;refine ⟨⟨by unfold aJ;rw [NU];lia,λp hp=>?_⟩,by unfold aJ;rw [NU];exact z9.1⟩;obtain ⟨w',hw',rfl⟩:=N5.mp hp;exact (z9.2 w' hw').ok
   ·exact k D C9 H3 (s2.free hD) (s2.trans s3) hDD (dn3.same (eS s2.ll))
def oK (K:PySem.W.Frag) (P:Addr):Sp:=λvs H Q _=>∃ (a t:Addr) (zs:List Str) (s l:Int),vs=[.ref a,.ref t]/\Rd H a (.lst (zs.map V.str))/\zs.length<64/\(∀ z∈zs,∃ ws,lK 12 z ws)/\SqT K H t [.int s,.int l]/\cu P H /\
 ∀ (D:Addr) (ms:List Str) (acc:List V) (H':Hp) (ps:List (List Pt)),ms.Perm (jI [] zs)->UpS ms->H D=none->af (wo P H) H'->cu P H'->H' D=some (.lst acc)->ps.Perm (gth s l (ms.map λz=>Txt.split z " "))->lZ ps->jz ps->ps.length<64->A5 H H' acc->(∀ x∈acc,x ≠ .ref D)->aI K (lim H H') acc (ps.map be)->Q (.ref D) H'
theorem Au {ms:List Str}{z:Str}{i:Nat} (h:ms[i]? = some z):(ms.take (i+1)).map (λz=>Txt.split z " ")=(ms.take i).map (λz=>Txt.split z " ")++[Txt.split z " "]:=by
 rw [List.take_add_one,h];simp
theorem iS:aA ["lines","sieve","rows","patterns","group"] ["lines","sieve"] (ag (top 55)):=⟨rfl,rfl,rfl,by decide +kernel,rfl,by decide +kernel,by decide +kernel⟩
set_option maxHeartbeats 8000000 in
theorem yN (T:Tx K mg A):au P w K mg base CX0 20 A.nD A.nh ["lines","sieve"] (oK K A.aM):=by
 have p5:au P w K mg base CX0 19 A.ma A.mw ["rows","keys"] (nG K):=(tT T).mono (by decide);have eH:au P w K mg base CX0 19 A.gX A.gY ["patterns"] (g9 K):=(kE T).mono (by decide);have eA:au P w K mg base CX0 19 A.fB A.fQ ["line"] (gb K):=(iO T).mono (by decide);have mY:au P w K mg base CX0 19 A.d7 A.eB ["group"] (gA K):=(mL T).mono (by decide);have sP:au P w K mg base CX0 19 A.jo A.jv ["group","sieve"] (uJ K A.aM):=(CD T).mono (by decide);refine T.gathered.fn.ok iS (λvs H Q E h=>?_) (λcdv Ar outer s H vs Q E hr h=>?_)
 ·obtain ⟨a,t,zs,s,l,rfl,_⟩:=h;rfl
 ·obtain ⟨a,t,zs,s',l,rfl,hqa,h64,hzs,hqt,hla,k⟩:=h;refine ⟨_,ah (gL (i:=2) (N':=["line"]) (n:=1) (fi:=[]) (g:=aY 0) iS.nd rfl (Or.inl rfl) rfl (aU (ag (top 55)) ["lines","sieve","rows","patterns","group"] (by decide +kernel)) (aP (wx (pE rfl hr) rfl (by rfl) T.oe vK (by rfl) T.EY Ab (aa (pv 0) (ae)))) (λs H fp=>aw (i:=0) (show (["line"]:List Str).Nodup by decide +kernel) rfl (Or.inl rfl) (.inr rfl)) (λs H fp=>aO) (λs H fp=>ak eA hr (by rfl) T.words_of.mg T.words_of.fn.kp T.words_of.bd .nil av (aa (pv 0) (ae))))
   (ah (a9 (i:=3) iS.nd rfl (Or.inl rfl) (bQ (ae)))
   (ah (fP PassesOwn.never rfl (aP (ak p5 hr (by rfl) T.jZ.mg T.jZ.fn.kp T.jZ.bd .nil av (aa (pv 2) (aa (aW (N':=["words"]) (n:=1) (fi:=[]) (g:=aY 0) rfl (aU (ag (top 55)) ["lines","sieve","rows","patterns","group"] (by decide +kernel)) (aP (pv 2)) (λs H fp=>aw (i:=0) (show (["words"]:List Str).Nodup by decide +kernel) rfl (Or.inl rfl) (.inr rfl)) (λs H fp=>aO) (λs H fp=>aK (r:=cD K) aS (by rfl) T.cq PySem.boot_len (aa (pv 0) (ae)))) (ae))))) (aw (i:=4) iS.nd rfl (Or.inl rfl)) (aj (iX (c5 PySem.F.plainAttrs_list PySem.F.slot_list_extend PySem.F.type_list_extend vh (pv 3) (aa (aW (N':=["smaller"]) (n:=1) (fi:=[]) (g:=aY 0) rfl (aU (ag (top 55)) ["lines","sieve","rows","patterns","group"] (by decide +kernel)) (aP (ak sP hr (by rfl) T.parted.mg T.parted.fn.kp T.parted.bd .nil av (aa (pv 4) (aa (pv 1) (ae))))) (λs H fp=>aw (i:=0) (show (["smaller"]:List Str).Nodup by decide +kernel) rfl (Or.inl rfl) (.inr rfl)) (λs H fp=>aO) (λs H fp=>ak mY hr (by rfl) T.dg.mg T.dg.fn.kp T.dg.bd .nil av (aa (pv 0) (ae)))) (ae))))))
   (aj (ar (ak eH hr (by rfl) T.ordered.mg T.ordered.fn.kp T.ordered.bd .nil av (aa (pv 3) (ae))))))),?_⟩
  have hdl:=yU zs;refine ⟨_,rfl,a,zs,rfl,hqa,by lia,by lia,λS ms hS a7 hup=>⟨S,rfl,⟨_,.of ab⟩,λR hR=>?_⟩⟩;have hml:=a7.length_eq;have hmz:∀ z∈ms,∃ ws,lK 12 z ws:=λz hz=>hzs z ((oJ.mp (a7.mem_iff.mp hz)).resolve_left (by simp));obtain ⟨tb,htb⟩:=eY hla;have sS:af H (upd H S (.lst (ms.map V.str))):=af.new hS;have hSS:(upd H S (.lst (ms.map V.str))) S=some (.lst (ms.map V.str)):=ab;generalize upd H S (.lst (ms.map V.str))=H1 at sS hSS hR ⊢;refine aE (K:=K) (xs:=ms.map V.str) (λi acc σ H2=>(∃ u,σ=[u])/\af H1 H2/\aI K (wo R H2) acc (((ms.take i).map λz=>Txt.split z " ").map wsD)) ab ⟨⟨_,rfl⟩,af.new hR,.nil⟩ (λi acc σ H2 _ _ q=>.of (q.2.1 _ _ hSS)) (λi x acc σ H2 hx hRx q=>?_) (λacc σ H2 hR2 q=>?_)
  ·obtain ⟨q0,s2,dn2⟩:=q;apply cf q0;clear q0;intro u;obtain ⟨z,hz,rfl⟩:=cY hx;have hi:=aF hz;obtain ⟨ws,hln⟩:=hmz z (NV hz);have hlo:=hln.ok (by decide);have hal:acc.length<=64:=by rw [dn2.length,NU,NU,N7];lia
   refine bM ⟨_,rfl,z,rfl,N2 hlo.2 (by decide),λL hL=>?_⟩;have sL:af H2 (upd H2 L (.lst ((Txt.split z " ").map V.str))):=af.new hL;have hLR:L≠R:=(ao hRx hL).symm;refine ⟨_,sL _ _ hRx,small (by lia),_,ab,⟨_,rfl⟩,aq hR (s2.trans sL),?_⟩;rw [p7,Au hz,N8];refine (dn2.same (mF sL)).append (.cons (.lst (xs:=(Txt.split z " ").map V.str) (.of (by rw [aT hLR];exact ab)) ?_) .nil);rw [hln.split];exact uH λw hw=>(hln.wd w hw).ok
  ·obtain ⟨_,s2,dn2⟩:=q;rw [NU,NZ (NX _)] at dn2;have dnR:aI K H2 acc ((ms.map λz=>Txt.split z " ").map wsD):=dn2.same bG;have rok:zC (ms.map λz=>Txt.split z " "):=⟨by rw [NU];lia,λws hws=>by
    obtain ⟨z,hz,rfl⟩:=N5.mp hws;obtain ⟨ws,hln⟩:=hmz z hz;rw [hln.split];exact ⟨hln.pos,hln.le,λw hw=>⟨(hln.wd w hw).word,N2 (hln.wd w hw).len (by decide),(hln.wd w hw).ok⟩⟩⟩
   have hrl:(ms.map λz=>Txt.split z " ").length=ms.length:=NU _;have kk:=k;generalize hrs:(ms.map λz=>Txt.split z " ")=rss at dnR rok hrl;have Mr:acc.length=rss.length:=by rw [dnR.length,NU]
   have s02:=sS.trans s2;refine ⟨Nat.zero_le _,λG hG=>?_⟩;have sG:af H2 (upd H2 G (.lst [])):=af.new hG;have hGG:(upd H2 G (.lst [])) G=some (.lst []):=ab;have s03:=s02.trans sG;have hR3:=sG _ _ hR2;generalize upd H2 G (.lst [])=H3 at sG hGG s03 hR3 ⊢;refine ⟨_,rfl,_,rfl,R,rfl,⟨_,.of hR3⟩,λKL hKL=>?_⟩;refine aE (K:=K) (xs:=acc) (λi bP σ H4=>(∃ u,σ=[u])/\af H3 H4/\bP=((rss.take i).map λws=>(Sum.inl (ws.length:Int):Key)).map kV) ab ⟨⟨_,rfl⟩,af.new hKL,rfl⟩ (λi bP σ H4 _ _ q=>.of (q.2.1 _ _ hR3)) (λi x bP σ H4 hx hKx q=>?_) (λbP σ H4 hK4 q=>?_)
   ·obtain ⟨q0,s4,rfl⟩:=q;apply cf q0;clear q0;intro u;have hi:=aF hx;obtain ⟨ws,r,hw,rfl,hqr⟩:=rG dnR hx;refine bM ⟨_,rfl,r,_,rfl,.inl ((sG.trans s4).seq hqr),_,hKx,small (by rw [NU,NU,N7];lia),_,ab,⟨_,rfl⟩,aq hKL s4,?_⟩;rw [List.take_add_one,hw];simp [kV]
   ·obtain ⟨_,s4,rfl⟩:=q;rw [Mr,NZ (NX _)] at hK4;refine ⟨R,KL,acc,_,rfl,.of (s4 _ _ hR3),.of hK4,by rw [NU];lia,by lia,λD as H5 hD s5 hDD has fc=>⟨D,rfl,⟨_,.of hDD⟩,?_⟩⟩;have s25:af H2 H5:=sG.trans (s4.trans s5);have s05:af H H5:=s02.trans s25;have hG5:=(s4.trans s5) _ _ hGG;have la5:cu A.aM H5:=bh hla s05;have yk:=s05 _ _ htb;have hGP:G≠A.aM:=λe=>by rw [e,yk] at hG5;cases hG5
    have hGH:H G=none:=s02.free hG;have hDG:D≠G:=λe=>by rw [e,s4 _ _ hGG] at hD;cases hD
    have hDP:D≠A.aM:=λe=>by rw [e,yk] at hDD;cases hDD
    have dn5:aI K (wo G H5) acc (rss.map wsD):=dnR.same (iH hG s25);have EN:=Bx (uX dn5) (rss.map λws=>(Sum.inl (ws.length:Int):Key));have htG:(wo G H5) A.aM=some (.tbl tb):=by rw [aT hGP.symm];exact yk
    refine jC (K:=K) (xs:=as.map V.ref) (λi σ H6=>(∃ v,σ=[some (.ref a),some (.ref t),some (.ref R),some (.ref G),v])/\af (wo A.aM (wo G H5)) H6/\cu A.aM H6/\∃ tV:List V,H6 G=some (.lst tV)/\aI K (wo G H6) tV ((((byL rss).take i).flatMap (wO s' l)).map be))
     ⟨⟨_,rfl⟩,bG.trans bG,la5,[],hG5,.nil⟩ (λi σ H6 _ q=>.of (q.2.1 _ _ (by rw [aT hDP,aT hDG];exact hDD))) (λi x σ H6 hx q=>?_) (λσ H6 q=>?_)
    ·obtain ⟨q0,s6,la6,tV,hG6,dnp⟩:=q;apply cf q0;clear q0;intro v;rw [N1] at hx;obtain ⟨c,hci,rfl⟩:∃ c,as[i]? = some c/\x = .ref c:=by
      cases e:as[i]? with
      | none=>rw [e] at hx;cases hx
      | some c=>rw [e] at hx;cases hx;exact ⟨c,rfl,rfl⟩
     obtain ⟨g,hgi,hcg⟩:=fc.at hci;obtain ⟨wg,hwi,hgw⟩:=EN.at hgi;have hwm:wg∈byL rss:=NV hwi;have EK:=(zE hwm).1;have Jx:g≠[]:=λe=>by
      have:=hgw.len;rw [e] at this;exact EK (List.length_eq_zero_iff.mp this.symm)
     have hcG:c≠G:=λz=>by rw [z,hG5] at hcg;cases hcg;exact Jx rfl
     have hdc:Den K (wo A.aM (wo G H5)) (.ref c) (gD wg):=Bm htG (.lst (.of (by rw [aT hcG];exact hcg)) (uU hgw));have gok:=HJ rok hwm;have L6:SqT K H6 t [.int s',.int l]:=s6.su (oQ htG ((iH hGH s05).su hqt));refine ⟨_,rfl,.inl ⟨rfl,_,.of hG6⟩,_,rfl,_,rfl,wo A.aM (wo G H5),.ref c,gn wg,wg,t,s',l,rfl,s6,d6,hdc,gok,L6,la6,by have:=Ly (gn wg) wg;have:=gok.CV;lia,λD2 ys C H7 hD2 s7 la7 Hq sBC sC7 cb cP dn7=>⟨D2,rfl,⟨_,.of Hq⟩,λM hM=>?_⟩⟩;obtain ⟨tb6,F5⟩:=eY la6;obtain ⟨tb7,Nv⟩:=eY la7;have hG7:H7 G=some (.lst tV):=vQ s7 F5 hG6 λqs e=>by cases e
     have hMG:M≠G:=(ao hG7 hM).symm;have hyl:ys.length=(prt (gn wg) s' l 13 wg).length:=by rw [dn7.length,NU]
     have hpl:=pf (n:=gn wg) (s:=s') (l:=l) (N:=13) EK;have hgl:=gok.le;have hHM:(upd H7 M (.lst [])) M=some (.lst []):=ab;refine aE (K:=K) (xs:=ys) (λj bP σ H8=>(∃ u,σ=[u])/\af H7 H8/\aI K (lim (upd H7 M (.lst [])) H8) bP ((((prt (gn wg) s' l 13 wg).take j).map λg'=>bp (g'.map aJ) (gn wg)).map be)) ab ⟨⟨_,rfl⟩,af.new hM,.nil⟩ (λj bP σ H8 _ _ q=>.of (q.2.1 _ _ Hq)) (λj y bP σ H8 hy hMx q=>?_) (λbP σ H8 hM8 q=>?_)
     ·obtain ⟨q0,s8,dn8⟩:=q;apply cf q0;clear q0;intro u;have hj:=aF hy;obtain ⟨d,hdj,hdy⟩:=dn7.get hy;rw [N1] at hdj;obtain ⟨g',hg',rfl⟩:∃ g',(prt (gn wg) s' l 13 wg)[j]? = some g'/\d=gD g':=by
       cases e:(prt (gn wg) s' l 13 wg)[j]? with
       | none=>rw [e] at hdj;cases hdj
       | some g'=>rw [e] at hdj;cases hdj;exact ⟨g',rfl,rfl⟩
      have hal:bP.length<=64:=by rw [dn8.length,NU,NU,N7];lia
      refine bM ⟨_,rfl,y,gn wg,g',rfl,hdy.same (sC7.trans s8),Ak gok g' (NV hg'),λDp MU H9 hDp s9 M4 dnq=>?_⟩;have hM9:=s9 _ _ hMx;have L8:Dp≠M:=(ao hMx hDp).symm;refine ⟨_,hM9,small (by lia),_,ab,⟨_,rfl⟩,aq hM (s8.trans s9),?_⟩;rw [mz hHM,List.take_add_one,hg'];simp only [Option.toList,N8,Oc,List.map_nil];have hll:LL (upd H7 M (.lst [])) H8:=λb zs e=>by
       by_cases hb:b=M
       ·exact ⟨bP,by rw [hb];exact hMx⟩
       ·rw [ay hb] at e;exact ⟨zs,s8 _ _ e⟩
      have hnD:(upd H7 M (.lst [])) Dp=none:=by rw [ay L8];exact s8.free hDp
      exact (dn8.same (c7 s9)).append (.cons (.lst (xs:=MU) (.of ((i0 hnD).trans M4)) (dnq.same (eS hll))) .nil)
     ·obtain ⟨_,s8,dn8⟩:=q;rw [hyl,NZ (NX _)] at dn8;have hG8:=s8 _ _ hG7;have NP:tV.length<=rss.length:=by rw [dnp.length,NU];exact yn s' l rss i
      have hal:bP.length<=64:=by rw [dn8.length,NU,NU];lia
      have Me:=rok.1;refine ⟨G,M,tV,bP,rfl,rfl,hG8,hM8,N2 (show _<=1000 by lia) (by decide),?_⟩;have hBG:(wo A.aM (wo G H5)) G=none:=by rw [aT hGP,d6]
      refine ⟨⟨_,rfl⟩,aq hBG ((ck s6 s7).trans s8),wa (bh la7 s8) hG8,tV++bP,ab,?_⟩;rw [p7,List.take_add_one,show (byL rss)[i]? = some wg from hwi];simp only [Option.toList,List.flatMap_append,N8,List.flatMap_cons,List.flatMap_nil,List.append_nil];have ht6:(wo G H6) A.aM=some (.tbl tb6):=by rw [aT hGP.symm];exact F5
      have sa:af (wo A.aM (wo G H6)) (wo G H8):=λb o e=>by
       obtain ⟨h1,e⟩:=gq e;obtain ⟨h2,e⟩:=gq e;rw [aT h2];exact s8 _ _ (s7 _ _ (by rw [aT h1];exact e))
      have hMl:(upd H7 M (.lst [])) G=some (.lst tV):=by rw [ay hMG.symm];exact hG7
      exact ((tD ht6 dnp).same sa).append (dn8.same (wj hMl))
    ·obtain ⟨q0,s6,la6,tV,hG6,dnp⟩:=q;apply cf q0;clear q0;intro v;have hbl:as.length=(byL rss).length:=by rw [fc.len,EN.len];rfl
     rw [NU,hbl,NZ (NX _)] at dnp;have hgl:(gth s' l rss).length<=rss.length:=by
      have:=yn s' l rss (byL rss).length
      rwa [NZ (NX _)] at this
     have hpl:tV.length=(gth s' l rss).length:=by rw [dnp.length,NU];rfl
     have Me:=rok.1;have gok:jz (gth s' l rss):=JO rok;have s06:af (wo A.aM H) H6:=λb o e=>by
      obtain ⟨h1,e⟩:=gq e;have h2:b≠G:=λz=>by rw [z,hGH] at e;cases e
      exact s6 b o (by rw [aT h1,aT h2];exact s05 b o e)
     refine ⟨_,rfl,G,tV,gth s' l rss,rfl,.of hG6,by lia,dnp.same bG,λps hps=>⟨N2 (gok ps hps).2.2 (by decide),λp hp=>((gok ps hps).1 p hp).ok⟩,λD9 MD H9 ps hD9 s9 J7 Ac gu fr hne dn9=>?_⟩;obtain ⟨tb6,F5⟩:=eY la6;have ht9:=s9 _ _ F5;have old:∀ {b:Addr}{zs:List V},H6 b=none->H9 b=some (.lst zs)->H b=none:=λ{b zs} e1 e2=>by
      have h1:b≠A.aM:=λz=>by rw [z,ht9] at e2;cases e2
      have:=s06.free e1
      rwa [aT h1] at this
     refine k D9 ms MD H9 ps a7 hup (old hD9 J7) (s06.trans s9) (bh la6 s9) J7 (by rw [hrs];exact Ac) gu (λq hq=>gok q (Ac.mem_iff.mp hq)) (by rw [Ac.length_eq];lia) (λx hx=>?_) hne (dn9.same (eS λb zs e=>?_))
     ·obtain ⟨t',ys,e1,e2,e3,e4⟩:=fr x hx;exact ⟨t',ys,e1,old e2 e3,e3,e4⟩
     ·have h1:b≠A.aM:=λz=>by rw [z,htb] at e;cases e
      exact ⟨zs,s06 _ _ (by rw [aT h1];exact e)⟩
theorem wt:aA ["cell","turn"] ["cell","turn"] (ag (top 66)):=⟨rfl,rfl,rfl,by decide +kernel,rfl,by decide +kernel,by decide +kernel⟩
set_option maxHeartbeats 8000000 in
theorem wK (T:Tx K mg A):au P w K mg base CX0 1 A.k7 A.lD ["cell","turn"] (og K):=by
 refine T.mx.fn.ok wt (λvs H Q E h=>?_) (λcdv Ar outer s H vs Q E hr h=>?_)
 ·obtain ⟨c,rfl,_⟩:=h;rfl
 ·obtain ⟨c,rfl,k⟩:=h;refine ⟨_,ah (bj (aR (HG) (pv 0) (bX wC (ap) (ap)) (aQ _)) (aj (ar (bQ (aa (bX Fv (pv 0) (bX wC (ap) (ap))) (aa (bX pO (pv 0) (ap)) (aa (pv 1) (ae))))))) (aG))
   (aj (ar (bQ (aa (ap) (aa (bX pO (pv 0) (ap)) (aa (pv 1) (ae))))))),?_⟩
  refine ⟨_,rfl,_,_,rfl,rfl,⟨by decide,by decide,by decide⟩,_,_,rfl,rfl,_,rfl,?_⟩;refine BI (λhc=>?_) (λhc=>?_)
  ·refine ⟨_,rfl,_,_,rfl,rfl,⟨by decide,by decide,by decide⟩,_,_,rfl,rfl,_,rfl,_,_,rfl,rfl,(by show (0:Int)<2147483579;decide),_,rfl,(by show 3<=sizeLine;decide),λd hd=>?_⟩;have hc':(10:Int) ^ (18:Int).toNat<=c:=of_decide_eq_true hc;exact k d _ hd (af.new hd) ⟨_,_,_,ab,by lia,Int.emod_nonneg _ (by decide),Int.emod_lt_of_pos _ (by decide),by decide,by decide⟩
  ·refine ⟨_,rfl,_,_,rfl,rfl,(by show (0:Int)<2147483579;decide),_,rfl,(by show 3<=sizeLine;decide),λd hd=>?_⟩;exact k d _ hd (af.new hd) ⟨_,_,_,ab,by decide,Int.emod_nonneg _ (by decide),Int.emod_lt_of_pos _ (by decide),by decide,by decide⟩
theorem gE:aA ["deck","many","found","number"] ["deck","many"] (ag (top 67)):=⟨rfl,rfl,rfl,by decide +kernel,rfl,by decide +kernel,by decide +kernel⟩
set_option maxHeartbeats 8000000 in
theorem jP (T:Tx K mg A):au P w K mg base CX0 1 A.fY A.gj ["deck","many"] (gH K):=by
 refine T.ax.fn.ok gE (λvs H Q E h=>?_) (λcdv Ar outer s H vs Q E hr h=>?_)
 ·obtain ⟨d,m,n,rfl,_⟩:=h;rfl
 ·obtain ⟨d,m,n,rfl,hdk,hn,hm0,hm1,k⟩:=h;refine ⟨_,ah (bj (aR (HE) (ba (r:=c9 K) aX (pv 0) (ap) (λ_ _=>rfl)) (ap) (aQ _)) (ah (a9 (i:=2) gE.nd rfl (Or.inl rfl) (bX pO (ba (r:=c9 K) aX (pv 0) (ap) (λ_ _=>rfl)) (pv 1)))
   (ah (tG (bX wQ (ba (r:=c9 K) aX (pv 0) (ap) (λ_ _=>rfl)) (pv 1)) (z6 (pv 0) (ap) set_list))
   (aj (ar (pv 2))))) (aG))
   (ah (tG (bX jM (ba (r:=c9 K) aX (pv 0) (ap) (λ_ _=>rfl)) (ap)) (z6 (pv 0) (ap) set_list))
   (ah (a9 (i:=3) gE.nd rfl (Or.inl rfl) (bX pO (bX wC (bX jM (ba (r:=c9 K) aX (pv 0) (ap) (λ_ _=>rfl)) (bX FA (ap) (ba (r:=c9 K) aX (pv 0) (ap) (λ_ _=>rfl)))) (ap)) (ap)))
   (ah (a9 (i:=2) gE.nd rfl (Or.inl rfl) (bX wQ (bX pO (bX wC (bX jM (pv 3) (bX FA (ap) (ba (r:=c9 K) aX (pv 0) (ap) (λ_ _=>rfl)))) (ap)) (ap)) (ap)))
   (ah (bj (aR (HE) (pv 1) (ap) (aQ _)) (aj jt) (aG))
   (aj (ar (bX pO (pv 2) (pv 1)))))))),?_⟩
  obtain ⟨a,b,c,hd,ha,hb,hb2,hc,hc2⟩:=hdk;have hq:SqL K H d [.int a,.int b,.int c]:=.of hd;refine ⟨_,rfl,d,_,0,_,rfl,rfl,hq,rfl,_,_,rfl,rfl,_,rfl,?_⟩;refine BI (λh1=>?_) (λh1=>?_)
  ·refine ⟨_,rfl,d,_,0,_,rfl,rfl,hq,rfl,_,rfl,_,_,rfl,rfl,hm0,?_⟩;refine ⟨_,rfl,d,_,0,_,rfl,rfl,hq,rfl,_,rfl,_,_,rfl,rfl,⟨hm0,by lia⟩,?_⟩;refine ⟨_,rfl,d,_,0,0,rfl,rfl,hd,rfl,?_⟩;refine ⟨_,rfl,?_⟩;exact k _ _ yI ⟨_,_,_,ab,Int.ediv_nonneg ha (by lia),hb,hb2,hc,by lia⟩ (Int.emod_nonneg _ (by lia)) (Int.emod_lt_of_pos _ hm0)
  ·refine ⟨_,rfl,d,_,2,_,rfl,rfl,hq,rfl,_,_,rfl,rfl,?_⟩;refine ⟨_,rfl,d,_,2,2,rfl,rfl,hd,rfl,?_⟩;have hq2:SqL K (upd H d (.lst [.int a,.int b,.int (c+1)])) d [.int a,.int b,.int (c+1)]:=.of ab;refine ⟨_,rfl,d,_,1,_,rfl,rfl,hq2,rfl,_,rfl,d,_,2,_,rfl,rfl,hq2,rfl,_,_,rfl,rfl,.inl ⟨by decide,by decide⟩,_,_,rfl,rfl,_,_,rfl,rfl,⟨by decide,by decide,by lia⟩,_,_,rfl,rfl,(by show (0:Int)<2147483647;decide),?_⟩;refine ⟨_,rfl,_,rfl,d,_,2,_,rfl,rfl,hq2,rfl,_,_,rfl,rfl,.inl ⟨by decide,by decide⟩,_,_,rfl,rfl,_,_,rfl,rfl,⟨by decide,by decide,?_⟩,_,_,rfl,rfl,(by show (0:Int)<2147483629;decide),_,_,rfl,rfl,⟨by decide,by decide⟩,?_⟩
   ·have h2:=Int.emod_nonneg ((b+15485867 * (c+1)) ^ (5:Int).toNat) (show (2147483647:Int)≠0 by decide);have h3:=Int.emod_lt_of_pos ((b+15485867 * (c+1)) ^ (5:Int).toNat) (show (0:Int)<2147483647 by decide);lia
   ·refine ⟨_,rfl,_,_,rfl,rfl,_,rfl,?_⟩;rw [decide_eq_false (show ¬ (1000000:Int)<m by lia)];refine bg ?_;refine ⟨_,rfl,_,rfl,_,_,rfl,rfl,hm0,?_⟩;exact k _ _ yI ⟨_,_,_,ab,ha,hb,hb2,by lia,by lia⟩ (Int.emod_nonneg _ (by lia)) (Int.emod_lt_of_pos _ hm0)
theorem kc:aA ["deck","way","some"] ["deck"] (ag (top 69)):=⟨rfl,rfl,rfl,by decide +kernel,rfl,by decide +kernel,by decide +kernel⟩
set_option maxHeartbeats 8000000 in
theorem pA (T:Tx K mg A):au P w K mg base CX0 2 A.iL A.iY ["deck"] (kq K):=by
 have bb:au P w K mg base CX0 1 A.fY A.gj ["deck","many"] (gH K):=(jP T).mono (by decide);refine T.fR.fn.ok kc (λvs H Q E h=>?_) (λcdv Ar outer s H vs Q E hr h=>?_)
 ·obtain ⟨d,n,rfl,_⟩:=h;rfl
 ·obtain ⟨d,n,rfl,hdk,hn,k⟩:=h;refine ⟨_,ah (a9 (i:=1) kc.nd rfl (Or.inl rfl) (ak bb hr (by rfl) T.ax.mg T.ax.fn.kp T.ax.bd .nil av (aa (pv 0) (aa (ap) (ae)))))
   (ah (bj (aR (A4) (pv 1) (ap) (aQ _)) (aj (ar (ba (r:=c9 K) aX (bQ (aa (aH) (aa (aH) (aa (aH) (ae))))) (ak bb hr (by rfl) T.ax.mg T.ax.fn.kp T.ax.bd .nil av (aa (pv 0) (aa (ap) (ae)))) (λ_ _=>rfl)))) (aG))
   (ah (bj (aR (A4) (pv 1) (ap) (aQ _)) (aj (ar (ba (r:=c9 K) aX (bQ (aa (aH) (aa (aH) (aa (aH) (aa (aH) (aa (aH) (ae))))))) (ak bb hr (by rfl) T.ax.mg T.ax.fn.kp T.ax.bd .nil av (aa (pv 0) (aa (ap) (ae)))) (λ_ _=>rfl)))) (aG))
   (ah (bj (aR (A4) (pv 1) (ap) (aQ _)) (aj (ar (ba (r:=c9 K) aX (bQ (aa (aH) (aa (aH) (aa (aH) (aa (aH) (aa (aH) (aa (aH) (aa (aH) (aa (aH) (ae)))))))))) (ak bb hr (by rfl) T.ax.mg T.ax.fn.kp T.ax.bd .nil av (aa (pv 0) (aa (ap) (ae)))) (λ_ _=>rfl)))) (aG))
   (ah (a9 (i:=2) kc.nd rfl (Or.inr rfl) (ba (r:=c9 K) aX (bQ (aa (aH) (aa (aH) (aa (aH) (aa (aH) (ae)))))) (bX Fv (pv 1) (ap)) (λ_ _=>rfl)))
   (aj (ar (c5 (r:=rJoin K) PySem.F.plainAttrs_str PySem.F.slot_str_join PySem.F.type_str_join my (aH) (aa (aW (N':=["k","some","deck"]) (n:=1) (fi:=[2,0]) (g:=aY 0) rfl (aU (ag (top 69)) ["deck","way","some"] (by decide +kernel)) (eL (by rfl) T.gT (aa (bX jM (ap) (ak bb hr (by rfl) T.ax.mg T.ax.fn.kp T.ax.bd .nil av (aa (pv 0) (aa (ap) (ae))))) (ae))) (λs H fp=>aw (i:=0) (show (["k","some","deck"]:List Str).Nodup by decide +kernel) rfl (Or.inl rfl) (.inr rfl)) (λs H fp=>aO) (λs H fp=>ba C3 (pv 1) (ak bb hr (by rfl) T.ax.mg T.ax.fn.kp T.ax.bd .nil av (aa (pv 2) (aa (aK oR (by rfl) T.cq PySem.boot_len (aa (pv 1) (ae))) (ae)))) (λ_ _=>rfl))) (ae))))))))),?_⟩
  refine ⟨_,rfl,d,12,n,rfl,hdk,by lia,by decide,by decide,λway H1 s1 dk1 w0 w12=>?_⟩;refine ⟨_,rfl,_,_,rfl,rfl,_,rfl,?_⟩;refine BI (λ_=>?_) (λ_=>?_)
  ·refine ⟨(by show 3<=sizeLine;decide),λp hp=>⟨_,rfl,d,3,n+1,rfl,dk1.same (af.new hp),by lia,by decide,by decide,λr H2 s2 dk2 r0 r1=>?_⟩⟩;obtain ⟨x,hx,ha⟩:=nX (l:=zh) r0 r1;have hp2:H2 p=some (.lst (zh.map V.str)):=fh s2 ab (dk1.ne hp);have hw:=w1 x hx;exact ⟨p,_,r,_,rfl,rfl,.of hp2,ha,k x H2 (ck (s1.trans (af.new hp)) s2) (dk2.mono (by lia)) ⟨hw.1,hw.2.1,hw.2.2⟩⟩
  ·refine ⟨_,rfl,_,_,rfl,rfl,_,rfl,?_⟩;refine BI (λ_=>?_) (λ_=>?_)
   ·refine ⟨(by show 5<=sizeLine;decide),λp hp=>⟨_,rfl,d,5,n+1,rfl,dk1.same (af.new hp),by lia,by decide,by decide,λr H2 s2 dk2 r0 r1=>?_⟩⟩;obtain ⟨x,hx,ha⟩:=nX (l:=zJ) r0 r1;have hp2:H2 p=some (.lst (zJ.map V.str)):=fh s2 ab (dk1.ne hp);have hw:=w2 x hx;exact ⟨p,_,r,_,rfl,rfl,.of hp2,ha,k x H2 (ck (s1.trans (af.new hp)) s2) (dk2.mono (by lia)) ⟨hw.1,hw.2.1,hw.2.2⟩⟩
   ·refine ⟨_,rfl,_,_,rfl,rfl,_,rfl,?_⟩;refine BI (λ_=>?_) (λh8=>?_)
    ·refine ⟨(by show 8<=sizeLine;decide),λp hp=>⟨_,rfl,d,8,n+1,rfl,dk1.same (af.new hp),by lia,by decide,by decide,λr H2 s2 dk2 r0 r1=>?_⟩⟩;obtain ⟨x,hx,ha⟩:=nX (l:=zv) r0 r1;have hp2:H2 p=some (.lst (zv.map V.str)):=fh s2 ab (dk1.ne hp);have hw:=w3 x hx;exact ⟨p,_,r,_,rfl,rfl,.of hp2,ha,k x H2 (ck (s1.trans (af.new hp)) s2) (dk2.mono (by lia)) ⟨hw.1,hw.2.1,hw.2.2⟩⟩
    ·have h8':¬ way<8:=λh=>h8 (decide_eq_true h);obtain ⟨x,hx,ha⟩:=nX (l:=zF) (r:=way - 8) (by lia) (by show way - 8<4;lia);have hxx:=w4 x hx;refine ⟨(by show 4<=sizeLine;decide),λp hp=>⟨_,rfl,_,_,rfl,rfl,p,_,way - 8,_,rfl,rfl,.of ab,ha,?_⟩⟩;have dkp:Dk (upd H1 p (.lst (zF.map V.str))) d (n+1):=dk1.same (af.new hp);refine ⟨rfl,_,rfl,d,4,n+1,rfl,dkp,by lia,by decide,by decide,λr4 H2 s2 dk2 r0 r1=>?_⟩;refine ⟨_,_,rfl,rfl,1+r4,rfl,by lia,by lia,λD hD=>?_⟩;have hdD:d≠D:=dk2.ne hD;refine ia (λi acc σ H3=>(∃ u,σ=[u,some (.str x),some (.ref d)])/\af (wo d H2) H3/\Dk H3 d (n+2+i)/\∃ l:List Str,acc=l.map V.str/\l.length=i/\∀ y∈l,PyData.strOk y=true/\y.length<=1/\∃ c,y=⟨#[c]⟩/\sgn c=true) ab ⟨⟨_,rfl⟩,bG.trans (af.new hD),dk2.same (af.new hD),[],rfl,rfl,λy hy=>by cases hy⟩ (λi acc σ H3 hi hD3 q=>?_) (λacc σ H3 hD3 q=>?_)
     ·obtain ⟨q0,s3,dk3,l,rfl,hl,hok⟩:=q;apply cf q0;clear q0;intro u;refine bM ⟨_,rfl,_,rfl,_,rfl,x,rfl,N2 hxx.2.1 (by decide),d,x.length,n+2+i,rfl,dk3,by lia,by lia,by lia,λr H4 s4 dk4 q0 q1=>?_⟩;obtain ⟨c,j,hc,hj⟩:=Gz q0 q1;have hsc:sgn c=true:=List.all_eq_true.mp hxx.2.2.2 c (by simpa using Array.mem_of_getElem? hj);refine ⟨x,r,c,rfl,rfl,N2 hxx.2.1 (by decide),hc,_,fh s4 hD3 hdD,small (by simp only [NU];lia),_,ab,⟨_,rfl⟩,aq (by rw [aT hdD.symm];exact hD) (ck s3 s4),dk4.upd hdD,l++[⟨#[c]⟩],by simp,by simp [hl],λy hy=>?_⟩;rcases List.mem_append.mp hy with hy | hy
      ·exact hok y hy
      ·simp only [N3] at hy;subst hy;exact ⟨G4 hxx.1 hj,NX _,c,rfl,hsc⟩
     ·obtain ⟨_,s3,dk3,l,rfl,hl,hok⟩:=q;have hl4:l.length<=4:=by lia
      refine ⟨"",D,l,rfl,rfl,.of hD3,gW (λy hy=>(hok y hy).2.1) ?_,?_⟩
      ·have:(("" : Str)).length=0:=rfl;rw [this];lia
      ·exact k _ H3 (ck (ck (s1.trans (af.new hp)) s2) s3) (dk3.mono (by lia)) (Ct (by lia) hl4 hok)
theorem vS:aA ["deck","most"] ["deck","most"] (ag (top 70)):=⟨rfl,rfl,rfl,by decide +kernel,rfl,by decide +kernel,by decide +kernel⟩
set_option maxHeartbeats 8000000 in
theorem wH (T:Tx K mg A):au P w K mg base CX0 3 A.lJ A.k6 ["deck","most"] (o7 K):=by
 have lT:au P w K mg base CX0 2 A.iL A.iY ["deck"] (kq K):=(pA T).mono (by decide);have bb:au P w K mg base CX0 2 A.fY A.gj ["deck","many"] (gH K):=(jP T).mono (by decide);refine T.mj.fn.ok vS (λvs H Q E h=>?_) (λcdv Ar outer s H vs Q E hr h=>?_)
 ·obtain ⟨d,m,n,rfl,_⟩:=h;rfl
 ·obtain ⟨d,m,n,rfl,hdk,hn,hm0,hm1,k⟩:=h;refine ⟨_,aj (ar (c5 (r:=rJoin K) PySem.F.plainAttrs_str PySem.F.slot_str_join PySem.F.type_str_join my (aH) (aa (aW (N':=["k","deck"]) (n:=1) (fi:=[0]) (g:=aY 0) rfl (aU (ag (top 70)) ["deck","most"] (by decide +kernel)) (eL (by rfl) T.gT (aa (bX jM (ap) (ak bb hr (by rfl) T.ax.mg T.ax.fn.kp T.ax.bd .nil av (aa (pv 0) (aa (pv 1) (ae))))) (ae))) (λs H fp=>aw (i:=0) (show (["k","deck"]:List Str).Nodup by decide +kernel) rfl (Or.inl rfl) (.inr rfl)) (λs H fp=>aO) (λs H fp=>ak lT hr (by rfl) T.fR.mg T.fR.fn.kp T.fR.bd .nil av (aa (pv 1) (ae)))) (ae)))),?_⟩;refine ⟨rfl,_,rfl,_,rfl,d,m,n,rfl,hdk,by lia,hm0,by lia,λr4 H2 s2 dk2 r0 r1=>?_⟩;refine ⟨_,_,rfl,rfl,1+r4,rfl,by lia,by lia,λD hD=>?_⟩;have hdD:d≠D:=dk2.ne hD;refine ia (λi acc σ H3=>(∃ u,σ=[u,some (.ref d)])/\af (wo d H2) H3/\Dk H3 d (n+1+6 * i)/\∃ l:List Str,acc=l.map V.str/\l.length=i/\∀ y∈l,WOk y) ab ⟨⟨_,rfl⟩,bG.trans (af.new hD),dk2.same (af.new hD),[],rfl,rfl,λy hy=>by cases hy⟩ (λi acc σ H3 hi hD3 q=>?_) (λacc σ H3 hD3 q=>?_)
  ·obtain ⟨q0,s3,dk3,l,rfl,hl,hok⟩:=q;apply cf q0;clear q0;intro u;refine bM ⟨_,rfl,d,n+1+6 * i,rfl,dk3,by lia,λx H4 s4 dk4 hx=>?_⟩;refine ⟨_,fh s4 hD3 hdD,small (by simp only [NU];lia),_,ab,⟨_,rfl⟩,aq (by rw [aT hdD.symm];exact hD) (ck s3 s4),(dk4.upd hdD).mono (by lia),l++[x],by simp,by simp [hl],λy hy=>?_⟩;rcases List.mem_append.mp hy with hy | hy
   ·exact hok y hy
   ·simp only [N3] at hy;subst hy;exact hx
  ·obtain ⟨_,s3,dk3,l,rfl,hl,hok⟩:=q;have h1:((" " : Str)).length=1:=rfl;refine ⟨" ",D,l,rfl,rfl,.of hD3,gW (λy hy=>(hok y hy).len) ?_,?_⟩
   ·rw [h1];lia
   ·exact k _ l H3 (ck s2 s3) (dk3.mono (by lia)) ⟨rfl,by lia,by lia,hok⟩
theorem cN:aA ["deck","most","shapes","found","k","words","turn"] ["deck","most"] (ag (top 71)):=⟨rfl,rfl,rfl,by decide +kernel,rfl,by decide +kernel,by decide +kernel⟩
set_option maxHeartbeats 8000000 in
theorem uy (T:Tx K mg A):au P w K mg base CX0 4 A.j7 A.ke ["deck","most"] (mQ K):=by
 have bb:au P w K mg base CX0 3 A.fY A.gj ["deck","many"] (gH K):=(jP T).mono (by decide);have lT:au P w K mg base CX0 3 A.iL A.iY ["deck"] (kq K):=(pA T).mono (by decide);have yp:au P w K mg base CX0 3 A.lJ A.k6 ["deck","most"] (o7 K):=(wH T).mono (by decide);refine T.kF.fn.ok cN (λvs H Q E h=>?_) (λcdv Ar outer s H vs Q E hr h=>?_)
 ·obtain ⟨d,m,n,rfl,_⟩:=h;rfl
 ·obtain ⟨d,m,n,rfl,hdk,hn,hm0,hm1,k⟩:=h;refine ⟨_,ah (gL (i:=2) (N':=["k","deck"]) (n:=1) (fi:=[0]) (g:=aY 0) cN.nd rfl (Or.inl rfl) rfl (aU (ag (top 71)) ["deck","most","shapes","found","k","words","turn"] (by decide +kernel)) (eL (by rfl) T.gT (aa (bX jM (ap) (ak bb hr (by rfl) T.ax.mg T.ax.fn.kp T.ax.bd .nil av (aa (pv 0) (aa (ap) (ae))))) (ae))) (λs H fp=>aw (i:=0) (show (["k","deck"]:List Str).Nodup by decide +kernel) rfl (Or.inl rfl) (.inr rfl)) (λs H fp=>aO) (λs H fp=>D1 (K:=K) rfl PySem.F.plainAttrs_str PySem.F.slot_str_split PySem.F.type_str_split sZ (ak yp hr (by rfl) T.mj.mg T.mj.fn.kp T.mj.bd .nil av (aa (pv 1) (aa (ba (r:=c9 K) aX (bQ (aa (ap) (aa (ap) (aa (ap) (ae))))) (ak bb hr (by rfl) T.ax.mg T.ax.fn.kp T.ax.bd .nil av (aa (pv 1) (aa (ap) (ae)))) (λ_ _=>rfl)) (ae)))) (aa (aH) (ae))))
   (ah (a9 (i:=3) cN.nd rfl (Or.inl rfl) (bQ (ae)))
   (ah (fP PassesOwn.never rfl (eL (by rfl) T.gT (aa (ak bb hr (by rfl) T.ax.mg T.ax.fn.kp T.ax.bd .nil av (aa (pv 0) (aa (bX jM (pv 1) (ap)) (ae)))) (ae))) (aw (i:=4) cN.nd rfl (Or.inl rfl)) (ah (a9 (i:=5) cN.nd rfl (Or.inl rfl) (qe (r:=rJ K) nr (by rfl) T.tN o8 (aa (ba (r:=c9 K) aX (pv 2) (ak bb hr (by rfl) T.ax.mg T.ax.fn.kp T.ax.bd .nil av (aa (pv 0) (aa (aK (r:=cD K) aS (by rfl) T.cq PySem.boot_len (aa (pv 2) (ae))) (ae)))) (λ_ _=>rfl)) (ae))))
   (ah (fP PassesOwn.never rfl (eL (by rfl) T.gT (aa (ak bb hr (by rfl) T.ax.mg T.ax.fn.kp T.ax.bd .nil av (aa (pv 0) (aa (ap) (ae)))) (ae))) (aw (i:=6) cN.nd rfl (Or.inl rfl)) (aj (tG (ak lT hr (by rfl) T.fR.mg T.fR.fn.kp T.fR.bd .nil av (aa (pv 0) (ae))) (z6 (pv 5) (ak bb hr (by rfl) T.ax.mg T.ax.fn.kp T.ax.bd .nil av (aa (pv 0) (aa (aK (r:=cD K) aS (by rfl) T.cq PySem.boot_len (aa (pv 5) (ae))) (ae)))) set_list))))
   (ah (iX (c5 PySem.F.plainAttrs_list PySem.F.slot_list_append PySem.F.type_list_append eM (pv 3) (aa (c5 (r:=rJoin K) PySem.F.plainAttrs_str PySem.F.slot_str_join PySem.F.type_str_join my (aH) (aa (pv 5) (ae))) (ae))))
   (aj (bj (aR (fA) (ak bb hr (by rfl) T.ax.mg T.ax.fn.kp T.ax.bd .nil av (aa (pv 0) (aa (ap) (ae)))) (ap) (aQ _)) (aj (iX (c5 PySem.F.plainAttrs_list PySem.F.slot_list_append PySem.F.type_list_append eM (pv 3) (aa (ba (r:=c9 K) aX (pv 3) (ak bb hr (by rfl) T.ax.mg T.ax.fn.kp T.ax.bd .nil av (aa (pv 0) (aa (aK (r:=cD K) aS (by rfl) T.cq PySem.boot_len (aa (pv 3) (ae))) (ae)))) (λ_ _=>rfl)) (ae))))) (aG)))))))
   (aj (ar (dP (r:=uz K) gB (pv 3) (gF) (eT (pv 1))))))),?_⟩
  have h1:((" " : Str)).length=1:=rfl;refine ⟨_,rfl,d,3,n,rfl,hdk,by lia,by decide,by decide,λr H1 s1 dk1 r0 r1=>⟨_,_,rfl,rfl,1+r,rfl,by lia,by lia,λSH hSH=>?_⟩⟩;have FN:d≠SH:=dk1.ne hSH;refine ia (λi acc σ H3=>(∃ u,σ=[u,some (.ref d)])/\af (wo d H1) H3/\Dk H3 d (n+1+81 * i)/\acc.length=i/\∀ x∈acc,∃ (s:Addr) (ws:List Str),x = .ref s/\s≠d/\s≠SH/\H3 s=some (.lst (ws.map V.str))/\ym ws) ab ⟨⟨_,rfl⟩,bG.trans (af.new hSH),dk1.same (af.new hSH),rfl,λx hx=>by cases hx⟩ (λi acc σ H3 hi hD3 q=>?_) (λacc σ H3 hD3 q=>?_)
  ·obtain ⟨q0,s3,dk3,hal,hsh⟩:=q;apply cf q0;clear q0;intro u;refine bM ?_;refine ⟨_,rfl,(by show 3<=sizeLine;decide),λp hp=>⟨_,rfl,d,3,_,rfl,dk3.same (af.new hp),by lia,by decide,by decide,λr3 H4 s4 dk4 q0 q1=>?_⟩⟩;have hp4:H4 p=some (.lst [.int 3,.int 6,.int 12]):=fh s4 ab (dk3.ne hp);obtain ⟨v,hv,hv0,hv1⟩:=Gs q0 q1;refine ⟨p,_,r3,_,rfl,rfl,.of hp4,hv,d,v,_,rfl,dk4,by lia,hv0,hv1,λx ws H5 s5 dk5 hln=>?_⟩;have hlo:=hln.ok (by lia);have JR:af (wo d H3) H5:=ck (ck (bG.trans (af.new hp)) s4) s5;have Lk:H5 SH=some (.lst acc):=fh JR hD3 FN;refine ⟨rfl,x," ",rfl,rfl,by rw [h1];decide,N2 (Nat.add_le_add_right hlo.2 2) (by decide),λl hl=>?_⟩;have sl:af H5 (upd H5 l (.lst ((Txt.split x " ").map V.str))):=af.new hl;have KC:l≠SH:=(ao Lk hl).symm;have hld:l≠d:=(dk5.ne hl).symm;refine ⟨acc,sl _ _ Lk,small (by lia),_,ab,⟨_,rfl⟩,aq (by rw [aT FN.symm];exact hSH) (ck s3 (JR.trans sl)),((dk5.same sl).upd FN).mono (by lia),by rw [List.length_append,hal];rfl,λy hy=>?_⟩;rcases List.mem_append.mp hy with hy | hy
   ·obtain ⟨s,ws',rfl,g1,g2,g3,g4⟩:=hsh y hy;exact ⟨s,ws',rfl,g1,g2,by rw [ay g2];exact sl _ _ (fh JR g3 g1.symm),g4⟩
   ·simp only [N3] at hy;subst hy;refine ⟨l,ws,rfl,hld,KC,by rw [ay KC,ab,hln.split],hln.pos,N2 hln.le (by lia),hln.wd⟩
  ·obtain ⟨_,s3,dk3,hal,hsh⟩:=q;have Hj:af (wo d H) (wo d H3):=iH d6 (ck s1 s3);have Jy:(wo d H3) SH=some (.lst acc):=by rw [aT FN.symm];exact hD3
   have Ka:Jp (wo d H3) acc:=λx hx=>by
    obtain ⟨s,ws,rfl,g1,g2,g3,g4⟩:=hsh x hx;exact ⟨s,ws,rfl,by rw [aT g1];exact g3,g4⟩
   have hds:(wo d H3) d=none:=d6;have IQ:af (wo d H3) H3:=bG;refine ⟨Nat.zero_le _,λF hF=>?_⟩;have hdF:d≠F:=dk3.ne hF;have hFs:(wo d H3) F=none:=IQ.free hF;have hFH:H F=none:=by
    have:=Hj.free hFs
    rwa [aT hdF.symm] at this
   generalize wo d H3=Hs at Hj Jy Ka hds IQ hFs;have sF:af H3 (upd H3 F (.lst [])):=af.new hF;refine ⟨_,rfl,_,rfl,_,_,rfl,rfl,d,_,_,rfl,dk3.same sF,by lia,by lia,by lia,λr2 H4 s4 dk4 q0 q1=>⟨r2,rfl,by lia,by lia,?_⟩⟩;have Nm:1<=acc.length:=by lia
   refine qB (λi σ H5=>(∃ u4 u5 u6,σ=[some (.ref d),some (.int m),some (.ref SH),some (.ref F),u4,u5,u6])/\af Hs H5/\Dk H5 d (n+400+20 * i)/\∃ ls:List Str,H5 F=some (.lst (ls.map V.str))/\ls.length<=2 * i/\∀ x∈ls,∃ ws,lK 12 x ws)
    ⟨⟨_,_,_,rfl⟩,λb o e=>s4 b o (by rw [aT (ao e hds)];exact sF b o (IQ b o e)),dk4.mono (by lia),[],fh s4 ab hdF,NX _,λx hx=>by cases hx⟩ (λi σ H5 hi q=>?_) (λσ H5 q=>?_)
   ·obtain ⟨q0,s5,dk5,ls,hF5,hll,Ib⟩:=q;apply KQ q0;clear q0;intro u4 u5 u6;have vz:∀ {Ha Hb:Hp},af Hs Ha->af (wo d Ha) Hb->af Hs Hb:=λsa sb b o e=>sb b o (by rw [aT (ao e hds)];exact sa b o e);refine ⟨_,rfl,_,rfl,_,rfl,SH,_,rfl,.inl (.of (s5 _ _ Jy)),d,_,_,rfl,dk5,by lia,by lia,by lia,λrk H6 s6 dk6 k0 k1=>?_⟩;have s6':=vz s5 s6;have hF6:=fh s6 hF5 hdF;obtain ⟨jj,rfl⟩:=Int.eq_ofNat_of_zero_le (k0:(0:Int)<=rk);have hjj:jj<acc.length:=by lia
    have hxj:acc[jj]? = some acc[jj]:=NW hjj;obtain ⟨sA,ws,ex,hsA,hws⟩:=Ka acc[jj] (NV hxj);refine ⟨SH,acc,_,_,rfl,rfl,.of (s6' _ _ Jy),bA hxj,sA,_,by rw [ex],.inl (.of (s6' _ _ hsA)),λW hW=>?_⟩;have sW:af H6 (upd H6 W (.lst (ws.map V.str))):=af.new hW;have hdW:d≠W:=dk6.ne hW;have hFW:F≠W:=ao hF6 hW;have hWs:Hs W=none:=s6'.free hW;refine ⟨_,rfl,d,3,_,rfl,dk6.same sW,by lia,by decide,by decide,λr3 H8 s8 dk8 g0 g1=>⟨r3,rfl,by lia,by lia,?_⟩⟩;refine qB (λj σ H9=>(∃ u4 u6,σ=[some (.ref d),some (.int m),some (.ref SH),some (.ref F),u4,some (.ref W),u6])/\af Hs H9/\Dk H9 d (n+400+20 * i+2+7 * j)/\H9 F=some (.lst (ls.map V.str))/\∃ l:List Str,H9 W=some (.lst (l.map V.str))/\ym l)
     ⟨⟨_,_,rfl⟩,vz (s6'.trans sW) s8,dk8.mono (by lia),fh s8 (sW _ _ hF6) hdF,ws,fh s8 ab hdW,hws⟩ (λj σ H9 hj q=>?_) (λσ H9 q=>?_)
    ·obtain ⟨q0,s9,dk9,hF9,l,hW9,hl9⟩:=q;apply yc q0;clear q0;intro u4 u6;have hlp:=hl9.pos;have hlq:=hl9.le;refine ⟨_,rfl,d,_,rfl,dk9,by lia,λx H10 s10 M3 hx=>?_⟩;have J0:=fh s10 hW9 hdW;refine ⟨_,rfl,_,rfl,_,rfl,W,_,rfl,.inl (.of J0),d,_,_,rfl,M3,by lia,by rw [NU];lia,by rw [NU];lia,λrj H11 s11 MC j0 j1=>?_⟩;have L9:=fh s11 J0 hdW;exact ⟨W,_,rj,_,rfl,rfl,L9,Ij j0 j1,⟨_,_,rfl⟩,aq hWs (vz (vz s9 s10) s11),(MC.upd hdW).mono (by lia),by rw [ay hFW];exact fh s11 (fh s10 hF9 hdF) hdF,l.set rj.toNat x,by rw [ab,List.map_set],hl9.set hx⟩
    ·obtain ⟨q0,s9,dk9,hF9,l,hW9,hl9⟩:=q;apply yc q0;clear q0;intro u4 u6;have hlp:=hl9.pos;have hlq:=hl9.le;refine ⟨_,rfl,.inl ⟨rfl,_,.of hF9⟩,rfl,_,rfl," ",W,l,rfl,rfl,.of hW9,gW (λy hy=>(hl9.wd y hy).len) (by rw [h1];lia),F,_,_,rfl,rfl,hF9,small (by rw [NU];lia),?_⟩;have Ng:(upd H9 F (.lst (ls.map V.str++[.str (Txt.join " " l)]))) F=some (.lst ((ls++[Txt.join " " l]).map V.str)):=by rw [ab];simp
     have Ey:∀ x∈ls++[Txt.join " " l],∃ ws,lK 12 x ws:=λx hx=>by
      rcases List.mem_append.mp hx with hx | hx
      ·exact Ib x hx
      ·simp only [N3] at hx;subst hx;exact ⟨l,hl9.line⟩
     refine ⟨_,rfl,d,6,_,rfl,dk9.upd hdF,by lia,by decide,by decide,λr5 H13 s13 LD t0 t1=>⟨rfl,_,rfl,?_⟩⟩;have FV:=fh s13 Ng hdF;have Kn:=vz (aq (D:=F) (o:=.lst (ls.map V.str++[.str (Txt.join " " l)])) hFs s9) s13;have IP:(ls++[Txt.join " " l]).length=ls.length+1:=by simp
     refine BI (λ_=>?_) (λ_=>?_)
     ·refine ⟨_,rfl,.inl ⟨rfl,_,.of FV⟩,_,rfl,_,rfl,_,rfl,F,_,rfl,.inl (.of FV),d,_,_,rfl,LD,by lia,by rw [NU];lia,by rw [NU];lia,λrq H14 s14 MJ z0 z1=>?_⟩;rw [NU] at z1;obtain ⟨x,hx,hat⟩:=nX z0 z1;have KW:=fh s14 FV hdF;refine ⟨F,_,_,_,rfl,rfl,.of KW,hat,F,_,_,rfl,rfl,KW,small (by rw [NU];lia),⟨_,_,_,rfl⟩,aq hFs (vz Kn s14),(MJ.upd hdF).mono (by lia),(ls++[Txt.join " " l])++[x],by rw [ab];simp,by rw [List.length_append,IP];simp;lia,λy hy=>?_⟩;rcases List.mem_append.mp hy with hy | hy
      ·exact Ey y hy
      ·simp only [N3] at hy;subst hy;exact Ey y hx
     ·exact ⟨⟨_,_,_,rfl⟩,Kn,LD.mono (by lia),ls++[Txt.join " " l],FV,by lia,Ey⟩
   ·obtain ⟨q0,s5,dk5,ls,hF5,hll,Ib⟩:=q;apply KQ q0;clear q0;intro u4 u5 u6;refine ⟨_,rfl,_,rfl,m,rfl,F,_,rfl,.of hF5,λD hD=>?_⟩;rw [oA hm0,<-List.map_take];have hdD:d≠D:=dk5.ne hD;have hDH:H D=none:=by
     have:=(Hj.trans s5).free hD
     rwa [aT hdD.symm] at this
    exact k D (ls.take m.toNat) _ hDH ((Hj.trans s5).trans (af.new hD)) ((dk5.same (af.new hD)).mono (by lia)) ab (λx hx=>Ib x (List.mem_of_mem_take hx)) (by rw [N7];lia)
theorem l4:aA ["line","patterns","fitting"] ["line","patterns"] (ag (top 59)):=⟨rfl,rfl,rfl,by decide +kernel,rfl,by decide +kernel,by decide +kernel⟩
set_option maxHeartbeats 8000000 in
theorem tp (T:Tx K mg A):au P w K mg base CX0 7 A.i7 A.jf ["line","patterns"] (l6 K):=by
 have eH:au P w K mg base CX0 6 A.gX A.gY ["patterns"] (g9 K):=(kE T).mono (by decide);have wG:au P w K mg base CX0 5 A.lh A.k8 ["pattern"] (pj K):=(wF T).mono (by decide);have wR:au P w K mg base CX0 6 A.wq A.wY ["pattern","line"] (xa K):=(AN T).mono (by decide);refine T.iR.fn.ok l4 (λvs H Q E h=>?_) (λcdv Ar outer s H vs Q E hr h=>?_)
 ·obtain ⟨z,a,xs,pss,rfl,_⟩:=h;rfl
 ·obtain ⟨z,a,xs,pss,rfl,hq,h64,hds,hok,hz,hzs,k⟩:=h;have hxl:xs.length=pss.length:=by rw [hds.length,NU]
  refine ⟨_,ah (a9 (i:=2) l4.nd rfl (Or.inl rfl) (ak eH hr (by rfl) T.ordered.mg T.ordered.fn.kp T.ordered.bd .nil av (aa (aW (N':=["pattern","line"]) (n:=1) (fi:=[0]) (g:=aY 0) rfl (aU (ag (top 59)) ["line","patterns","fitting"] (by decide +kernel)) (aP (pv 1)) (λs H fp=>aw (i:=0) (show (["pattern","line"]:List Str).Nodup by decide +kernel) rfl (Or.inl rfl) (.inr rfl)) (λs H fp=>dO (bi (ak wR hr (by rfl) T.fits.mg T.fits.fn.kp T.fits.bd .nil av (aa (pv 0) (aa (pv 1) (ae)))))) (λs H fp=>pv 0)) (ae))))
   (aj (ar (AK wG hr T.qu.bd rfl (by rfl) T.Bb (by rfl) T.qu.mg (aa (pv 2) (ae))))),?_⟩
  refine ⟨_,rfl,a,rfl,⟨_,hq⟩,λD hD=>?_⟩;refine aE (K:=K) (xs:=xs) (λi acc σ H2=>(∃ u,σ=[u,some (.str z)])/\af H H2/\aI K H acc (((pss.take i).filter (lE z)).map be)) ab ⟨⟨_,rfl⟩,af.new hD,.nil⟩ (λi acc σ H2 _ _ q=>q.2.1.seq hq) (λi x acc σ H2 hx hDx q=>?_) (λacc σ H2 hDx q=>?_)
  ·obtain ⟨q0,s2,dn⟩:=q;apply cf q0;clear q0;intro u;obtain ⟨ps,hpi,hdp⟩:=bO hds hx;have hi:=aF hpi;have hal:acc.length<=i:=by
    rw [dn.length,NU];exact N2 (List.length_filter_le _ _) (by rw [N7];lia)
   have et:pss.take (i+1)=pss.take i++[ps]:=by rw [List.take_add_one,hpi];rfl
   refine ⟨_,rfl,_,rfl,x,z,ps,rfl,hdp.same s2,(hok ps (NV hpi)).2,hz,hzs,λH4 s4=>⟨_,rfl,?_⟩⟩;by_cases hf:lE z ps=true
   ·have hf':aD ps (Txt.split z " ")=true:=hf;rw [hf'];refine bF ?_;refine ⟨_,rfl,acc,s4 _ _ hDx,small (by lia),_,ab,⟨_,rfl⟩,aq hD (s2.trans s4),?_⟩;rw [et,List.filter_append,N8];have e2:[ps].filter (lE z)=[ps]:=by simp [hf]
    rw [e2];exact dn.append (.cons hdp .nil)
   ·have hf':aD ps (Txt.split z " ")=false:=Bool.eq_false_iff.mpr hf;rw [hf'];refine bg ⟨acc,s4 _ _ hDx,⟨_,rfl⟩,s2.trans s4,?_⟩;have e2:[ps].filter (lE z)=[]:=by simp [hf]
    rw [et,List.filter_append,e2,List.append_nil];exact dn
  ·obtain ⟨_,s2,dn⟩:=q;rw [NZ (by lia)] at dn;have hfl:(pss.filter (lE z)).length<=pss.length:=List.length_filter_le _ _;have hal:acc.length=(pss.filter (lE z)).length:=by rw [dn.length,NU]
   refine ⟨D,acc,pss.filter (lE z),rfl,.of hDx,by lia,dn.same s2,λps hps=>hok ps ((List.mem_filter.mp hps).1),λD2 bP H5 l hD2 s5 Mh a7 gu fr hne dn2=>?_⟩;have hl2:bP.length=l.length:=by rw [dn2.length,NU]
   have Az:∀ ps∈l,POk ps:=λps hps=>hok ps ((List.mem_filter.mp (a7.mem_iff.mp hps)).1);refine ⟨_,rfl,_,rfl,?_⟩;refine qc (kds:=l.map looseD) (Sh.ok (.list .int)) (.of Mh) (by rw [NU];exact hl2) (λd hd=>?_) (λm x d H6 Q6 hx hd s6 kk=>?_) (λE9=>?_) (λhnn H6 s6=>?_)
   ·obtain ⟨ps,_,rfl⟩:=N5.mp hd;exact ⟨sM ps,B8 ps⟩
   ·obtain ⟨ps,hpm,kX⟩:=bO dn2 hx;rw [N1,hpm] at hd;cases hd;exact ⟨x,ps,rfl,(kX.same cg).same s6,Az ps (NV hpm),λD7 H7 hD7 s7 M8=>kk (.ref D7) H7 s7 (.lst (.of M8) uN)⟩
   ·subst E9;have hln:l=[]:=List.eq_nil_of_length_eq_zero (by rw [<-hl2];rfl);subst hln;exact k .non H5 (s2.trans s5) (.inl ⟨a7.symm.eq_nil,rfl⟩)
   ·have hln:l≠[]:=λe=>hnn (List.eq_nil_of_length_eq_zero (by rw [hl2,e];rfl));obtain ⟨ps,hps,DF⟩:=E5 hln gu;have hlt:bz (l.map looseD)<bP.length:=by rw [hl2];exact aF hps
    have hx:bP[bz (l.map looseD)]? = some bP[bz (l.map looseD)]:=NW hlt;have pJ:bP.getD (bz (l.map looseD)) .non=bP[bz (l.map looseD)]:=by simp [List.getD,hx]
    rw [pJ];obtain ⟨t,ys,ht,h1,h2,h3⟩:=fr _ (NV hx);obtain ⟨ps',KI,kX⟩:=bO dn2 hx;rw [hps] at KI;cases KI;refine k _ H6 ((s2.trans s5).trans s6) (.inr ⟨t,ys,ps,ht,s2.free h1,s6 _ _ h2,⟨a7.mem_iff.mp DF.1,λq hq=>DF.2 q (a7.mem_iff.mpr hq)⟩,?_⟩);exact (kX.same (c7 s6)).same (eS s2.ll)
end
end K38
namespace L2
open PySem PySem.Spec PyProof.Rows
variable {X:Cx}
def PEm (X:Cx) (e:Expr) (t:TE):Prop:=∀ (pins:List (Addr×Obj)) (s:Shared) (σ:St) (H:Hp) (Q:VK),Inv X pins σ H s->t σ H Q->wpAny (model X.prog X.w) X.A (eval e X.env) (λv s'=>EP X pins σ Q v s'/\1<=s'.toks) X.xe s
def PAm (X:Cx) (es:List Expr) (t:TA):Prop:=∀ (pos:Pos) (pins:List (Addr×Obj)) (s:Shared) (σ:St) (H:Hp) (Q:List V->Hp->Prop),Inv X pins σ H s->t σ H Q->wpAny (model X.prog X.w) X.A (spliced (backTo pos (starEach es X.env))) (λv s'=>AP X pins σ Q v s'/\1<=s'.toks) X.xe s
theorem JS {r:R2}{a:Expr}{ta:TE}{i:Int}{j:Nat}{p pos:Pos} (hr:IxR X r) (ha:PE X a ta) (hs:By (.Constant (.int i) j p)):PEm X (.Subscript a (.Constant (.int i) j p) pos) (tOp r ta (tC (.int i))):=by
 intro pins s σ H Q I h;refine Subscript_ (thn (ha pins s σ H _ I h) λv s1 ⟨x,H1,I1,rx,q1⟩=>thn (zG ⟨_,rfl⟩ (ap pins s1 σ H1 _ I1 q1)) λu s2 ⟨⟨y,H2,I2,ry,q2⟩,h2⟩=>?_);exact eG h2 (hr a _ pins s2 σ H2 x y v u Q I2 rx ry q2 (hs _ _))
theorem Ew {e:Expr}{es:List Expr}{te:TE}{t:TA} (ha:PEm X e te) (hr:PA X es t) (hs:starEach (e::es) X.env=(false,eval e X.env)::starEach es X.env:=by rfl):PAm X (e::es) (lP te t):=by
 intro pos pins s σ H Q I h;rw [hs];show wpAny _ _ (spliced ((false,eval e X.env)::backTo pos (starEach es X.env))) _ _ s;refine Calls.spliced_cons (thn (ha pins s σ H _ I h) λu s1 ⟨⟨x,H1,I1,r1,q1⟩,h1⟩=>?_);exact thn (eG h1 (hr pos pins s1 σ H1 _ I1 q1)) λus s2 ⟨⟨xs,H2,I2,r2,q2⟩,h2⟩=>⟨⟨x::xs,H2,I2,.cons r1 r2,q2⟩,h2⟩
theorem Dh {e:Expr}{es:List Expr}{te:TE}{t:TA} (ha:PE X e te) (hr:PAm X es t) (hs:starEach (e::es) X.env=(false,eval e X.env)::starEach es X.env:=by rfl):PAm X (e::es) (lP te t):=by
 intro pos pins s σ H Q I h;rw [hs];show wpAny _ _ (spliced ((false,eval e X.env)::backTo pos (starEach es X.env))) _ _ s;refine Calls.spliced_cons (thn (ha pins s σ H _ I h) λu s1 ⟨x,H1,I1,r1,q1⟩=>?_);exact thn (hr pos pins s1 σ H1 _ I1 q1) λus s2 ⟨⟨xs,H2,I2,r2,q2⟩,h2⟩=>⟨⟨x::xs,H2,I2,.cons r1 r2,q2⟩,h2⟩
theorem DN {CX:CXT}{k:Nat}{f:Addr}{fd:FuncData}{ps:List Str}{sp:Sp}{x:Str}{p pos:Pos}{ds:List Value}{dvs:List V}{E:XK}{e:Expr}{es:List Expr}{t:TA} (F:au X.prog X.w X.K X.mg X.base CX k f fd ps sp) (hr:cC k X.A) (hg:Gl X x) (hm:X.mg x=some (.ref f)) (hk:PySem.W.keepIn X.K (.ref f)=true) (hb:Binds X.K fd ps ds) (hd:aV dvs ds) (hx:w6 CX X E)
  (ha:PAm X (e::es) t) (hdb:(x == ("__debug__" : Str))=false:=by decide) (he:starEach (e::es) X.env=(false,eval e X.env)::starEach es X.env:=by rfl) (hpl:(backTo pos (starEach es X.env)).any (·.1)=false:=by rfl) :
  PEm X (.Call (.Name x p) (e::es) [] pos) (AJ sp dvs E t):=by
 intro pins s σ H Q I h;refine wpAny_Call_Name_kw (md I hg hm ?_ hdb);refine PySem.W.callWith_K (h₀:=X.base) I.ok.mod.kin hk (thn (ha pos pins s σ H _ I h) λus s1 ⟨⟨vs,H1,I1,r,q⟩,h1⟩=>⟨I1.kIn,?_⟩) he hpl;exact eG h1 (DV F hr hb hd hx I1 r q)
theorem Dv {e:Expr}{t:TE}{p pos:Pos} (h:PEm X e t) (he:∀ whole,isTrue e X.env whole=(do let v <-whole;standAt e.pos;holding [v] (truthy v)):=by intro _;rfl):PTq X (.BoolOp .Or [.UnaryOp .Not e p] pos) (IR (tB t)):=by
 intro wh pins s σ H Q I hw;have key:wpAny (model X.prog X.w) X.A (isTrue (.UnaryOp .Not e p) X.env (eval (.UnaryOp .Not e p) X.env)) (λc s'=>TP X pins σ Q c s'/\1<=s'.toks) X.xe s:=by
  refine isTrue_not (isTrue_plain (thn (h pins s σ H _ I hw) λv s1 ⟨⟨x,H1,I1,r1,q1⟩,h1⟩=>?_) (he _));obtain ⟨d,rfl,q⟩:=q1;cases r1;exact wpAny_truthy_bool ⟨⟨H1,I1,q⟩,h1⟩
 refine isTrue_or (thn key λc s1 ⟨e,ht⟩=>?_);cases c with
 | false=>exact isTrue_or_nil ⟨e,λ_=>ht⟩
 | true=>exact ⟨e,λz=>by cases z⟩
theorem uS {st:Stmt}{rest:List Stmt}{t u:TS} (ha:PS X st t) (hr:GN X rest u):GN X (st::rest) (CO t u):=by
 intro pins s σ H D h0 I h;refine wpAny_execs_cons (thn (eG (n:=1) h0 (ha pins s σ H { D with nx:=u D } I h)) λf s1 ⟨q,h1⟩=>?_);cases f with
 | next=>
  obtain ⟨σ',H',I',q⟩:=q;exact hr pins s1 σ' H' D h1 I' q
 | ret v=>exact q
 | brk=>exact q
 | cont=>exact q
theorem EM {a c d:Expr}{tA:TT}{tc td:TE}{pos p2 p3:Pos}{op:CmpOp}{r:R2}{bo el rest:List Stmt}{t1 t2 u:TS} (ha:PT X a tA) (ho:OpR X (compareOp op) r) (hc:PEq X c tc) (hd:PEq X d td) (hm:behindInMarks op d=false) (h1:PSs X bo t1) (h2:PSs X el t2) (hr:PSs X rest u) :
  GN X (.If (.BoolOp .Or [a,.Compare c [op] [d] p2] pos) bo el p3::rest) (CO (II (tOr tA (A3 (tOp r tc td))) t1 t2) u):=by
 intro pins s σ H D h0 I h;have key:∀ Q:Bool->Hp->Prop,(tOr tA (A3 (tOp r tc td))) σ H Q->wpAny (model X.prog X.w) X.A (isTrue (.BoolOp .Or [a,.Compare c [op] [d] p2] pos) X.env (eval (.BoolOp .Or [a,.Compare c [op] [d] p2] pos) X.env)) (TP X pins σ Q) X.xe s:=by
  intro Q h;refine isTrue_or (thn (eG (n:=1) h0 (ha pins s σ H _ I h)) λk s1 ⟨⟨H1,I1,q1⟩,h0⟩=>?_);cases k with
  | true=>exact ⟨H1,I1,q1⟩
  | false=>
   have key:wpAny (model X.prog X.w) X.A (isTrue (.Compare c [op] [d] p2) X.env (eval (.Compare c [op] [d] p2) X.env)) (TP X pins σ Q) X.xe s1:=by
    refine wpAny_isTrue_Compare1 (thn (eG (n:=1) h0 (hc pins s1 σ H1 _ h0 I1 q1)) λv s2 ⟨⟨x,H2,I2,r1,q2⟩,h2⟩=>thn (hd pins s2 σ H2 _ h2 I2 q2) λu s3 ⟨y,H3,I3,r2,q3⟩=>
     thn (ho pins s3 σ H3 x y v u _ I3 r1 r2 q3) λw s4 ⟨z,H4,I4,r3,b,e,q4⟩=>?_) hm
    subst e;cases r3;exact wpAny_truthy_bool ⟨H4,I4,q4⟩
   refine isTrue_or (thn key λb s2 e=>?_);cases b with
   | false=>exact isTrue_or_nil e
   | true=>exact e
 refine wpAny_execs_cons (thn (Q:=SP X pins { D with nx:=u D }) (wpAny_If (thn (key _ h) λk s1 ⟨H1,I1,q1⟩=>?_)) λf s1 q=>?_)
 ·cases k with
  | true=>exact h1 pins s1 σ H1 _ I1 q1
  | false=>exact h2 pins s1 σ H1 _ I1 q1
 ·cases f with
  | next=>
   obtain ⟨σ',H',I',q⟩:=q;exact hr pins s1 σ' H' D I' q
  | ret v=>exact q
  | brk=>exact q
  | cont=>exact q
end L2
namespace K38
open PySem L2 LG
section
variable {P:Program}{w:World}{K:PySem.W.Frag}{mg:Str->Option Value}{base:Heap}{A:Ad}
def wU (K:PySem.W.Frag) (P:Addr):Sp:=λvs H Q _=>∃ (a:Addr) (ns:List Int),vs=[.ref a]/\SqL K H a (ns.map V.int)/\ns.length<=63/\cu P H/\∀ H',Q (.bl true) H'
theorem DQ {P d:Addr}{H H':Hp}{ys:List V} (h:cu P H) (hd:H d=some (.lst ys)) (s:af (wo d H) H'):cu P H':=by
 obtain ⟨ps,h1,h2,h3⟩:=h;have a:P≠d:=λe=>by rw [e,hd] at h1;cases h1
 refine ⟨ps,s _ _ (by rw [aT a];exact h1),h2,h3.imp id λ⟨c,x,y⟩=>⟨c,x,?_⟩⟩;have b:c≠d:=λe=>by rw [e,hd] at y;cases y
 exact s _ _ (by rw [aT b];exact y)
def Kv:Sh:=.list (.list (.cw .str (.cw .str .pZ)))
theorem AX (pss:List (List Pt)):Kv.has (.list (pss.map be)):=⟨_,rfl,λx hx=>by
 obtain ⟨ps,_,rfl⟩:=N5.mp hx;exact ⟨_,rfl,λy hy=>by
  obtain ⟨p,_,rfl⟩:=N5.mp hy;cases p <;> exact ⟨_,_,rfl,⟨_,rfl⟩,_,_,rfl,⟨_,rfl⟩,rfl⟩⟩⟩
theorem qv (pss:List (List Pt)):PyData.eqv (.list (pss.map be)) (.list (pss.map be))=true:=((Sh.ok Kv).eqv _ _ (AX pss) (AX pss)).mpr rfl
def pz (z:Str):List Pt:=aJ (Txt.split z " ")
theorem nS:∀ ws:List Str,qW (aJ ws) []=ws
 | []=>rfl
 | w::ws=>congrArg (w :: ·) (nS ws)
theorem Ay:∀ ws:List Str,(aJ ws).filter wu=[]
 | []=>rfl
 | _::ws=>Ay ws
theorem yD {ps:List Pt} (hp:PW ps) (hl:ps.length<=12):(Txt.join " " (ps.map cv)).length<=10000:=by
 have h1:((" " : Str)).length=1:=rfl;have hj:=n5 (y:= " ") (m:=501) (by decide +kernel) (xs:=ps.map cv) λx hx=>by
  obtain ⟨p,hm,rfl⟩:=N5.mp hx;exact ⟨yy (hp p hm),pF (hp p hm)⟩
 rw [h1,NU] at hj;have:=hj.2;lia
theorem F4 {lz:List Str} (h:Kf lz):lZ (lz.map pz):=by
 unfold lZ;rw [List.pairwise_map];refine List.Pairwise.imp (λ{a b} q=>?_) h;show ltv (gm (aJ _)) (gm (aJ _))=false;rw [LI];exact q
theorem HP {α β:Type}{f:α->β}:∀ {l:List β},(∀ p∈l,∃ w,p=f w)->∃ lw:List α,l=lw.map f
 | [],_=>⟨[],rfl⟩
 | p::l,h=>by
  obtain ⟨w,e⟩:=h p (.head _);obtain ⟨lw,e2⟩:=HP (l:=l) λq hq=>h q (.tail _ hq);exact ⟨w::lw,by rw [e,e2];rfl⟩
def L38 (P Z:Addr) (cells:List V) (i:Nat) (σ:St) (H:Hp):Prop:=(∃ u0 u1 u2 u3 u4 u5 u6 u7 u8 u9 u10,σ=[u0,u1,u2,u3,u4,u5,u6,u7,u8,u9,u10])/\H Z=some (.lst cells)/\cu P H
theorem ig:aA ["script","cell","deck","lines","patterns","number","line","text","some","pattern","at"] ["script"] (ag (top 75)):=⟨rfl,rfl,rfl,by decide +kernel,rfl,by decide +kernel,by decide +kernel⟩
set_option maxHeartbeats 8000000 in
theorem HY (F:Fun K "law" "law" (top 75) A.HV A.HX) (T:Tx K mg A):au P w K mg base CX0 21 A.HV A.HX ["script"] (wU K A.aM):=by
 have xu:au P w K mg base CX0 20 A.k7 A.lD ["cell","turn"] (og K):=(wK T).mono (by decide);have wb:au P w K mg base CX0 20 A.j7 A.ke ["deck","most"] (mQ K):=(uy T).mono (by decide);have eH:au P w K mg base CX0 20 A.gX A.gY ["patterns"] (g9 K):=(kE T).mono (by decide);have eQ:au P w K mg base CX0 20 A.gP A.gR ["line"] (i8 K):=(mR T).mono (by decide);have tu:au P w K mg base CX0 20 A.iq A.gZ ["pattern"] (kK K):=(rD T).mono (by decide);have mW:au P w K mg base CX0 20 A.eE A.d8 ["patterns"] (gw K):=(mI T).mono (by decide);have Ag:au P w K mg base CX0 20 A.nD A.nh ["lines","sieve"] (oK K A.aM):=(yN T).mono (by decide);have tL:au P w K mg base CX0 20 A.ic A.iu ["one","other"] (kI K):=(rh T).mono (by decide);have yh:au P w K mg base CX0 20 A.rT A.t9 ["pattern","words"] (vG K):=(Cs T).mono (by decide);have AI:au P w K mg base CX0 20 A.m4 A.m6 ["lines"] (qM K):=(yE T).mono (by decide);have iK:au P w K mg base CX0 20 A.eP A.fq ["one","other"] (eC K):=(nA T).mono (by decide);have ul:au P w K mg base CX0 20 A.i7 A.jf ["line","patterns"] (l6 K):=(tp T).mono (by decide);have r6:au P w K mg base CX0 20 A.iy A.ix ["text"] (kQ K):=(rg T).mono (by decide);refine F.ok ig (λvs H Q E h=>?_) (λcdv Ar outer s H vs Q E hr h=>?_)
 ·obtain ⟨a,ns,rfl,_⟩:=h;rfl
 ·obtain ⟨a,ns,rfl,J3,hn,hla,k⟩:=h;refine ⟨_,ah (fP PassesOwn.never rfl (aP (dP (r:=uz K) gB (bX (r:=vH K) oX (pv 0) (bQ (aa (ap) (ae)))) (gF) (eT (ap)))) (aw (i:=1) ig.nd rfl (Or.inl rfl)) (ah (a9 (i:=2) ig.nd rfl (Or.inl rfl) (ak xu hr (by rfl) T.mx.mg T.mx.fn.kp T.mx.bd .nil av (aa (pv 1) (aa (ap) (ae)))))
   (ah (a9 (i:=3) ig.nd rfl (Or.inl rfl) (ak wb hr (by rfl) T.kF.mg T.kF.fn.kp T.kF.bd .nil av (aa (pv 2) (aa (ap) (ae)))))
   (ah (gL (i:=4) (N':=["line"]) (n:=1) (fi:=[]) (g:=aY 0) ig.nd rfl (Or.inl rfl) rfl (aU (ag (top 75)) ["script","cell","deck","lines","patterns","number","line","text","some","pattern","at"] (by decide +kernel)) (aP (pv 3)) (λs H fp=>aw (i:=0) (show (["line"]:List Str).Nodup by decide +kernel) rfl (Or.inl rfl) (.inr rfl)) (λs H fp=>aO) (λs H fp=>ak eQ hr (by rfl) T.bD.mg T.bD.fn.kp T.bD.bd .nil av (aa (pv 0) (ae))))
   (ah (bj (aR (r:=zw K) (qz hr) (ak eH hr (by rfl) T.ordered.mg T.ordered.fn.kp T.ordered.bd .nil av (aa (pv 4) (ae))) (aW (N':=["line"]) (n:=1) (fi:=[]) (g:=aY 0) rfl (aU (ag (top 75)) ["script","cell","deck","lines","patterns","number","line","text","some","pattern","at"] (by decide +kernel)) (aP (ak AI hr (by rfl) T.pN.mg T.pN.fn.kp T.pN.bd .nil av (aa (pv 3) (ae)))) (λs H fp=>aw (i:=0) (show (["line"]:List Str).Nodup by decide +kernel) rfl (Or.inl rfl) (.inr rfl)) (λs H fp=>aO) (λs H fp=>ak eQ hr (by rfl) T.bD.mg T.bD.fn.kp T.bD.bd .nil av (aa (pv 0) (ae)))) (aQ _)) (aj (ar (gh))) (aG))
   (ah (fP PassesOwn.never rfl (GU (by rfl) T.yA (aa (pv 3) (ae))) (nk rfl (cn (aw (i:=5) ig.nd rfl (Or.inl rfl)) (cn (aw (i:=6) ig.nd rfl (Or.inl rfl)) (jQ)))) (GF (Iy (fN (bi (ak iK hr (by rfl) T.bL.mg T.bL.fn.kp T.bL.bd .nil av (aa (pv 6) (aa (ba (r:=c9 K) aX (pv 3) (bX wQ (pv 5) (ap)) (λ_ _=>rfl)) (ae)))))) (Dv (DN iK hr (by rfl) T.bL.mg T.bL.fn.kp T.bL.bd .nil av (Dh (pv 6) (Ew (JS (r:=c9 K) aX (pv 3) (λ_ _=>rfl)) (ae)))))) (aj (ar (gh))) (uS (bj ((pw_or (aR (r:=zw K) (qz hr) (ak ul hr (by rfl) T.iR.mg T.iR.fn.kp T.iR.bd .nil av (aa (pv 6) (aa (pv 4) (ae)))) (ba (r:=c9 K) aX (pv 4) (pv 5) (λ_ _=>rfl)) (aQ _)) (pw_or1 (aR (kJ) (ak yh hr (by rfl) T.filled.mg T.filled.fn.kp T.filled.bd .nil av (aa (ba (r:=c9 K) aX (pv 4) (pv 5) (λ_ _=>rfl)) (aa (bQ (ae)) (ae)))) (pv 6) (aQ _)))).pt) (aj (ar (gh))) (aG)) (uS (a9 (i:=7) ig.nd rfl (Or.inl rfl) (ak tu hr (by rfl) T.gJ.mg T.gJ.fn.kp T.gJ.bd .nil av (aa (ba (r:=c9 K) aX (pv 4) (pv 5) (λ_ _=>rfl)) (ae)))) (EM (aR (r:=zw K) (qz hr) (ak r6 hr (by rfl) T.gG.mg T.gG.fn.kp T.gG.bd .nil av (aa (pv 7) (ae))) (ba (r:=c9 K) aX (pv 4) (pv 5) (λ_ _=>rfl)) (aQ _)) (kJ) (qC (pv 7)) (qC (pv 6)) (aQ _) (aj (ar (gh))) (aG) (aj (bj (aR (r:=zw K) (qz hr) (ak Ag hr (by rfl) T.gathered.mg T.gathered.fn.kp T.gathered.bd .nil av (aa (bQ (aa (pv 6) (aa (pv 6) (ae)))) (aa (eF (aa (ap) (aa (ap) (ae)))) (ae)))) (bQ (aa (ba (r:=c9 K) aX (pv 4) (pv 5) (λ_ _=>rfl)) (ae))) (aQ _)) (aj (ar (gh))) (aG))))))))
   (ah (a9 (i:=8) ig.nd rfl (Or.inl rfl) (bQ (ae)))
   (ah (fP PassesOwn.never rfl (aP (ak eH hr (by rfl) T.ordered.mg T.ordered.fn.kp T.ordered.bd .nil av (aa (pv 4) (ae)))) (aw (i:=9) ig.nd rfl (Or.inl rfl)) (aj (bj ((pw_and (aR (r:=Kx K true) (BQ hr) (pv 9) (pv 8) (by rfl)) (pw_and1 (aR (A4) (aK (r:=cD K) aS (by rfl) T.cq PySem.boot_len (aa (pv 8) (ae))) (ap) (aQ _)))).pt) (aj (iX (c5 PySem.F.plainAttrs_list PySem.F.slot_list_append PySem.F.type_list_append eM (pv 8) (aa (pv 9) (ae))))) (aG))))
   (ah (bj (aR (r:=zw K) (qz hr) (ak mW hr (by rfl) T.dq.mg T.dq.fn.kp T.dq.bd .nil av (aa (pv 8) (ae))) (pv 8) (aQ _)) (aj (ar (gh))) (aG))
   (aj (fP PassesOwn.never rfl (eL (by rfl) T.gT (aa (aK (r:=cD K) aS (by rfl) T.cq PySem.boot_len (aa (pv 8) (ae))) (ae))) (aw (i:=10) ig.nd rfl (Or.inl rfl)) (aj (bj (aR (kJ) (ak tL hr (by rfl) T.gC.mg T.gC.fn.kp T.gC.bd .nil av (aa (pv 8) (aa (bX (r:=vH K) oX (dP (r:=uz K) gB (pv 8) (gF) (eT (pv 10))) (dP (r:=uz K) gB (pv 8) (eT (bX jM (pv 10) (ap))) (gF))) (ae)))) (ak yh hr (by rfl) T.filled.mg T.filled.fn.kp T.filled.bd .nil av (aa (ba (r:=c9 K) aX (pv 8) (pv 10) (λ_ _=>rfl)) (aa (bQ (ae)) (ae)))) (aQ _)) (aj (ar (gh))) (aG))))))))))))))
   (aj (ar (gh))),?_⟩
  refine ⟨_,rfl,(by show 1<=sizeLine;decide),λp hp=>⟨a,p,_,_,rfl,rfl,(af.new hp).seq J3,.of ab,?_,λq hq=>⟨3,rfl,q,_,rfl,.of ab,λZ hZ=>⟨Z,rfl,⟨_,.of ab⟩,?_⟩⟩⟩⟩
  ·rw [NU];exact N2 (Nat.add_le_add_right hn 1) (by decide)
  have Fw:∀ i x,(jD (ns.map V.int++[V.int 0]) none (some 3))[i]? = some x->∃ c:Int,x=V.int c:=λi x hx=>by
   rw [oA (by decide)] at hx;rcases List.mem_append.mp (List.mem_of_mem_take (NV hx)) with hm | hm
   ·obtain ⟨c,_,rfl⟩:=N5.mp hm;exact ⟨c,rfl⟩
   ·exact ⟨0,N3.mp hm⟩
  have laZ:=bh (bh (bh hla (af.new (o:=.lst [.int 0]) hp)) (af.new (o:=.lst (ns.map V.int++[V.int 0])) hq)) (af.new (o:=.lst (jD (ns.map V.int++[V.int 0]) none (some 3))) hZ);generalize jD (ns.map V.int++[V.int 0]) none (some 3)=cells at Fw laZ;refine jC (K:=K) (xs:=cells) (L38 A.aM Z cells) ⟨⟨_,_,_,_,_,_,_,_,_,_,_,rfl⟩,ab,laZ⟩ (λi σ H _ q=>.of q.2.1) (λi x σ H0 hx q=>?_) (λσ H q=>?_)
  ·obtain ⟨c,rfl⟩:=Fw i x hx;obtain ⟨q0,hZ0,la0⟩:=q;apply K5 q0;clear q0;intro u0 u1 u2 u3 u4 u5 u6 u7 u8 u9 u10;clear laZ hla J3 hx;refine ⟨_,rfl,c,rfl,λd H1 hd s1 dk1=>?_⟩;have hdZ:d≠Z:=(ao hZ0 hd).symm;have hZ1:=s1 _ _ hZ0;have la1:cu A.aM H1:=bh la0 s1;obtain ⟨zs1,hd1⟩:=dk1.lst;refine ⟨_,rfl,d,30,_,rfl,dk1,by decide,by decide,by decide,λD zs H4 hD s4 dk4 hDl hls hll=>?_⟩;have la4:cu A.aM H4:=DQ la1 hd1 s4;have hZ4:H4 Z=_:=fh s4 hZ1 hdZ;have hzl:zs.length<=30:=hll;clear dk4 s4 hD dk1 hd1 la1 hZ1 s1 hZ0 la0 hd hdZ hll;have IE:∀ (lz:List Str) (LL R:Addr) (Ha:Hp) (σ0:St) (N:Addr->List V->Hp->Prop),True:=λ_ _ _ _ _ _=>trivial;refine ⟨_,rfl,D,rfl,⟨_,.of hDl⟩,λPL hPL=>?_⟩;refine aE (K:=K) (xs:=zs.map V.str) (λj bP σ H12=>(∃ u,σ=[u])/\af H4 H12/\aI K (wo PL H12) bP (((zs.take j).map pz).map be)) ab ⟨⟨_,rfl⟩,af.new hPL,.nil⟩ (λj bP σ H12 _ _ q=>.of (q.2.1 _ _ hDl)) (λj y bP σ H12 hy hRx q=>?_) (λCK σ H5 hP5 q=>?_)
   ·obtain ⟨q0,s12,dn2⟩:=q;apply cf q0;clear q0;intro u;obtain ⟨z,hz,rfl⟩:=cY hy;obtain ⟨ws,hln⟩:=hls z (NV hz);have Ja:bP.length<=64:=by rw [dn2.length,NU,NU,N7];lia
    refine bM ⟨_,rfl,z,ws,rfl,hln,λI C9 H14 hI s14 IU dn3=>?_⟩;have Ei:=s14 _ _ hRx;have hIR:I≠PL:=(ao hRx hI).symm;refine ⟨_,Ei,small (by lia),_,ab,⟨_,rfl⟩,aq hPL (s12.trans s14),?_⟩;rw [p7,List.take_add_one,hz];simp only [Option.toList,N8,Oc,List.map_nil];unfold pz at dn2 ⊢;rw [hln.split];exact (dn2.same (mF s14)).append (.cons (.lst (xs:=C9) (.of (by rw [aT hIR];exact IU)) (dn3.same (DR Ei))) .nil)
   obtain ⟨_,s5,dn⟩:=q;rw [NU,NZ (NX _)] at dn;have la5:cu A.aM H5:=bh la4 s5;have hD5:=s5 _ _ hDl;have hZ5:=s5 _ _ hZ4;obtain ⟨tb5,yk⟩:=eY la5;have dnB:aI K (wo A.aM H5) CK ((zs.map pz).map be):=tD yk (dn.same bG);have hBP:(wo A.aM H5) A.aM=none:=d6;have toB:∀ {b:Addr}{o:HO},H5 b=some o->(∀ qs,o ≠ .tbl qs)->(wo A.aM H5) b=some o:=λ{b o} e n=>by rw [aT (p8 yk e n)];exact e
   have hBD:=toB hD5 λqs e=>by cases e
   have hBZ:=toB hZ5 λqs e=>by cases e
   have hBT:=toB hP5 λqs e=>by cases e
   have sB5:af (wo A.aM H5) H5:=bG;generalize wo A.aM H5=B at dnB hBP hBD hBZ hBT sB5;clear toB hD5 hZ5 hP5 hZ4 hDl la4 s5 dn hPL IE;have hal:CK.length=zs.length:=by rw [dnB.length,NU,NU]
   have Az:jz (zs.map pz):=λp hp=>by
    obtain ⟨z,hz,rfl⟩:=N5.mp hp;obtain ⟨ws,hln⟩:=hls z hz;unfold pz;rw [hln.split];exact AR hln
   have hpo:∀ p∈zs.map pz,POk p:=λp h=>jL (Az p h).1 (Az p h).2.2;have hzo:∀ z∈zs,LOk z/\PyData.strOk z=true:=λz hz=>by
    obtain ⟨ws,hln⟩:=hls z hz;exact qt hln
   refine ⟨_,rfl,PL,CK,zs.map pz,rfl,.of (sB5 _ _ hBT),by lia,dnB.same sB5,hpo,λO C7 H6 l hO s6 hOO a7 gu _ _ dnO=>?_⟩;refine ⟨_,rfl,D,zs,rfl,.of ((sB5.trans s6) _ _ hBD),by lia,hzo,λI lz H7 hI s7 hlz hlo hII=>⟨I,rfl,⟨_,.of hII⟩,λC hC=>?_⟩⟩;have hlm:∀ z∈lz,z∈zs:=λz hz=>hlz.mem_iff.mp hz;refine aE (K:=K) (xs:=lz.map V.str) (λj bP σ H12=>(∃ u,σ=[u])/\af H7 H12/\aI K (wo C H12) bP (((lz.take j).map pz).map be)) ab ⟨⟨_,rfl⟩,af.new hC,.nil⟩ (λj bP σ H12 _ _ q=>.of (q.2.1 _ _ hII)) (λj y bP σ H12 hy hRx q=>?_) (λNH σ H8 hC8 q=>?_)
   ·obtain ⟨q0,s12,dn2⟩:=q;apply cf q0;clear q0;intro u;obtain ⟨z,hz,rfl⟩:=cY hy;obtain ⟨ws,hln⟩:=hls z (hlm z (NV hz));have hll:=hlz.length_eq;have Ja:bP.length<=64:=by rw [dn2.length,NU,NU,N7];lia
    refine bM ⟨_,rfl,z,ws,rfl,hln,λI2 C9 H14 hI2 s14 IU dn3=>?_⟩;have Ei:=s14 _ _ hRx;have hIR:I2≠C:=(ao hRx hI2).symm;refine ⟨_,Ei,small (by lia),_,ab,⟨_,rfl⟩,aq hC (s12.trans s14),?_⟩;rw [p7,List.take_add_one,hz];simp only [Option.toList,N8,Oc,List.map_nil];unfold pz at dn2 ⊢;rw [hln.split];exact (dn2.same (mF s14)).append (.cons (.lst (xs:=C9) (.of (by rw [aT hIR];exact IU)) (dn3.same (DR Ei))) .nil)
   obtain ⟨_,s8,dnC⟩:=q;rw [NU,NZ (NX _)] at dnC;have el:l=lz.map pz:=lg (a7.trans (hlz.map pz).symm) gu (F4 hlo);subst el;refine ⟨_,_,.lst (.of ((s7.trans s8) _ _ hOO)) ((dnO.same cg).same (s7.trans s8)),.lst (.of hC8) (dnC.same bG),tU _,_,rfl,?_⟩;rw [qv];refine bg ?_;have sB8:=sB5.trans ((s6.trans s7).trans s8);have la8:cu A.aM H8:=bh la5 ((s6.trans s7).trans s8);clear dnC dnO hC8 s8 s7 s6 hOO hII hI hO hC a7 gu hlm hlo hlz sB5 la5;refine ⟨_,rfl,D,rfl,⟨_,.of (sB8 _ _ hBD)⟩,?_⟩;refine CM (K:=K) (xs:=zs.map V.str) (λi σ H9=>(∃ v5 v6 v7 v8 v9 v10,σ=[u0,some (.int c),some (.ref d),some (.ref D),some (.ref PL),v5,v6,v7,v8,v9,v10])/\af B H9/\cu A.aM H9) ⟨⟨_,_,_,_,_,_,rfl⟩,sB8,la8⟩ (λi σ H9 q=>.of (q.2.1 _ _ hBD)) (λi x σ H9 t hx q ht=>?_) (λσ H9 q=>?_)
   ·obtain ⟨q0,s9,la9⟩:=q;apply Lz q0;clear q0;intro v5 v6 v7 v8 v9 v10;clear sB8 la8;obtain ⟨z,hz,rfl⟩:=cY hx;have hzm:=NV hz;obtain ⟨ws,hln⟩:=hls z hzm;have hi:=aF hz;have sT:=af.new (o:=.tup [.int i,.str z]) ht;have ud:af B (upd H9 t (.tup [.int i,.str z])):=s9.trans sT;have AH:cu A.aM (upd H9 t (.tup [.int i,.str z])):=bh la9 sT;refine ⟨t,_,rfl,.of ab,rfl,_,_,rfl,_,_,rfl,rfl,?_⟩;generalize upd H9 t (.tup [.int i,.str z])=H10 at ud AH;clear sT s9 la9 ht;obtain ⟨x,hxi⟩:=at_of (l:=CK) (i:=i) (by lia);obtain ⟨p,hpi,hdp⟩:=bO dnB hxi;rw [N1,hz] at hpi;cases hpi;have epz:pz z=aJ ws:=by unfold pz;rw [hln.split]
    rw [epz] at hdp;obtain ⟨z2,hz2⟩:=at_of (l:=zs) (i:=i / 2) (by lia);obtain ⟨ws2,LZ⟩:=hls z2 (NV hz2);obtain ⟨z0,hz0⟩:=at_of (l:=zs) (i:=0) (by lia);obtain ⟨ws0,Mw⟩:=hls z0 (NV hz0);have hx2:(zs.map V.str)[i / 2]? = some (.str z2):=by rw [N1,hz2];rfl
    have hx0:(zs.map V.str)[0]? = some (.str z0):=by rw [N1,hz0];rfl
    refine ⟨_,rfl,_,rfl,_,rfl,_,_,rfl,rfl,⟨by decide,by decide⟩,D,_,_,_,rfl,rfl,.of (ud _ _ hBD),bA (j:=i / 2) hx2,z,z2,ws,ws2,rfl,hln,LZ,λH11 s11=>⟨_,rfl,bg ?_⟩⟩;have Jc:=ud.trans s11;refine ⟨_,rfl,_,rfl,D,_,_,_,rfl,rfl,.of (Jc _ _ hBD),bA (j:=0) hx0,z,z0,ws,ws0,rfl,hln,Mw,λH12 s12=>⟨_,rfl,bg ?_⟩⟩;have Ho:=Jc.trans s12;have vO:cu A.aM H12:=bh AH (s11.trans s12);clear ud AH s11 s12 Jc;refine ⟨_,rfl,_,rfl,z,PL,CK,zs.map pz,rfl,.of (Ho _ _ hBT),by lia,dnB.same Ho,hpo,(hzo z hzm).1,(hzo z hzm).2,λr H13 s13 hfl=>?_⟩;have B7:=Ho.trans s13;obtain ⟨o,hdo,hfo,_⟩:=Gg hfl;have hoo:o=some (aJ ws):=by
     have em:zs.map pz=(zs.map λz=>Txt.split z " ").map aJ:=by rw [List.map_map];rfl
     cases o with
     | none=>
      have:=hfo.nil.mp rfl;rw [em] at this;exact absurd this (yj (N5.mpr ⟨z,hzm,rfl⟩))
     | some q=>
      have:=hfo.least q rfl;rw [em] at this;rw [Fk this,hln.split]
    subst hoo;refine ⟨_,rfl,_,rfl,PL,_,_,_,rfl,rfl,.of (B7 _ _ hBT),bA hxi,_,_,hdo,hdp.same B7,N2 (jA _) (by decide),_,rfl,?_⟩;show if (!PyData.eqv (be (aJ ws)) (be (aJ ws)))=true then _ else _;rw [nV];refine bg ?_;have hpw:=AR hln;refine ⟨_,rfl,_,rfl,PL,_,_,_,rfl,rfl,.of (B7 _ _ hBT),bA hxi,Nat.zero_le _,λE1 hE1=>?_⟩;have sE1:=af.new (o:=.lst []) hE1;refine ⟨x,E1,aJ ws,[],rfl,hdp.same (B7.trans sE1),λq hq=>(hpw.1 q hq).ok,N2 hpw.2.2 (by decide),.of ab,(λw hw=>by cases hw),(by rw [Ay];rfl),(λw hw=>?_),λH14 s14=>⟨_,rfl,rfl,_,rfl,?_⟩⟩
    ·rw [nS] at hw;exact N2 (hln.wd w hw).len (by decide)
    rw [nS,<-hln.eq,decide_eq_true rfl];refine bg ?_;have F9:=(B7.trans sE1).trans s14;have B9:cu A.aM H14:=bh vO ((s13.trans sE1).trans s14);clear sE1 hE1 s14 B7 s13 hfl hdo hfo vO Ho;refine ⟨_,rfl,_,rfl,PL,_,_,_,rfl,rfl,.of (F9 _ _ hBT),bA hxi,x,aJ ws,rfl,hdp.same F9,hpw.1,N2 hpw.2.2 (by decide),λH15 s15=>?_⟩;have LX:=F9.trans s15;refine ⟨_,rfl,aJ ws,rfl,hpw.1,hpw.2.1,hpw.2.2,λr H16 s16 hdr=>?_⟩;have IY:=LX.trans s16;refine ⟨_,rfl,_,rfl,PL,_,_,_,rfl,rfl,.of (IY _ _ hBT),bA hxi,_,_,hdr,hdp.same IY,N2 (jA _) (by decide),_,rfl,?_⟩;rw [nV];refine bg ?_;refine ⟨_,rfl,_,rfl,(by decide +kernel),yD hpw.1 hpw.2.2,(by decide +kernel),_,rfl,z,rfl,(by decide +kernel),(hzo z hzm).1,(by decide +kernel),rfl,_,rfl,?_⟩;rw [xJ,<-hln.eq,decide_eq_true rfl];refine bg ?_;have Mp:cu A.aM H16:=bh B9 (s15.trans s16);clear hdr s16 LX s15 F9 B9;refine ⟨_,rfl,_,rfl,(by show 2<=sizeLine;decide),λG1 hG1=>⟨(by show 2<=sizeLine;decide),λG2 hG2=>?_⟩⟩;have sG:=(af.new (o:=.lst [.str z,.str z]) hG1).trans (af.new (o:=.tup [.int 2,.int 2]) hG2);refine ⟨G1,G2,[z,z],2,2,rfl,.of ((af.new hG2) _ _ ab),by simp,(λy hy=>?_),.of ab,bh Mp sG,λG ms NT H18 ps a7 hup hG s18 MR hGG hps gu _ _ _ _ dnG=>?_⟩
    ·simp only [List.mem_cons,List.not_mem_nil,or_false,or_self] at hy;rw [hy];exact ⟨ws,hln⟩
    have Ig:af B H18:=(iH hBP (IY.trans sG)).trans s18;have em:ms=[z]:=List.perm_singleton.mp (by rw [show jI [] [z,z]=[z] by simp [jI]] at a7;exact a7);subst em;rw [Oc,List.map_nil,hln.split,zM] at hps;have ep:=List.perm_singleton.mp hps;subst ep;refine ⟨_,rfl,_,rfl,PL,_,_,_,rfl,rfl,.of (Ig _ _ hBT),bA hxi,(by show 1<=sizeLine;decide),λE2 hE2=>?_⟩;have sE2:=af.new (o:=.lst [x]) hE2;refine ⟨_,_,.lst (.of (sE2 _ _ hGG)) ((dnG.same cg).same sE2),.lst (ds:=[aJ ws].map be) (.of ab) (.cons (hdp.same (Ig.trans sE2)) .nil),tU _,_,rfl,?_⟩;rw [qv];exact bg ⟨⟨_,_,_,_,_,_,rfl⟩,Ig.trans sE2,bh MR sE2⟩
   ·obtain ⟨q0,s9,la9⟩:=q;apply Lz q0;clear q0;intro v5 v6 v7 v8 v9 v10;clear sB8 la8;refine ⟨Nat.zero_le _,λSM hSM=>?_⟩;have hSB:B SM=none:=s9.free hSM;have sN:=af.new (o:=.lst []) hSM;have ud:af B (upd H9 SM (.lst [])):=s9.trans sN;have hSS:(upd H9 SM (.lst [])) SM=some (.lst []):=ab;have AH:cu A.aM (upd H9 SM (.lst [])):=bh la9 sN;generalize upd H9 SM (.lst [])=H10 at ud hSS AH ⊢;clear s9 la9 hSM sN;refine ⟨_,rfl,PL,CK,zs.map pz,rfl,.of (ud _ _ hBT),by lia,dnB.same ud,hpo,λO C7 H11 l hO s11 hOO a7 gu _ _ dnO=>⟨O,rfl,⟨_,.of hOO⟩,?_⟩⟩;have HU:=s11 _ _ hSS;have LC:cu A.aM H11:=bh AH s11;obtain ⟨MB,uW⟩:=eY LC;have hPS:A.aM≠SM:=λe=>by rw [e,HU] at uW;cases uW
    have hOS:O≠SM:=(ao hSS hO).symm;have hZS:Z≠SM:=λe=>by rw [e,hSB] at hBZ;cases hBZ
    have JC:=(ud.trans s11) _ _ hBZ;have KZ:(wo SM H11) A.aM=some (.tbl MB):=by rw [aT hPS];exact uW
    have dn2:aI K (wo A.aM (wo SM H11)) C7 (l.map be):=tD KZ (dnO.same (wj hSS));have h2S:(wo A.aM (wo SM H11)) SM=none:=by rw [aT hPS.symm];exact d6
    have h2O:(wo A.aM (wo SM H11)) O=some (.lst C7):=by rw [aT (p8 uW hOO λqs e=>by cases e),aT hOS];exact hOO
    have h2Z:(wo A.aM (wo SM H11)) Z=some (.lst cells):=by rw [aT (p8 uW JC λqs e=>by cases e),aT hZS];exact JC
    have s2:af (wo A.aM (wo SM H11)) H11:=bG.trans bG;generalize wo A.aM (wo SM H11)=B2 at dn2 h2S h2O h2Z s2;clear dnO hO s11 hOO ud hSS AH uW KZ hPS hOS hZS JC hSB dnB hBP hBD hBZ hBT;have hlm:∀ p∈l,∃ ws,p=aJ ws:=λp hp=>by
     obtain ⟨z,_,rfl⟩:=N5.mp (a7.mem_iff.mp hp);exact ⟨_,rfl⟩
    have hlk:jz l:=λp hp=>Az p (a7.mem_iff.mp hp);have hll:l.length<=30:=by rw [a7.length_eq,NU];exact hzl
    have Ja:C7.length=l.length:=by rw [dn2.length,NU]
    refine jC (K:=K) (xs:=C7) (λi σ H12=>(∃ v5 v6 v7 v9 v10,σ=[u0,some (.int c),some (.ref d),some (.ref D),some (.ref PL),v5,v6,v7,some (.ref SM),v9,v10])/\af B2 H12/\cu A.aM H12/\∃ (cx:List V) (sl:List (List Pt)),H12 SM=some (.lst cx)/\aI K B2 cx (sl.map be)/\sl.Sublist (l.take i)/\sl.Nodup/\sl.length<=8) ⟨⟨_,_,_,_,_,rfl⟩,s2,LC,[],[],HU,.nil,List.nil_sublist _,List.nodup_nil,Nat.zero_le _⟩ (λi σ H12 _ q=>.of (q.2.1 _ _ h2O)) (λi x σ H12 hx q=>?_) (λσ H12 q=>?_)
    ·obtain ⟨q0,s12,vO,cx,sl,hSM,dnS,iD,hnd,hsl⟩:=q;apply G6 q0;clear q0;intro v5 v6 v7 v9 v10;obtain ⟨p,hpi,hdp⟩:=bO dn2 hx;have hpm:=NV hpi;have hle:cx.length=sl.length:=by rw [dnS.length,NU]
     have et:l.take (i+1)=l.take i++[p]:=by rw [List.take_add_one,hpi];rfl
     have hss:sl.Sublist (l.take (i+1)):=by rw [et];exact iD.trans (List.sublist_append_left _ _)
     refine ⟨_,rfl,_,rfl,_,_,.lst (.of hSM) (dnS.same s12),hdp.same s12,N2 (jA p) (by decide),_,rfl,?_⟩;rw [if_pos rfl];cases hin:(sl.map be).any λe=>PyData.eqv e (be p) with
     | true=>exact bg (bg ⟨⟨_,_,_,_,_,rfl⟩,s12,vO,cx,sl,hSM,dnS,hss,hnd,hsl⟩)
     | false=>
      refine bF ⟨_,rfl,SM,cx,rfl,.inl (.of hSM),_,_,rfl,rfl,_,rfl,?_⟩;by_cases h8:sl.length<8
      ·rw [decide_eq_true (show (cx.length:Int)<8 by lia)];refine bF ⟨_,rfl,.inl ⟨rfl,_,.of hSM⟩,_,rfl,SM,_,_,rfl,rfl,hSM,small (by lia),?_⟩;refine ⟨⟨_,_,_,_,_,rfl⟩,aq h2S s12,wa vO hSM,cx++[x],sl++[p],ab,by rw [N8];exact dnS.append (.cons hdp .nil),by rw [et];exact iD.append (List.Sublist.refl [p]),?_,by rw [List.length_append];exact h8⟩;rw [List.nodup_append];refine ⟨hnd,by simp,λa ha b hb e=>?_⟩;rw [N3.mp hb] at e;subst e;rw [List.any_eq_false] at hin;exact hin _ (N5.mpr ⟨a,ha,rfl⟩) (nV a)
      ·rw [decide_eq_false (show ¬ (cx.length:Int)<8 by lia)];exact bg ⟨⟨_,_,_,_,_,rfl⟩,s12,vO,cx,sl,hSM,dnS,hss,hnd,hsl⟩
    ·obtain ⟨q0,s12,vO,cx,sl,hSM,dnS,iD,hnd,hsl⟩:=q;apply G6 q0;clear q0;intro v5 v6 v7 v9 v10;rw [Ja,NZ (NX _)] at iD;obtain ⟨lw,elw⟩:=HP (f:=aJ) (l:=sl) λp hp=>hlm p (iD.subset hp);have Mt:lw.Nodup:=by
      rw [elw,List.nodup_iff_pairwise_ne,List.pairwise_map] at hnd;exact List.nodup_iff_pairwise_ne.mpr (hnd.imp λh e=>h (by rw [e]))
     have hos:lZ sl:=List.Pairwise.sublist iD gu;have hsk:jz sl:=λp hp=>hlk p (iD.subset hp);have hle:cx.length=sl.length:=by rw [dnS.length,NU]
     have hmt:∀ p∈sl,∀ q∈sl,p≠q->eO p q=none:=λp hp q hq hne=>by
      obtain ⟨a,rfl⟩:=hlm p (iD.subset hp);obtain ⟨b,rfl⟩:=hlm q (iD.subset hq);rw [EI,if_neg λe=>hne (by rw [e])]
     refine ⟨_,rfl,SM,cx,sl,rfl,.of hSM,dnS.same s12,hsk,by lia,λN accN H13 l' hN s13 hNN hl' Km _ _ dnN=>?_⟩;have e1:l' = sl:=lg hl' Km hos;subst e1;rw [F2 (λp hp=>(hsk p hp).1) hos hnd hmt] at dnN;have Dz:=s13 _ _ hSM;have JK:=s12.trans s13;refine ⟨_,rfl,_,_,.lst (.of hNN) (dnN.same cg),.lst (.of Dz) (dnS.same JK),tU _,_,rfl,?_⟩;rw [qv];refine bg ?_;have MV:cu A.aM H13:=bh vO s13;clear dnN hNN hN s13 hl' Km s12 vO hSM;refine ⟨_,rfl,SM,cx,rfl,.inl (.of Dz),_,rfl,by lia,by lia,?_⟩;refine qB (λi σ H14=>(∃ v5 v6 v7 v9 v10,σ=[u0,some (.int c),some (.ref d),some (.ref D),some (.ref PL),v5,v6,v7,some (.ref SM),v9,v10])/\af H13 H14/\cu A.aM H14) ⟨⟨_,_,_,_,_,rfl⟩,af.refl _,MV⟩ (λi σ H14 hi q=>?_) (λσ H14 q=>?_)
     ·obtain ⟨q0,s14,B9⟩:=q;apply G6 q0;clear q0;intro v5 v6 v7 v9 v10;have hi':i<cx.length:=by lia
      obtain ⟨x,hxi⟩:=at_of (l:=cx) (i:=i) hi';obtain ⟨ws,hwi⟩:=at_of (l:=lw) (i:=i) (by rw [elw,NU] at hle;lia);have hxd:Den K B2 x (be (aJ ws)):=by
       obtain ⟨p,hpi,hdp⟩:=bO dnS hxi;rw [elw,N1,hwi] at hpi;cases hpi;exact hdp
      have hwk:=hsk (aJ ws) (by rw [elw];exact N5.mpr ⟨ws,NV hwi,rfl⟩);have hwl:∀ w∈ws,w.length<=500:=λw hw=>(hwk.1 (.word w) (N5.mpr ⟨w,hw,rfl⟩)).2.1;have s24:=JK.trans s14;have A2:=s14 _ _ Dz;have e0:(0:Int)+(i:Int)=((i:Nat):Int):=Int.zero_add _;have e1:(0:Int)+(i:Int)+1=((i+1:Nat):Int):=by lia
      refine ⟨_,rfl,_,rfl,_,rfl,_,rfl,SM,cx,rfl,.of A2,λS1 hS1=>?_⟩;have t1:=af.new (o:=.lst (jD cx none (some (0+(i:Int))))) hS1;have K1:(upd H14 S1 (.lst (jD cx none (some (0+(i:Int)))))) S1=some (.lst (cx.take i)):=by rw [ab,e0,oA (Int.natCast_nonneg i),Int.toNat_natCast]
      generalize upd H14 S1 (.lst (jD cx none (some (0+(i:Int)))))=H15 at t1 K1 ⊢;refine ⟨_,rfl,_,rfl,_,_,rfl,rfl,_,rfl,SM,cx,rfl,.of (t1 _ _ A2),λS2 hS2=>?_⟩;have t2:=af.new (o:=.lst (jD cx (some (0+(i:Int)+1)) none)) hS2;have KU:(upd H15 S2 (.lst (jD cx (some (0+(i:Int)+1)) none))) S2=some (.lst (cx.drop (i+1))):=by rw [ab,e1,xI]
      generalize upd H15 S2 (.lst (jD cx (some (0+(i:Int)+1)) none))=H16 at t2 KU ⊢;refine ⟨S1,S2,_,_,rfl,rfl,.of (t2 _ _ K1),.of KU,?_,λM hM=>?_⟩
      ·rw [N7,List.length_drop];exact N2 (show min i cx.length+(cx.length - (i+1))<=20 by lia) (by decide)
      have t3:=af.new (o:=.lst (cx.take i++cx.drop (i+1))) hM;have hM':(upd H16 M (.lst (cx.take i++cx.drop (i+1)))) M=some (.lst (cx.take i++cx.drop (i+1))):=ab;generalize upd H16 M (.lst (cx.take i++cx.drop (i+1)))=H17 at t3 hM' ⊢;have t17:=(t1.trans t2).trans t3;have dnM:aI K B2 (cx.take i++cx.drop (i+1)) (((lw.take i++lw.drop (i+1)).map aJ).map be):=by
       rw [N8,N8,List.map_take,List.map_drop,<-elw,List.map_take,List.map_drop];exact (p9 i dnS).append (pV (i+1) dnS)
      have hlw:lw.length<=8:=by rw [elw,NU] at hsl;exact hsl
      refine ⟨SM,M,cx,_,lw.map aJ,(lw.take i++lw.drop (i+1)).map aJ,rfl,.of (t17 _ _ A2),by rw [<-elw];exact dnS.same (s24.trans t17),.of hM',dnM.same (s24.trans t17),by rw [<-elw];exact hsk,?_,by rw [NU];lia,by rw [NU,List.length_append,N7,List.length_drop];lia,λo H18 s18 ML=>?_⟩
      ·intro p hp;obtain ⟨v,hv,rfl⟩:=N5.mp hp;have hv2:v∈lw:=(List.mem_append.mp hv).elim List.mem_of_mem_take List.mem_of_mem_drop;exact hsk _ (by rw [elw];exact N5.mpr ⟨v,hv2,rfl⟩)
      have ho:=DO Mt hwi ML;subst ho;have t18:=t17.trans s18;refine ⟨_,rfl,_,rfl,SM,_,_,_,rfl,rfl,.of (t18 _ _ A2),by rw [e0];exact bA hxi,Nat.zero_le _,λE1 hE1=>?_⟩;have t4:=af.new (o:=.lst []) hE1;refine ⟨x,E1,aJ ws,[],rfl,hxd.same ((s24.trans t18).trans t4),λq hq=>(hwk.1 q hq).ok,N2 hwk.2.2 (by decide),.of ab,(λw hw=>by cases hw),(by rw [Ay];rfl),(λw hw=>by rw [nS] at hw;exact hwl w hw),λH19 s19=>⟨rfl,_,rfl,?_⟩⟩;rw [nS];show if (!decide (V.str (Txt.join " " ws)=V.str (Txt.join " " ws)))=true then _ else _;rw [decide_eq_true rfl];exact bg ⟨⟨_,_,_,_,_,rfl⟩,s14.trans ((t18.trans t4).trans s19),bh B9 ((t18.trans t4).trans s19)⟩
     ·obtain ⟨q0,s14,B9⟩:=q;apply G6 q0;clear q0;intro v5 v6 v7 v9 v10;exact ⟨⟨_,_,_,_,_,_,_,_,_,_,_,rfl⟩,s14 _ _ (JK _ _ h2Z),B9⟩
  ·exact k H
end
theorem hX1 {s:Shared} (e:hX s=true):PySem.W.xlAt hV [] s=true:=by unfold hX at e;exact (Bool.and_eq_true_iff.mp e).1
theorem hX2 {s:Shared} (e:hX s=true):PySem.W.recOk (PySem.W.RowW.records (PySem.W.OpenRow.toRowW (PySem.W.OpenLaw.row PySem.Challenge.rw_loggather_k38_whole_lines_as_patterns))) s=true:=by unfold hX at e;exact (Bool.and_eq_true_iff.mp e).2
theorem hS:PySem.Challenge.rw_loggather_k38_whole_lines_as_patterns.wellSaid=true:=by kernel_rfl
abbrev hFo (i:Nat) (x:Str) (m:Value) (c:Nat):FuncData:=PySem.W.fnOf x x (eZ (top i)) (cT (top i)) (ag (top i)) .none .none .none m none (.ref c) .none
theorem hDf {P:Params}{h:Heap}{mg:Str->Option Value}{i f c:Nat}{x:Str}{m:Value} (X:(hK P).In h) (G:h.Ns mainGlobals mg) (ps:List Str) (l:(hK P).lookup f=some (hFn i x m c)) (d:PySem.W.codeIn (hK P) (.ref c) x=true) (k:PySem.W.keepIn (hK P) (.ref f)=true) (a:PySem.W.nsIn (hK P) mainGlobals x=some (some (.ref f)))
  (b:∀ (kV doc pm:Value) (an:Option Addr) (cdv ct:Value) (us:List Value),us.length=ps.length->bindArgs (PySem.W.fnOf x x (eZ (top i)) (cT (top i)) (ag (top i)) .none kV doc pm an cdv ct) ⟨us,[]⟩=pure (ps.zip us)):a8 (hK P) mg x (top i) ps f (hFo i x m c):=
 have F:Fun (hK P) x x (top i) f (hFo i x m c):=EW l d k
 ⟨F,F.binds b,PySem.W.mg_of X G a⟩
abbrev Fo (i:Nat) (x:Str) (m:Value) (c D:Nat):FuncData:=PySem.W.fnOf x x (eZ (top i)) (cT (top i)) (ag (top i)) (.ref D) .none .none m none (.ref c) .none
theorem Mj {P:Params}{h:Heap}{mg:Str->Option Value}{i f c D:Nat}{x:Str}{m:Value} (X:(hK P).In h) (G:h.Ns mainGlobals mg) (ps:List Str) (l:(hK P).lookup f=some (hFd i x m c D)) (d:PySem.W.codeIn (hK P) (.ref c) x=true) (k:PySem.W.keepIn (hK P) (.ref f)=true) (a:PySem.W.nsIn (hK P) mainGlobals x=some (some (.ref f)))
  (b:Binds (hK P) (Fo i x m c D) ps []):CS (hK P) mg x (top i) ps f (Fo i x m c D):=
 ⟨⟨⟨_,_,_,_,_,_,_,_,_,_,rfl,l,d⟩,k⟩,b,PySem.W.mg_of X G a⟩
theorem on1 {C:List Value->Prop} (h:∀ a0,C [a0]):∀ us:List Value,us.length=1->C us
 | [a0],_=>h a0
theorem on2 {C:List Value->Prop} (h:∀ a0 a1,C [a0,a1]):∀ us:List Value,us.length=2->C us
 | [a0,a1],_=>h a0 a1
theorem on3 {C:List Value->Prop} (h:∀ a0 a1 a2,C [a0,a1,a2]):∀ us:List Value,us.length=3->C us
 | [a0,a1,a2],_=>h a0 a1 a2
theorem uw {P:Params}{s:Shared} (X:(hK P).In s.heap) (us:List Value) (hl:us.length=2):BindsTo s (Fo 55 "gathered" (.str "loggather.gathering" 503) 310 306) ⟨us,[]⟩ ((["lines","sieve"]:List Str).zip (us++[])):=by
 rw [List.append_nil];exact on2 (C:=λus=>BindsTo s (Fo 55 "gathered" (.str "loggather.gathering" 503) 310 306) ⟨us,[]⟩ ((["lines","sieve"]:List Str).zip us)) (λa0 a1=>BindsTo.of_defaults rfl (X 306 _ rfl) rfl rfl rfl) us hl
def hA:Ad:=⟨70,hFo 9 "has_only" (.str "loggather.words" 255) 69,77,hFo 10 "is_word" (.str "loggather.words" 255) 76,84,hFo 11 "kind_of" (.str "loggather.words" 255) 83,91,hFo 12 "words_of" (.str "loggather.words" 255) 90,98,hFo 13 "word_key" (.str "loggather.words" 255) 97,103,hFo 14 "line_key" (.str "loggather.words" 255) 102,110,hFo 15 "in_order" (.str "loggather.words" 255) 109,118,hFo 19 "is_part" (.str "loggather.patterns" 312) 117,123,hFo 20 "is_pattern" (.str "loggather.patterns" 312) 122,130,hFo 21 "is_hole" (.str "loggather.patterns" 312) 129,137,hFo 22 "part_takes" (.str "loggather.patterns" 312) 136,144,hFo 23 "all_taken" (.str "loggather.patterns" 312) 143,151,hFo 24 "fits" (.str "loggather.patterns" 312) 150,156,hFo 25 "filled" (.str "loggather.patterns" 312) 155,163,hFo 26 "is_part_within" (.str "loggather.patterns" 312) 162,168,hFo 27 "is_within" (.str "loggather.patterns" 312) 167,175,hFo 28 "kind_of_hole_around" (.str "loggather.patterns" 312) 174,180,hFo 29 "joined_part" (.str "loggather.patterns" 312) 179,185,hFo 30 "joined" (.str "loggather.patterns" 312) 184,192,hFo 31 "met_part" (.str "loggather.patterns" 312) 191,197,hFo 32 "met" (.str "loggather.patterns" 312) 196,204,hFo 33 "part_key" (.str "loggather.patterns" 312) 203,209,hFo 34 "pattern_key" (.str "loggather.patterns" 312) 208,214,hFo 35 "ordered" (.str "loggather.patterns" 312) 213,219,hFo 37 "least_word_but" (.str "loggather.alike" 441) 218,224,hFo 38 "is_needless" (.str "loggather.alike" 441) 223,229,hFo 39 "words_to_try" (.str "loggather.alike" 441) 228,234,hFo 40 "behind" (.str "loggather.alike" 441) 233,239,hFo 41 "first_word_past" (.str "loggather.alike" 441) 238,244,hFo 42 "least_line_past" (.str "loggather.alike" 441) 243,249,hFo 43 "lines_past" (.str "loggather.alike" 441) 248,256,hFo 44 "parting_line" (.str "loggather.alike" 441) 255,263,hFo 45 "without_needless" (.str "loggather.alike" 441) 262,271,hFo 48 "grouped" (.str "loggather.gathering" 503) 270,276,hFo 49 "words_at" (.str "loggather.gathering" 503) 275,283,hFo 50 "many_unlike_at" (.str "loggather.gathering" 503) 282,288,hFo 51 "is_fit_to_part_at" (.str "loggather.gathering" 503) 287,293,hFo 52 "place_to_part_at" (.str "loggather.gathering" 503) 292,300,hFo 53 "parted" (.str "loggather.gathering" 503) 299,305,hFo 54 "pattern_of_group" (.str "loggather.gathering" 503) 304,311,Fo 55 "gathered" (.str "loggather.gathering" 503) 310 306,318,hFo 57 "looseness_of_part" (.str "loggather.falling" 568) 317,323,hFo 58 "looseness" (.str "loggather.falling" 568) 322,328,hFo 59 "falls_under" (.str "loggather.falling" 568) 327,335,hFo 61 "show_part" (.str "loggather.texts" 589) 334,340,hFo 62 "show_pattern" (.str "loggather.texts" 589) 339,347,hFo 63 "read_part" (.str "loggather.texts" 589) 346,352,hFo 64 "read_pattern" (.str "loggather.texts" 589) 351,359,hFo 66 "_law_deck" (.str "law_loggather_k38_whole_lines_as_patterns" 619) 358,366,hFo 67 "_law_pick" (.str "law_loggather_k38_whole_lines_as_patterns" 619) 365,376,hFo 69 "_law_word" (.str "law_loggather_k38_whole_lines_as_patterns" 619) 375,381,hFo 70 "_law_line" (.str "law_loggather_k38_whole_lines_as_patterns" 619) 380,386,hFo 71 "_law_lines" (.str "law_loggather_k38_whole_lines_as_patterns" 619) 385,398,hFo 73 "_law_plain" (.str "law_loggather_k38_whole_lines_as_patterns" 619) 397,403,hFo 74 "_law_pair_right" (.str "law_loggather_k38_whole_lines_as_patterns" 619) 402,408,hFo 75 "law" (.str "law_loggather_k38_whole_lines_as_patterns" 619) 407,111,264,292,290⟩
set_option maxHeartbeats 8000000 in
theorem hT {P:Params}{h:Heap}{mg:Str->Option Value} (X:(hK P).In h) (G:h.Ns mainGlobals mg):Tx (hK P) mg hA:=⟨PySem.W.mg_none_of X G (by kernel_rfl),
 PySem.W.mg_none_of X G (by kernel_rfl),
 PySem.W.mg_none_of X G (by kernel_rfl),
 PySem.W.mg_none_of X G (by kernel_rfl),
 PySem.W.mg_none_of X G (by kernel_rfl),
 PySem.W.mg_none_of X G (by kernel_rfl),
 PySem.W.mg_none_of X G (by kernel_rfl),
 PySem.W.mg_none_of X G (by kernel_rfl),
 PySem.W.mg_none_of X G (by kernel_rfl),
 PySem.W.mg_none_of X G (by kernel_rfl),
 PySem.W.mg_none_of X G (by kernel_rfl),
 PySem.W.mg_none_of X G (by kernel_rfl),
 PySem.W.mg_none_of X G (by kernel_rfl),
 PySem.W.mg_none_of X G (by kernel_rfl),
 (by rw [Hk];exact ⟨257,PySem.W.mg_of X G (by kernel_rfl)⟩),
 (by rw [F1];exact ⟨259,PySem.W.mg_of X G (by kernel_rfl)⟩),
 (by rw [sH];exact ⟨261,PySem.W.mg_of X G (by kernel_rfl)⟩),
 ⟨314,PySem.W.mg_of X G (by kernel_rfl)⟩,
 PySem.W.mg_of X G (by kernel_rfl),
 (λH=>.inr ⟨_,_,_,rfl,rfl,rfl,(by show 3<=sizeLine;decide),.cons ⟨_,rfl⟩ (.cons ⟨_,rfl⟩ (.cons ⟨_,rfl⟩ (.nil)))⟩),
 ⟨_,rfl,rfl,rfl⟩,
 PySem.W.mg_of X G (by kernel_rfl),
 (λH=>.inr ⟨_,_,_,rfl,rfl,rfl,(by show 2<=sizeLine;decide),.cons ⟨_,rfl⟩ (.cons ⟨_,rfl⟩ (.nil))⟩),
 ⟨_,rfl,rfl,rfl⟩,
 hDf X G ["text","signs"] rfl (by kernel_rfl) (by kernel_rfl) (by kernel_rfl) λ_ _ _ _ _ _=>on2 λ_ _=>rfl,
 hDf X G ["thing"] rfl (by kernel_rfl) (by kernel_rfl) (by kernel_rfl) λ_ _ _ _ _ _=>on1 λ_=>rfl,
 hDf X G ["word"] rfl (by kernel_rfl) (by kernel_rfl) (by kernel_rfl) λ_ _ _ _ _ _=>on1 λ_=>rfl,
 hDf X G ["line"] rfl (by kernel_rfl) (by kernel_rfl) (by kernel_rfl) λ_ _ _ _ _ _=>on1 λ_=>rfl,
 hDf X G ["word"] rfl (by kernel_rfl) (by kernel_rfl) (by kernel_rfl) λ_ _ _ _ _ _=>on1 λ_=>rfl,
 hDf X G ["line"] rfl (by kernel_rfl) (by kernel_rfl) (by kernel_rfl) λ_ _ _ _ _ _=>on1 λ_=>rfl,
 hDf X G ["lines"] rfl (by kernel_rfl) (by kernel_rfl) (by kernel_rfl) λ_ _ _ _ _ _=>on1 λ_=>rfl,
 hDf X G ["thing"] rfl (by kernel_rfl) (by kernel_rfl) (by kernel_rfl) λ_ _ _ _ _ _=>on1 λ_=>rfl,
 hDf X G ["thing"] rfl (by kernel_rfl) (by kernel_rfl) (by kernel_rfl) λ_ _ _ _ _ _=>on1 λ_=>rfl,
 hDf X G ["part"] rfl (by kernel_rfl) (by kernel_rfl) (by kernel_rfl) λ_ _ _ _ _ _=>on1 λ_=>rfl,
 hDf X G ["part","word"] rfl (by kernel_rfl) (by kernel_rfl) (by kernel_rfl) λ_ _ _ _ _ _=>on2 λ_ _=>rfl,
 hDf X G ["parts","words"] rfl (by kernel_rfl) (by kernel_rfl) (by kernel_rfl) λ_ _ _ _ _ _=>on2 λ_ _=>rfl,
 hDf X G ["pattern","line"] rfl (by kernel_rfl) (by kernel_rfl) (by kernel_rfl) λ_ _ _ _ _ _=>on2 λ_ _=>rfl,
 hDf X G ["pattern","words"] rfl (by kernel_rfl) (by kernel_rfl) (by kernel_rfl) λ_ _ _ _ _ _=>on2 λ_ _=>rfl,
 hDf X G ["one","other"] rfl (by kernel_rfl) (by kernel_rfl) (by kernel_rfl) λ_ _ _ _ _ _=>on2 λ_ _=>rfl,
 hDf X G ["one","other"] rfl (by kernel_rfl) (by kernel_rfl) (by kernel_rfl) λ_ _ _ _ _ _=>on2 λ_ _=>rfl,
 hDf X G ["part"] rfl (by kernel_rfl) (by kernel_rfl) (by kernel_rfl) λ_ _ _ _ _ _=>on1 λ_=>rfl,
 hDf X G ["parts"] rfl (by kernel_rfl) (by kernel_rfl) (by kernel_rfl) λ_ _ _ _ _ _=>on1 λ_=>rfl,
 hDf X G ["patterns"] rfl (by kernel_rfl) (by kernel_rfl) (by kernel_rfl) λ_ _ _ _ _ _=>on1 λ_=>rfl,
 hDf X G ["one","other"] rfl (by kernel_rfl) (by kernel_rfl) (by kernel_rfl) λ_ _ _ _ _ _=>on2 λ_ _=>rfl,
 hDf X G ["one","other"] rfl (by kernel_rfl) (by kernel_rfl) (by kernel_rfl) λ_ _ _ _ _ _=>on2 λ_ _=>rfl,
 hDf X G ["part"] rfl (by kernel_rfl) (by kernel_rfl) (by kernel_rfl) λ_ _ _ _ _ _=>on1 λ_=>rfl,
 hDf X G ["pattern"] rfl (by kernel_rfl) (by kernel_rfl) (by kernel_rfl) λ_ _ _ _ _ _=>on1 λ_=>rfl,
 hDf X G ["patterns"] rfl (by kernel_rfl) (by kernel_rfl) (by kernel_rfl) λ_ _ _ _ _ _=>on1 λ_=>rfl,
 hDf X G ["kind","words"] rfl (by kernel_rfl) (by kernel_rfl) (by kernel_rfl) λ_ _ _ _ _ _=>on2 λ_ _=>rfl,
 hDf X G ["pattern","others"] rfl (by kernel_rfl) (by kernel_rfl) (by kernel_rfl) λ_ _ _ _ _ _=>on2 λ_ _=>rfl,
 hDf X G ["part","beside"] rfl (by kernel_rfl) (by kernel_rfl) (by kernel_rfl) λ_ _ _ _ _ _=>on2 λ_ _=>rfl,
 hDf X G ["patterns","word"] rfl (by kernel_rfl) (by kernel_rfl) (by kernel_rfl) λ_ _ _ _ _ _=>on2 λ_ _=>rfl,
 hDf X G ["pattern","others"] rfl (by kernel_rfl) (by kernel_rfl) (by kernel_rfl) λ_ _ _ _ _ _=>on2 λ_ _=>rfl,
 hDf X G ["pattern","others"] rfl (by kernel_rfl) (by kernel_rfl) (by kernel_rfl) λ_ _ _ _ _ _=>on2 λ_ _=>rfl,
 hDf X G ["patterns","others"] rfl (by kernel_rfl) (by kernel_rfl) (by kernel_rfl) λ_ _ _ _ _ _=>on2 λ_ _=>rfl,
 hDf X G ["one","other"] rfl (by kernel_rfl) (by kernel_rfl) (by kernel_rfl) λ_ _ _ _ _ _=>on2 λ_ _=>rfl,
 hDf X G ["patterns"] rfl (by kernel_rfl) (by kernel_rfl) (by kernel_rfl) λ_ _ _ _ _ _=>on1 λ_=>rfl,
 hDf X G ["rows","keys"] rfl (by kernel_rfl) (by kernel_rfl) (by kernel_rfl) λ_ _ _ _ _ _=>on2 λ_ _=>rfl,
 hDf X G ["group","place"] rfl (by kernel_rfl) (by kernel_rfl) (by kernel_rfl) λ_ _ _ _ _ _=>on2 λ_ _=>rfl,
 hDf X G ["group","place"] rfl (by kernel_rfl) (by kernel_rfl) (by kernel_rfl) λ_ _ _ _ _ _=>on2 λ_ _=>rfl,
 hDf X G ["group","place","sieve"] rfl (by kernel_rfl) (by kernel_rfl) (by kernel_rfl) λ_ _ _ _ _ _=>on3 λ_ _ _=>rfl,
 hDf X G ["group","sieve"] rfl (by kernel_rfl) (by kernel_rfl) (by kernel_rfl) λ_ _ _ _ _ _=>on2 λ_ _=>rfl,
 hDf X G ["group","sieve"] rfl (by kernel_rfl) (by kernel_rfl) (by kernel_rfl) λ_ _ _ _ _ _=>on2 λ_ _=>rfl,
 hDf X G ["group"] rfl (by kernel_rfl) (by kernel_rfl) (by kernel_rfl) λ_ _ _ _ _ _=>on1 λ_=>rfl,
 Mj X G ["lines","sieve"] rfl (by kernel_rfl) (by kernel_rfl) (by kernel_rfl) λs us X2 hl=>uw X2 us (by rw [List.append_nil] at hl;exact hl),
 hDf X G ["part"] rfl (by kernel_rfl) (by kernel_rfl) (by kernel_rfl) λ_ _ _ _ _ _=>on1 λ_=>rfl,
 hDf X G ["pattern"] rfl (by kernel_rfl) (by kernel_rfl) (by kernel_rfl) λ_ _ _ _ _ _=>on1 λ_=>rfl,
 hDf X G ["line","patterns"] rfl (by kernel_rfl) (by kernel_rfl) (by kernel_rfl) λ_ _ _ _ _ _=>on2 λ_ _=>rfl,
 hDf X G ["part"] rfl (by kernel_rfl) (by kernel_rfl) (by kernel_rfl) λ_ _ _ _ _ _=>on1 λ_=>rfl,
 hDf X G ["pattern"] rfl (by kernel_rfl) (by kernel_rfl) (by kernel_rfl) λ_ _ _ _ _ _=>on1 λ_=>rfl,
 hDf X G ["text"] rfl (by kernel_rfl) (by kernel_rfl) (by kernel_rfl) λ_ _ _ _ _ _=>on1 λ_=>rfl,
 hDf X G ["text"] rfl (by kernel_rfl) (by kernel_rfl) (by kernel_rfl) λ_ _ _ _ _ _=>on1 λ_=>rfl,
 hDf X G ["cell","turn"] rfl (by kernel_rfl) (by kernel_rfl) (by kernel_rfl) λ_ _ _ _ _ _=>on2 λ_ _=>rfl,
 hDf X G ["deck","many"] rfl (by kernel_rfl) (by kernel_rfl) (by kernel_rfl) λ_ _ _ _ _ _=>on2 λ_ _=>rfl,
 hDf X G ["deck"] rfl (by kernel_rfl) (by kernel_rfl) (by kernel_rfl) λ_ _ _ _ _ _=>on1 λ_=>rfl,
 hDf X G ["deck","most"] rfl (by kernel_rfl) (by kernel_rfl) (by kernel_rfl) λ_ _ _ _ _ _=>on2 λ_ _=>rfl,
 hDf X G ["deck","most"] rfl (by kernel_rfl) (by kernel_rfl) (by kernel_rfl) λ_ _ _ _ _ _=>on2 λ_ _=>rfl,
 hDf X G ["line"] rfl (by kernel_rfl) (by kernel_rfl) (by kernel_rfl) λ_ _ _ _ _ _=>on1 λ_=>rfl,
 hDf X G ["one","other"] rfl (by kernel_rfl) (by kernel_rfl) (by kernel_rfl) λ_ _ _ _ _ _=>on2 λ_ _=>rfl,
 ⟨rfl,λh X2=>PySem.W.codeHd_of_K X2 (by kernel_rfl),4,_,PySem.W.mg_of X G (by kernel_rfl),by decide,by decide,rfl,rfl,rfl,rfl⟩⟩
theorem hF (w:World) (mg:Str->Option Value) (fa:Addr) (h:Heap) (X:(hK w.params).In h) (G:h.Ns mainGlobals mg) (e:mg "law" = some (.ref fa)) :
  ∃ fd:FuncData,(∀ (s:Shared) (u:Value),BindsTo s fd ⟨[u],[]⟩ [("script",u)])/\∀ base:Heap,au PySem.Challenge.rw_loggather_k38_whole_lines_as_patterns.prog w (hK w.params) mg base CX0 21 fa fd ["script"] (wU (hK w.params) 290):=by
 have q:=e.symm.trans (PySem.W.mg_of X G (show PySem.W.nsIn (hK w.params) mainGlobals "law" = some (some (.ref 408)) by kernel_rfl));cases q;exact ⟨hFo 75 "law" (.str "law_loggather_k38_whole_lines_as_patterns" 619) 407,λs v=>.of_eq rfl,λbase=>HY (A:=hA) (EW rfl (by kernel_rfl) (by kernel_rfl)) (hT X G)⟩
abbrev hSp:=wU
end K38
open PySem PySem.W PyProof.Rows
set_option maxRecDepth 100000 in
set_option maxHeartbeats 0 in
theorem PySem.Challenge.cw_loggather_k38_whole_lines_as_patterns_holds : PySem.Challenge.rw_loggather_k38_whole_lines_as_patterns.Holds := by
 refine holds_law K38.hS λMf=>@PySem.W.holds_open (OpenLaw.row PySem.Challenge.rw_loggather_k38_whole_lines_as_patterns) K38.hV K38.hLo K38.hX (XL K38.hV []) _ K38.hH.obs K38.hH.val K38.hH.says ?dr ?kw 5290 K38.hL K38.hH.of K38.hH.keeps
  (λs e=>xl_of s (K38.hX1 e)) XL.keeps ?x1 ?x2 ?x3 (λs e=>recFacts_of (K38.hX2 e)) ?x4 Mf ?x5 ?x6 ?hw ?hc
 case x1=>exact rfl
 case x2=>exact rfl
 case x3=>exact rfl
 case x4=>rfl
 case x5=>decide +kernel
 case x6=>exact ⟨rfl,rfl,rfl,rfl,rfl,by decide +kernel⟩
 case hw=>w_witness2
 exact L2.E3 (l:=PySem.Challenge.rw_loggather_k38_whole_lines_as_patterns) (n:=63) (k:=21) (x:= "script") (K:=K38.hK) (c:=292) (T:=290) (sp:=λw=>K38.hSp (K38.hK w.params) 290) rfl (by decide) rfl ⟨rfl,by decide,by decide,rfl⟩ (λw h Y=>⟨PySem.W.km_in_of Y,PySem.W.km_tabs_of Y _ (List.Mem.head _)⟩) (λw h X=>PySem.W.codeHd_of_K X (by kernel_rfl)) (λw=>by kernel_rfl)
  (λw mg fa h X G e=>let ⟨fd,b,k⟩:=K38.hF w mg fa h X G e;⟨fd,b,λbase=>k base⟩) (λ_ _ a ns hl hT hS=>⟨a,ns,rfl,hS,hl,⟨_,hT,trivial,.inl rfl⟩,λ_=>rfl⟩)
