import PyProof.Rows.All
import Wide.All
import OpenK.AllK
import Wide.FinOn
import Lean
import PyProof.EqAt
import PyProof.EqKinds
import PyProof.TupleCall
import PyProof.NeData
import PyProof.StrLawsChain
import KE.KSortTup
import KE.KRevSl
import KE.KMinKey
import PyProof.P3In
import KE.KRevIter
import KE.KDictSum
import PyProof.Rows.SetFrom
import PyProof.DictWalks
import PyProof.FactsAll.set_1
import PyProof.ListStr
import PyProof.Rows.Range3
import KE.KLam
import PyProof.StrCalls6
import PyProof.ToksMono
import PyProof.ReprRoads
import PyProof.StrOps2
import KE.KDictLaws
import KE.KDictList
import PyProof.DictValues
import PyProof.WalkInts
import PyProof.ZipIter
import PyProof.CollectWalk
import PyProof.ListNew
import PyProof.ReprText
import PyProof.TupleKey
import PyProof.IsRules
import PySem.Challenge.RW_loggather_k13_whole_texts_of_patterns
set_option Elab.async false
set_option linter.all false
set_option autoImplicit false
set_option maxRecDepth 100000
namespace L2
open PySem PySem.W
section
variable {p:Program}{q:Program}{loose:List Str}{Xt:Shared->Bool}{α:Type}{Yf:Shared->α}{Ya:World->α}{N:Nat}{H₀:Params->Heap}{d₀:Drawn}{k₀ m₀:Nat}{ann:Option Value}{env:Env}{c:Code}{qp:Pos}
def TailO (p q:Program) (loose:List Str) (Xt:Shared->Bool) {α:Type} (Yf:Shared->α) (Ya:World->α) (H₀:Params->Heap) (m₀:Nat) (ann:Option Value) (env:Env) (c:Code) (qp:Pos) (n:Nat) (l:List Stmt) (pos:Pos) (w:World) (s:Shared):Prop:=
 ∃ r,topRun treeTable p w m₀ ann n s (restOf l env c pos [topFrame qp])=some r/\(staticsOk (importedModules p.main.body) (H₀ w.params) r.heap && namesBound p r.heap && gensDone r && laidKept (H₀ w.params) r.heap)=true/\openSeen q loose (importedModules p.main.body) Xt true r=openGood q loose/\Yf r=Ya w
theorem tail_end {n nF:Nat}{l:List Stmt}{pos:Pos}{w:World}{s:Shared}
  (h:(segRun treeTable p w m₀ ann 1 n s (piecesOf l env c pos [topFrame qp])).bind (λz=>(topRun treeTable p w m₀ ann nF z.2.1 ⟨doneF .next,c,z.2.2.2,[topFrame qp]⟩).map λr=>(z.1,z.2.2.1,(staticsOk (importedModules p.main.body) (H₀ w.params) r.heap && namesBound p r.heap && gensDone r && laidKept (H₀ w.params) r.heap),openSeen q loose (importedModules p.main.body) Xt true r,Yf r))=some (.next,c,true,openGood q loose,Ya w)) :
  TailO p q loose Xt Yf Ya H₀ m₀ ann env c qp (n+nF) l pos w s:=by
 obtain ⟨⟨f,s',c',p'⟩,h1,h2⟩:=Option.bind_eq_some_iff.mp h
 obtain ⟨r,h3,h4⟩:=Option.map_eq_some_iff.mp h2
 simp only [Prod.mk.injEq] at h4
 obtain ⟨e1,e2,e3,e4,e5⟩:=h4
 have e1':f=Flow.next:=e1
 have e2':c' = c:=e2
 subst e1' e2'
 have:=piece_app (rest:=[]) h1 (piece_nil h3)
 rw [List.append_nil] at this
 exact ⟨r,this,e3,e4,e5⟩
theorem tail_cut {n n':Nat}{l l' l2:List Stmt}{pos pos':Pos}{w:World}{s s':Shared} (h:segRun treeTable p w m₀ ann 1 n s (piecesOf l env c pos [topFrame qp])=some (.next,s',c,pos')) (hl:l++l' = l2) (t:TailO p q loose Xt Yf Ya H₀ m₀ ann env c qp n' l' pos' w s'):TailO p q loose Xt Yf Ya H₀ m₀ ann env c qp (n+n') l2 pos w s:=by
 obtain ⟨r,h1,h2⟩:=t
 rw [<-hl]
 exact ⟨r,piece_app h h1,h2⟩
theorem cut_eq (b:List Stmt) (a d:Nat):(b.drop a).take d++b.drop (a+d)=b.drop a:=by
 rw [<-List.drop_drop]
 exact List.take_append_drop _ _
theorem left_cut {nP nB n1 n2:Nat}{b l1 l2:List Stmt}{posP pos:Pos}{HM:Params->Heap}{dM:Drawn}{kM:Nat} (hc:c = .body b env) (hb:l1++l2=b)
  (open_:∀ w:World,(fencedOpening treeTable p w N).map (λs=>(s.heap,s.gens,s.drawn,s.toks))=some (H₀ w.params,Array.mk [],d₀,k₀))
  (size:∀ w:World,((H₀ w.params).isNs mainGlobals,(H₀ w.params).objs.size,(H₀ w.params).nsMap mainGlobals "__annotations__")=(true,m₀,ann))
  (h1:∀ (w:World) (os:OsState),(topGo treeTable p w m₀ ann nP ⟨H₀ w.params,Array.mk [],d₀,k₀,os⟩ (topStub p)).bind (λx=>(segRun treeTable p w m₀ ann 1 nB x.1 (blockOf b env c posP [topFrame qp])).bind λy=>(segRun treeTable p w m₀ ann 1 n1 y.2.1 (piecesOf l1 env c y.2.2.2 [topFrame qp])).map λz=>(x.2,y.1,y.2.2.1,z))=some (⟨denote treeTable c,c,posP,[topFrame qp]⟩,.next,c,(.next,⟨HM w.params,Array.mk [],dM,kM,os⟩,c,pos)))
  (h2:∀ (w:World) (os:OsState),TailO p q loose Xt Yf Ya H₀ m₀ ann env c qp n2 l2 pos w ⟨HM w.params,Array.mk [],dM,kM,os⟩) (le:Nat.ble (nP+(nB+(n1+n2))) N=true):LeftO p q loose Xt Yf Ya N true:=λw=>by
 obtain ⟨⟨h,gs,d,k,os⟩,e,e'⟩:=Option.map_eq_some_iff.mp (open_ w)
 obtain ⟨rfl,rfl,rfl,rfl⟩:h=H₀ w.params/\gs=Array.mk []/\d=d₀/\k=k₀:=by simpa using e'
 obtain ⟨z1,z2,z3⟩:_/\_/\_:=by simpa only [Prod.mk.injEq] using size w
 obtain ⟨⟨sa,ta⟩,a1,a2⟩:=Option.bind_eq_some_iff.mp (h1 w os)
 obtain ⟨⟨fb,sb,cb,pb⟩,b1,b2⟩:=Option.bind_eq_some_iff.mp a2
 obtain ⟨⟨fz,sz,cz,pz⟩,c1,c2⟩:=Option.map_eq_some_iff.mp b2
 simp only [Prod.mk.injEq] at c2
 obtain ⟨t1,t2,t3,t4,t5,t6,t7⟩:=c2
 subst t1 t2 t3 t4 t5 t6 t7
 obtain ⟨r,g1,g2,g3,g4⟩:=h2 w os
 have p1:=piece_app c1 g1
 rw [hb] at p1
 subst hc
 have p2:=piece_block b1 p1
 have p3:=go_top a1 p2
 have p4:=topRun_mono (N - (nP+(nB+(n1+n2)))) _ _ _ _ p3
 rw [show nP+(nB+(n1+n2))+(N - (nP+(nB+(n1+n2))))=N by have:=Nat.le_of_ble_eq_true le;lia] at p4
 have t:topFrom treeTable p w N ⟨H₀ w.params,Array.mk [],d,k,os⟩=some r:=by
  unfold topFrom
  dsimp only
  rw [z1,z2,z3,p4]
  show (match staticsOk (importedModules p.main.body) (H₀ w.params) r.heap && namesBound p r.heap && gensDone r && laidKept (H₀ w.params) r.heap with | true=>some r | false=>none)=some r
  rw [g2]
 unfold openEnds
 rw [e]
 show ((topFrom treeTable p w N ⟨H₀ w.params,Array.mk [],d,k,os⟩).map λs=>(openSeen q loose (importedModules p.main.body) Xt true s,Yf s))=_
 rw [t]
 show some (openSeen q loose (importedModules p.main.body) Xt true r,Yf r)=_
 rw [g3,g4]
end
end L2
namespace L2
open PySem
def defArgs (s:Stmt):Arguments:=match s with
 | .FunctionDef _ a _ _ _ _ _ _ _ _=>a
 | _=>{ posonlyargs:=[],args:=[],vararg:=none,kwonlyargs:=[],kw_defaults:=[],kwarg:=none,defaults:=[] }
def defBody (s:Stmt):List Stmt:=match s with
 | .FunctionDef _ _ b _ _ _ _ _ _ _=>b
 | _=>[]
def defScope (s:Stmt):Scope:=match s with
 | .FunctionDef _ _ _ _ _ _ sc _ _ _=>sc
 | _=>{ kind:=.function,names:=[],isGenerator:=false,isCoroutine:=false }
end L2
namespace K13
open PySem L2
def top (i:Nat):Stmt:=PySem.Challenge.pw_loggather_k13_whole_texts_of_patterns.main.body.getD i (.Pass ⟨0,0,0,0⟩)
def hqC (x:Str) (a:Nat) (L n:Int) (r:Nat) (d:Nat):Obj:=⟨.type "code",none,.fields #[.str x a,.str x (a+1),.str "/claim/cut.py" (a+2),.int L 0,.int n 0,.int 0 0,.int 0 0,.int 3 0,.ref r,.bool true,.int 181 0,.ref (r+1),.none,.ref (r+2),.ref (r+3),.ref (r+4),.int (Int.ofNat d) 0,.int L 0,.str "/claim/cut.py" (d+1)],#[]⟩
def hqD (x:Str) (a:Nat) (L n:Int) (r:Nat):Obj:=⟨.type "code",none,.fields #[.str x a,.str x (a+1),.str "/claim/cut.py" (a+2),.int L 0,.int n 0,.int 0 0,.int 0 0,.int 3 0,.ref r,.bool true,.int 181 0,.ref (r+1),.none,.none,.none,.ref (r+2),.int (Int.ofNat (a+3)) 0,.int L 0,.str "/claim/cut.py" (a+4)],#[]⟩
def hqU (l:List Value):Obj:=⟨.type "tuple",none,.seq l.toArray 0,#[]⟩
def hqN:Obj:=⟨.none,none,.fields #[],#[]⟩
def mIn (i j:Nat):Stmt:=match top i with
 | .ClassDef _ _ _ b _ _ _ _ _ _ _=>b.getD j (.Pass ⟨0,0,0,0⟩)
 | x=>x
def mFd (i j:Nat) (x q:Str) (g:Addr) (m c:Value):FuncData:={ name:=x,qualname:=q,params:=defArgs (mIn i j),body:=.stmts (defBody (mIn i j)),scope:=defScope (mIn i j),globals:=g,closure:=[],defaults:=.none,kwdefaults:=.none,pyModule:=m,code:=c }
def hEn (P:Params) (x:Str) (t:Nat) (v:Value):DictEntry:=⟨PyData.keyHash P x,.str x t,v⟩
def hqR (P:Params) (x:Str) (n k:Nat):=hEn P x n (.ref k)
def hqM (x y:Str) (a:Nat) (L n:Int) (r d:Nat):Obj:=⟨.type "code",none,.fields #[.str x a,.str y (a+1),.str "/claim/cut.py" (a+2),.int L 0,.int n 0,.int 0 0,.int 0 0,.int 3 0,.ref r,.bool true,.int 181 0,.ref (r+1),.none,.ref (r+2),.ref (r+3),.ref (r+4),.int (Int.ofNat d) 0,.int L 0,.str "/claim/cut.py" (d+1)],#[]⟩
def hqB (x:Str) (a:Nat) (L:Int) (r:Nat):Obj:=⟨.type "code",none,.fields #[.str x a,.str x (a+1),.str "/claim/cut.py" (a+2),.int L 0,.int 0 0,.int 0 0,.int 0 0,.int 0 0,.ref r,.bool false,.int 181 0,.ref (r+1),.none,.none,.none,.none,.int (Int.ofNat (a+3)) 0,.int L 0,.str "/claim/cut.py" (a+4)],#[]⟩
def hqv0:Value:=.str "loggather.errors" 187
def hqv1:Value:=.str "law_loggather_k13_whole_texts_of_patterns" 437
def hqv2:Value:=.str "loggather.texts" 407
def hqv3:Value:=.str "loggather.patterns" 379
def hqF (i j:Nat) (x q:Str) (m:Value) (c:Nat):Obj:=⟨.type "function",none,.func (mFd i j x q 3 m (.ref c)),#[]⟩
def hqG (i j:Nat) (x q:Str):Obj:=⟨.none,none,.func (mFd i j x q 0 .none .none),#[]⟩
def hqW (a b:Nat) (m:Value):Obj:=⟨.type "frame",none,.plain,#[some (.ref a),some (.ref 3),some (.ref b),none,some m,none,some (.ref 0)]⟩
def hqI (x:String) (a:Nat):Obj:=⟨.type "builtin_function_or_method",none,.fields #[.builtin x,.ref a],#[]⟩
def hqS (a:Nat):Obj:=⟨.type "super",none,.fields #[.ref a,.ref a,.ref a],#[]⟩
def hqE (x:Str) (b s n a c d:Nat):Obj:=⟨.type "type",none,.cls { name:=x,bases:=[.ref b],mro:=[.ref s,.ref b,.type "ValueError",.type "Exception",.type "BaseException",.type "object"],ns:=n,qualname:=x,hasDict:=true,slotNames:=[],subclasses:=[],abstract:=false,collection:=none,hasDel:=false },#[some (.ref a),none,some (.str x c),some (.str x d),some (.builtin "ValueError.__new__"),some (.bool true)]⟩
def hqg0 (P:Params):List DictEntry:=[hEn P "__doc__" 166 (.none),hEn P "__package__" 167 (.none),hEn P "__loader__" 168 (.builtin "__main__.__loader__#opaque"),hEn P "__spec__" 169 (.none),hqR P "__annotations__" 170 6,hqR P "__builtins__" 171 4,hEn P "__file__" 173 (.str "/claim/cut.py" 172),hEn P "__cached__" 174 (.none),hqR P "GatherError" 206 24,hqR P "NoFit" 222 37,hqR P "NoJoin" 238 49,hqR P "NoLine" 254 61,hqR P "NoMoment" 279 80]
def hqg1 (P:Params):List DictEntry:=hqg0 P++[hqR P "NoPattern" 295 92,hqR P "TooMany" 311 104,hqR P "NothingLeft" 327 116,hqR P "NoText" 343 128,hqR P "NoRow" 359 140]
def hqg2 (P:Params):List DictEntry:=hqg1 P++[hEn P "WORD_SIGNS" 363 (.str "!\"#$&'()*+,-./0123456789:;<=>?@ABCDEFGHIJKLMNOPQRSTUVWXYZ[\\]^_`abcdefghijklmnopqrstuvwxyz{|}~" 362),hqR P "has_only" 371 149,hqR P "is_word" 378 156,hEn P "MOST_PARTS" 382 (.int 12 381),hqR P "HOLE_KINDS" 386 157,hqR P "is_part" 393 164,hqR P "is_pattern" 399 169,hqR P "is_hole" 406 176,hqR P "show_part" 416 183,hqR P "show_pattern" 422 188,hqR P "read_part" 430 195,hqR P "read_pattern" 436 200,hqR P "_law_deck" 446 207,hqR P "_law_pick" 456 214,hqR P "_law_name_of" 462 219,hqR P "_law_kind" 468 224,hqR P "_law_fits_part" 476 231,hqR P "_law_fits" 482 236,hqR P "_law_word" 488 241,hqR P "_law_line" 494 246,hqR P "_law_lines" 500 251,hqR P "_law_pattern" 512 258,hqR P "_law_signs" 518 265,hqR P "_law_sign_bent" 529 272,hqR P "_law_list_bent" 541 279,hqR P "_law_bent" 552 286,hqR P "_law_told" 562 293,hqR P "_law_written" 571 300,hqR P "_law_read" 577 305,hqR P "_law_reads" 588 312,hqR P "law" 603 319]
def hqp0:List Value:=[.int 2 0,.int 0 0,.ref 20,.int 4 0,.int 0 0,.ref 33,.int 6 0,.int 0 0,.ref 45,.int 8 0,.int 0 0,.ref 57,.int 10 0,.int 0 0,.ref 69]
def hqp1:List Value:=hqp0++[.int 15 0,.int 0 0,.ref 88,.int 17 0,.int 0 0,.ref 100,.int 19 0,.int 0 0,.ref 112,.int 21 0,.int 0 0,.ref 124,.int 23 0,.int 0 0,.ref 136]
def hFn (i:Nat) (x:Str) (m:Value) (c:Nat):Obj:=⟨.type "function",none,.func { name:=x,qualname:=x,params:=defArgs (top i),body:=.stmts (defBody (top i)),scope:=defScope (top i),globals:=3,closure:=[],defaults:=.none,kwdefaults:=.none,pyModule:=m,code:=.ref c },#[]⟩
def hV:Program:={ PySem.Challenge.pw_loggather_k13_whole_texts_of_patterns with main:={ PySem.Challenge.pw_loggather_k13_whole_texts_of_patterns.main with body:=[1,2,3,4,5,6,7,8,9,10,12,13,14,16,17,18,19,20,22,23,24,25,27,28,29,30,31,32,33,34,35,36,37,38,39,40,41,42,43,44,45].map top } }
def hK (P:Params):PySem.W.Frag:=[(3,⟨.type "dict",none,.dict (hEn P "__name__" 165 hqv1::hqg2 P).toArray 50,#[]⟩),
 (23,⟨.type "dict",none,.dict #[hEn P "__module__" 196 hqv0,hEn P "__firstlineno__" 200 (.int 2 199),hqR P "__static_attributes__" 201 22,hqR P "__weakref__" 203 25,hEn P "__doc__" 204 (.none)] 3,#[]⟩),
 (24,⟨.type "type",none,.cls { name:= "GatherError",bases:=[.type "ValueError"],mro:=[.ref 24,.type "ValueError",.type "Exception",.type "BaseException",.type "object"],ns:=23,qualname:= "GatherError",hasDict:=true,slotNames:=[],subclasses:=[.ref 37,.ref 49,.ref 61,.ref 80,.ref 92,.ref 104,.ref 116,.ref 128,.ref 140],abstract:=false,collection:=none,hasDel:=false },#[some (.ref 15),none,some (.str "GatherError" 189),some (.str "GatherError" 197),some (.builtin "ValueError.__new__"),some (.bool true)]⟩),
 (36,⟨.type "dict",none,.dict #[hEn P "__module__" 214 hqv0,hEn P "__firstlineno__" 218 (.int 4 217),hqR P "__static_attributes__" 219 35,hEn P "__doc__" 220 (.none)] 2,#[]⟩),
 (37,hqE "NoFit" 24 37 36 28 207 215),
 (48,⟨.type "dict",none,.dict #[hEn P "__module__" 230 hqv0,hEn P "__firstlineno__" 234 (.int 6 233),hqR P "__static_attributes__" 235 47,hEn P "__doc__" 236 (.none)] 2,#[]⟩),
 (49,hqE "NoJoin" 24 49 48 40 223 231),
 (60,⟨.type "dict",none,.dict #[hEn P "__module__" 246 hqv0,hEn P "__firstlineno__" 250 (.int 8 249),hqR P "__static_attributes__" 251 59,hEn P "__doc__" 252 (.none)] 2,#[]⟩),
 (61,hqE "NoLine" 24 61 60 52 239 247),
 (79,⟨.type "dict",none,.dict #[hEn P "__module__" 262 hqv0,hEn P "__firstlineno__" 266 (.int 10 265),hqR P "__init__" 274 77,hqR P "__static_attributes__" 276 78,hEn P "__doc__" 277 (.none)] 2,#[]⟩),
 (80,hqE "NoMoment" 24 80 79 64 255 263),
 (91,⟨.type "dict",none,.dict #[hEn P "__module__" 287 hqv0,hEn P "__firstlineno__" 291 (.int 15 290),hqR P "__static_attributes__" 292 90,hEn P "__doc__" 293 (.none)] 2,#[]⟩),
 (92,hqE "NoPattern" 24 92 91 83 280 288),
 (103,⟨.type "dict",none,.dict #[hEn P "__module__" 303 hqv0,hEn P "__firstlineno__" 307 (.int 17 306),hqR P "__static_attributes__" 308 102,hEn P "__doc__" 309 (.none)] 2,#[]⟩),
 (104,hqE "TooMany" 24 104 103 95 296 304),
 (115,⟨.type "dict",none,.dict #[hEn P "__module__" 319 hqv0,hEn P "__firstlineno__" 323 (.int 19 322),hqR P "__static_attributes__" 324 114,hEn P "__doc__" 325 (.none)] 2,#[]⟩),
 (116,hqE "NothingLeft" 24 116 115 107 312 320),
 (127,⟨.type "dict",none,.dict #[hEn P "__module__" 335 hqv0,hEn P "__firstlineno__" 339 (.int 21 338),hqR P "__static_attributes__" 340 126,hEn P "__doc__" 341 (.none)] 2,#[]⟩),
 (128,hqE "NoText" 24 128 127 119 328 336),
 (139,⟨.type "dict",none,.dict #[hEn P "__module__" 351 hqv0,hEn P "__firstlineno__" 355 (.int 23 354),hqR P "__static_attributes__" 356 138,hEn P "__doc__" 357 (.none)] 2,#[]⟩),
 (140,hqE "NoRow" 24 140 139 131 344 352),
 (148,hqC "has_only" 364 27 2 143 369),
 (149,hFn 13 "has_only" (.str "loggather.words" 360) 148),
 (155,hqC "is_word" 372 29 1 150 376),
 (156,hFn 14 "is_word" (.str "loggather.words" 360) 155),
 (157,hqU [.str "number" 383,.str "name" 384,.str "any" 385]),
 (163,hqC "is_part" 387 34 1 158 391),
 (164,hFn 18 "is_part" hqv3 163),
 (168,hqD "is_pattern" 394 40 1 165),
 (169,hFn 19 "is_pattern" hqv3 168),
 (175,hqC "is_hole" 400 44 1 170 404),
 (176,hFn 20 "is_hole" hqv3 175),
 (182,hqC "show_part" 409 47 1 177 414),
 (183,hFn 22 "show_part" hqv2 182),
 (187,hqD "show_pattern" 417 52 1 184),
 (188,hFn 23 "show_pattern" hqv2 187),
 (194,hqC "read_part" 423 54 1 189 428),
 (195,hFn 24 "read_part" hqv2 194),
 (199,hqD "read_pattern" 431 59 1 196),
 (200,hFn 25 "read_pattern" hqv2 199),
 (206,hqC "_law_deck" 439 65 2 201 444),
 (207,hFn 27 "_law_deck" hqv1 206),
 (213,hqC "_law_pick" 447 69 2 208 454),
 (214,hFn 28 "_law_pick" hqv1 213),
 (218,hqD "_law_name_of" 457 80 1 215),
 (219,hFn 29 "_law_name_of" hqv1 218),
 (223,hqD "_law_kind" 463 86 1 220),
 (224,hFn 30 "_law_kind" hqv1 223),
 (240,hqD "_law_word" 483 100 1 237),
 (241,hFn 33 "_law_word" hqv1 240),
 (245,hqD "_law_line" 489 110 2 242),
 (246,hFn 34 "_law_line" hqv1 245),
 (257,hqC "_law_pattern" 501 123 2 252 510),
 (258,hFn 36 "_law_pattern" hqv1 257),
 (264,hqC "_law_signs" 513 135 0 259 516),
 (265,hFn 37 "_law_signs" hqv1 264),
 (271,hqC "_law_sign_bent" 519 137 2 266 527),
 (272,hFn 38 "_law_sign_bent" hqv1 271),
 (278,hqC "_law_list_bent" 530 144 2 273 539),
 (279,hFn 39 "_law_list_bent" hqv1 278),
 (285,hqC "_law_bent" 542 158 3 280 550),
 (286,hFn 40 "_law_bent" hqv1 285),
 (292,hqC "_law_told" 553 164 1 287 560),
 (293,hFn 41 "_law_told" hqv1 292),
 (299,hqC "_law_written" 563 172 1 294 569),
 (300,hFn 42 "_law_written" hqv1 299),
 (304,hqD "_law_read" 572 180 1 301),
 (305,hFn 43 "_law_read" hqv1 304),
 (311,hqC "_law_reads" 578 193 1 306 586),
 (312,hFn 44 "_law_reads" hqv1 311),
 (318,hqC "law" 589 207 1 313 601),
 (319,hFn 45 "law" hqv1 318)]
def hLo:List Str:=[]
def hH:PySem.W.Hook:=PySem.W.kHook hK [3,23,24,36,37,48,49,60,61,79,80,91,92,103,104,115,116,127,128,139,140,148,149,155,156,157,163,164,168,169,175,176,182,183,187,188,194,195,199,200,206,207,213,214,218,219,223,224,240,241,245,246,257,258,264,265,271,272,278,279,285,286,292,293,299,300,304,305,311,312,318,319] λ_=>by kernel_rfl
def hX (s:Shared):Bool:=PySem.W.xlAt hV [] s && PySem.W.recOk (PySem.W.RowW.records (PySem.W.OpenRow.toRowW (PySem.W.OpenLaw.row PySem.Challenge.rw_loggather_k13_whole_texts_of_patterns))) s
noncomputable def mS0 (P:Params):List Obj:=[PySem.W.boot_o_0 P,PySem.W.boot_o_1 P,PySem.W.boot_o_2 P]
noncomputable def mS4 (P:Params):List Obj:=[PySem.W.boot_o_4 P,PySem.W.boot_o_5 P,PySem.W.boot_o_6 P,PySem.W.boot_o_7 P,PySem.W.boot_o_8 P,PySem.W.boot_o_9 P,PySem.W.boot_o_10 P,hqU []]
noncomputable def mS13 (P:Params):List Obj:=[hqB "<module>" 182 1 11,⟨.type "frame",none,.plain,#[some (.ref 13),some (.ref 3),some (.ref 3),none,some (.str "__main__" 164),none,some (.ref 0)]⟩,hqU [.type "ValueError"],⟨.type "builtin_function_or_method",none,.fields #[.builtin "type.__prepare__",.type "type"],#[]⟩,⟨.type "dict",none,.dict #[hEn P "__module__" 196 hqv0,hEn P "__qualname__" 198 (.str "GatherError" 197),hEn P "__firstlineno__" 200 (.int 2 199),hqR P "__static_attributes__" 201 22] 4,#[]⟩,hqU [],hqN,hqB "GatherError" 191 2 18,hqW 20 17 hqv0,hqU [],⟨.type "dict",none,.dict #[hEn P "__module__" 196 hqv0,hEn P "__firstlineno__" 200 (.int 2 199),hqR P "__static_attributes__" 201 22,hqR P "__weakref__" 203 25,hEn P "__doc__" 204 (.none)] 3,#[]⟩]
noncomputable def mS25 (P:Params):List Obj:=[⟨.type "getset_descriptor",none,.fields #[.str "__weakref__" 202,.ref 24,.builtin "ExceptionGroup.__weakref__",.none],#[]⟩,hqS 24,hqI "object.__init_subclass__" 24,hqU [.ref 24],⟨.type "builtin_function_or_method",none,.fields #[.builtin "type.__prepare__",.type "type"],#[]⟩,⟨.type "dict",none,.dict #[hEn P "__module__" 214 hqv0,hEn P "__qualname__" 216 (.str "NoFit" 215),hEn P "__firstlineno__" 218 (.int 4 217),hqR P "__static_attributes__" 219 35] 4,#[]⟩,hqU [],hqN,hqB "NoFit" 209 4 31,hqW 33 30 hqv0,hqU [],⟨.type "dict",none,.dict #[hEn P "__module__" 214 hqv0,hEn P "__firstlineno__" 218 (.int 4 217),hqR P "__static_attributes__" 219 35,hEn P "__doc__" 220 (.none)] 2,#[]⟩,hqE "NoFit" 24 37 36 28 207 215,hqS 37,hqI "object.__init_subclass__" 37,hqU [.ref 24],⟨.type "builtin_function_or_method",none,.fields #[.builtin "type.__prepare__",.type "type"],#[]⟩,⟨.type "dict",none,.dict #[hEn P "__module__" 230 hqv0,hEn P "__qualname__" 232 (.str "NoJoin" 231),hEn P "__firstlineno__" 234 (.int 6 233),hqR P "__static_attributes__" 235 47] 4,#[]⟩,hqU [],hqN,hqB "NoJoin" 225 6 43,hqW 45 42 hqv0,hqU [],⟨.type "dict",none,.dict #[hEn P "__module__" 230 hqv0,hEn P "__firstlineno__" 234 (.int 6 233),hqR P "__static_attributes__" 235 47,hEn P "__doc__" 236 (.none)] 2,#[]⟩,hqE "NoJoin" 24 49 48 40 223 231,hqS 49,hqI "object.__init_subclass__" 49,hqU [.ref 24],⟨.type "builtin_function_or_method",none,.fields #[.builtin "type.__prepare__",.type "type"],#[]⟩,⟨.type "dict",none,.dict #[hEn P "__module__" 246 hqv0,hEn P "__qualname__" 248 (.str "NoLine" 247),hEn P "__firstlineno__" 250 (.int 8 249),hqR P "__static_attributes__" 251 59] 4,#[]⟩,hqU [],hqN,hqB "NoLine" 241 8 55,hqW 57 54 hqv0,hqU [],⟨.type "dict",none,.dict #[hEn P "__module__" 246 hqv0,hEn P "__firstlineno__" 250 (.int 8 249),hqR P "__static_attributes__" 251 59,hEn P "__doc__" 252 (.none)] 2,#[]⟩,hqE "NoLine" 24 61 60 52 239 247,hqS 61,hqI "object.__init_subclass__" 61,hqU [.ref 24],⟨.type "builtin_function_or_method",none,.fields #[.builtin "type.__prepare__",.type "type"],#[]⟩,⟨.type "dict",none,.dict #[hEn P "__module__" 262 hqv0,hEn P "__qualname__" 264 (.str "NoMoment" 263),hEn P "__firstlineno__" 266 (.int 10 265),hqR P "__init__" 274 77,hqR P "__static_attributes__" 276 78] 5,#[]⟩,hqU [],⟨.none,none,.fields #[.int 12 0,.int 4 0,.ref 76],#[]⟩,hqB "NoMoment" 257 10 67,hqW 69 66 hqv0,hqU [],hqN,hqU [.str "self" 270,.str "last" 271],hqU [],hqG 5 0 "__init__" "NoMoment.__init__",hqM "__init__" "NoMoment.__init__" 267 12 2 71 272,hqF 5 0 "__init__" "NoMoment.__init__" hqv0 76,hqU [.str "last" 275],⟨.type "dict",none,.dict #[hEn P "__module__" 262 hqv0,hEn P "__firstlineno__" 266 (.int 10 265),hqR P "__init__" 274 77,hqR P "__static_attributes__" 276 78,hEn P "__doc__" 277 (.none)] 2,#[]⟩,hqE "NoMoment" 24 80 79 64 255 263,hqS 80,hqI "object.__init_subclass__" 80]
noncomputable def mS83 (P:Params):List Obj:=[hqU [.ref 24],⟨.type "builtin_function_or_method",none,.fields #[.builtin "type.__prepare__",.type "type"],#[]⟩,⟨.type "dict",none,.dict #[hEn P "__module__" 287 hqv0,hEn P "__qualname__" 289 (.str "NoPattern" 288),hEn P "__firstlineno__" 291 (.int 15 290),hqR P "__static_attributes__" 292 90] 4,#[]⟩,hqU [],hqN,hqB "NoPattern" 282 15 86,hqW 88 85 hqv0,hqU [],⟨.type "dict",none,.dict #[hEn P "__module__" 287 hqv0,hEn P "__firstlineno__" 291 (.int 15 290),hqR P "__static_attributes__" 292 90,hEn P "__doc__" 293 (.none)] 2,#[]⟩,hqE "NoPattern" 24 92 91 83 280 288,hqS 92,hqI "object.__init_subclass__" 92,hqU [.ref 24],⟨.type "builtin_function_or_method",none,.fields #[.builtin "type.__prepare__",.type "type"],#[]⟩,⟨.type "dict",none,.dict #[hEn P "__module__" 303 hqv0,hEn P "__qualname__" 305 (.str "TooMany" 304),hEn P "__firstlineno__" 307 (.int 17 306),hqR P "__static_attributes__" 308 102] 4,#[]⟩,hqU [],hqN,hqB "TooMany" 298 17 98,hqW 100 97 hqv0,hqU [],⟨.type "dict",none,.dict #[hEn P "__module__" 303 hqv0,hEn P "__firstlineno__" 307 (.int 17 306),hqR P "__static_attributes__" 308 102,hEn P "__doc__" 309 (.none)] 2,#[]⟩,hqE "TooMany" 24 104 103 95 296 304,hqS 104,hqI "object.__init_subclass__" 104,hqU [.ref 24],⟨.type "builtin_function_or_method",none,.fields #[.builtin "type.__prepare__",.type "type"],#[]⟩,⟨.type "dict",none,.dict #[hEn P "__module__" 319 hqv0,hEn P "__qualname__" 321 (.str "NothingLeft" 320),hEn P "__firstlineno__" 323 (.int 19 322),hqR P "__static_attributes__" 324 114] 4,#[]⟩,hqU [],hqN,hqB "NothingLeft" 314 19 110,hqW 112 109 hqv0,hqU [],⟨.type "dict",none,.dict #[hEn P "__module__" 319 hqv0,hEn P "__firstlineno__" 323 (.int 19 322),hqR P "__static_attributes__" 324 114,hEn P "__doc__" 325 (.none)] 2,#[]⟩,hqE "NothingLeft" 24 116 115 107 312 320,hqS 116,hqI "object.__init_subclass__" 116,hqU [.ref 24],⟨.type "builtin_function_or_method",none,.fields #[.builtin "type.__prepare__",.type "type"],#[]⟩,⟨.type "dict",none,.dict #[hEn P "__module__" 335 hqv0,hEn P "__qualname__" 337 (.str "NoText" 336),hEn P "__firstlineno__" 339 (.int 21 338),hqR P "__static_attributes__" 340 126] 4,#[]⟩,hqU [],hqN,hqB "NoText" 330 21 122,hqW 124 121 hqv0,hqU [],⟨.type "dict",none,.dict #[hEn P "__module__" 335 hqv0,hEn P "__firstlineno__" 339 (.int 21 338),hqR P "__static_attributes__" 340 126,hEn P "__doc__" 341 (.none)] 2,#[]⟩,hqE "NoText" 24 128 127 119 328 336,hqS 128,hqI "object.__init_subclass__" 128,hqU [.ref 24],⟨.type "builtin_function_or_method",none,.fields #[.builtin "type.__prepare__",.type "type"],#[]⟩,⟨.type "dict",none,.dict #[hEn P "__module__" 351 hqv0,hEn P "__qualname__" 353 (.str "NoRow" 352),hEn P "__firstlineno__" 355 (.int 23 354),hqR P "__static_attributes__" 356 138] 4,#[]⟩,hqU [],hqN,hqB "NoRow" 346 23 134,hqW 136 133 hqv0,hqU [],⟨.type "dict",none,.dict #[hEn P "__module__" 351 hqv0,hEn P "__firstlineno__" 355 (.int 23 354),hqR P "__static_attributes__" 356 138,hEn P "__doc__" 357 (.none)] 2,#[]⟩,hqE "NoRow" 24 140 139 131 344 352,hqS 140,hqI "object.__init_subclass__" 140]
noncomputable def mH0 (P:Params):Heap:=⟨(mS0 P++(([⟨.type "dict",none,.dict (hEn P "__name__" 165 hqv0::hqg0 P).toArray 14,#[]⟩]:List Obj)++(mS4 P++(([⟨.none,none,.fields hqp0.toArray,#[]⟩]:List Obj)++(mS13 P++(([⟨.type "type",none,.cls { name:= "GatherError",bases:=[.type "ValueError"],mro:=[.ref 24,.type "ValueError",.type "Exception",.type "BaseException",.type "object"],ns:=23,qualname:= "GatherError",hasDict:=true,slotNames:=[],subclasses:=[.ref 37,.ref 49,.ref 61,.ref 80],abstract:=false,collection:=none,hasDel:=false },#[some (.ref 15),none,some (.str "GatherError" 189),some (.str "GatherError" 197),some (.builtin "ValueError.__new__"),some (.bool true)]⟩]:List Obj)++(mS25 P))))))).toArray,(PySem.W.boot_heap P).life⟩
noncomputable def mH1 (P:Params):Heap:=⟨(mS0 P++(([⟨.type "dict",none,.dict (hEn P "__name__" 165 hqv0::hqg1 P).toArray 19,#[]⟩]:List Obj)++(mS4 P++(([⟨.none,none,.fields hqp1.toArray,#[]⟩]:List Obj)++(mS13 P++(([⟨.type "type",none,.cls { name:= "GatherError",bases:=[.type "ValueError"],mro:=[.ref 24,.type "ValueError",.type "Exception",.type "BaseException",.type "object"],ns:=23,qualname:= "GatherError",hasDict:=true,slotNames:=[],subclasses:=[.ref 37,.ref 49,.ref 61,.ref 80,.ref 92,.ref 104,.ref 116,.ref 128,.ref 140],abstract:=false,collection:=none,hasDel:=false },#[some (.ref 15),none,some (.str "GatherError" 189),some (.str "GatherError" 197),some (.builtin "ValueError.__new__"),some (.bool true)]⟩]:List Obj)++(mS25 P++(mS83 P)))))))).toArray,(PySem.W.boot_heap P).life⟩
def mB:List Stmt:=PySem.W.behindTheImports PySem.Challenge.pw_loggather_k13_whole_texts_of_patterns
def mEnv:Env:={ scope:=PySem.Challenge.pw_loggather_k13_whole_texts_of_patterns.main.scope,locals:=mainNs,globals:=mainNs,cells:=[],code:=.ref 13,frame:=some 14 }
def mC:Code:=.body mB mEnv
theorem mSz (w:World):((PySem.W.boot_heap w.params).isNs mainGlobals,(PySem.W.boot_heap w.params).objs.size,(PySem.W.boot_heap w.params).nsMap mainGlobals "__annotations__")=(true,11,some (.ref 6)):=by kernel_rfl
theorem mR0 (w:World) (os:OsState):(PySem.W.topGo treeTable PySem.Challenge.pw_loggather_k13_whole_texts_of_patterns w 11 (some (.ref 6)) 12 ⟨PySem.W.boot_heap w.params,Array.mk [],PySem.W.boot_drawn,PySem.W.boot_toks,os⟩ (PySem.W.topStub PySem.Challenge.pw_loggather_k13_whole_texts_of_patterns)).bind (λx=>(PySem.W.segRun treeTable PySem.Challenge.pw_loggather_k13_whole_texts_of_patterns w 11 (some (.ref 6)) 1 1 x.1 (PySem.W.blockOf mB mEnv mC ⟨0,0,0,0⟩ [PySem.W.topFrame ⟨0,0,0,0⟩])).bind λy=>(PySem.W.segRun treeTable PySem.Challenge.pw_loggather_k13_whole_texts_of_patterns w 11 (some (.ref 6)) 1 1080 y.2.1 (PySem.W.piecesOf (mB.take 6) mEnv mC y.2.2.2 [PySem.W.topFrame ⟨0,0,0,0⟩])).map λz=>(x.2,y.1,y.2.2.1,z))=some (⟨denote treeTable mC,mC,⟨0,0,0,0⟩,[PySem.W.topFrame ⟨0,0,0,0⟩]⟩,.next,mC,(.next,⟨mH0 w.params,Array.mk [],⟨0,0,0,0⟩,280,os⟩,mC,⟨10,0,14,24⟩)):=by kernel_rfl
theorem mR1 (w:World) (os:OsState):PySem.W.segRun treeTable PySem.Challenge.pw_loggather_k13_whole_texts_of_patterns w 11 (some (.ref 6)) 1 1066 ⟨mH0 w.params,Array.mk [],⟨0,0,0,0⟩,280,os⟩ (PySem.W.piecesOf ((mB.drop 6).take 5) mEnv mC ⟨10,0,14,24⟩ [PySem.W.topFrame ⟨0,0,0,0⟩])=some (.next,⟨mH1 w.params,Array.mk [],⟨0,0,0,0⟩,360,os⟩,mC,⟨23,0,24,8⟩):=by kernel_rfl
theorem mZ (w:World) (os:OsState):(PySem.W.segRun treeTable PySem.Challenge.pw_loggather_k13_whole_texts_of_patterns w 11 (some (.ref 6)) 1 892 ⟨mH1 w.params,Array.mk [],⟨0,0,0,0⟩,360,os⟩ (PySem.W.piecesOf (mB.drop 11) mEnv mC ⟨23,0,24,8⟩ [PySem.W.topFrame ⟨0,0,0,0⟩])).bind (λz=>(PySem.W.topRun treeTable PySem.Challenge.pw_loggather_k13_whole_texts_of_patterns w 11 (some (.ref 6)) 2 z.2.1 ⟨PySem.W.doneF .next,mC,z.2.2.2,[PySem.W.topFrame ⟨0,0,0,0⟩]⟩).map λr=>(z.1,z.2.2.1,(PySem.W.staticsOk (importedModules PySem.Challenge.pw_loggather_k13_whole_texts_of_patterns.main.body) (PySem.W.boot_heap w.params) r.heap && PySem.W.namesBound PySem.Challenge.pw_loggather_k13_whole_texts_of_patterns r.heap && PySem.W.gensDone r && PySem.W.laidKept (PySem.W.boot_heap w.params) r.heap),PySem.W.openSeen hV hLo (importedModules PySem.Challenge.pw_loggather_k13_whole_texts_of_patterns.main.body) hX true r,hH.obs r))=some (.next,mC,true,PySem.W.openGood hV hLo,hH.val w):=by kernel_rfl
theorem mT1 (w:World) (os:OsState):L2.TailO PySem.Challenge.pw_loggather_k13_whole_texts_of_patterns hV hLo hX hH.obs hH.val PySem.W.boot_heap 11 (some (.ref 6)) mEnv mC ⟨0,0,0,0⟩ (1066+(892+2)) (mB.drop 6) ⟨10,0,14,24⟩ w ⟨mH0 w.params,Array.mk [],⟨0,0,0,0⟩,280,os⟩:=L2.tail_cut (mR1 w os) (L2.cut_eq mB 6 5) (L2.tail_end (mZ w os))
theorem hL:PySem.W.LeftO PySem.Challenge.pw_loggather_k13_whole_texts_of_patterns hV hLo hX hH.obs hH.val 6196:=L2.left_cut (c:=mC) (env:=mEnv) (b:=mB) (n2:=1066+(892+2)) rfl (List.take_append_drop 6 mB) (PySem.W.boot_open (by kernel_rfl) (by decide) (λs=>by kernel_rfl)) mSz mR0 (λw os=>mT1 w os) (by decide)
end K13
namespace L2
open PySem PySem.Spec PyProof.Rows
abbrev Key:=Sum Int Str
def keyIs:Key->Value->Bool
 | .inl k,v=>Value.isInt k v
 | .inr x,v=>Value.isStrOf x v
def keyH (w:World):Key->Int
 | .inl k=>hashInt k
 | .inr x=>hashStr w x
theorem keyIs_shape:∀ {k:Key}{v:Value},keyIs k v=true->(∃ i t,k=Sum.inl i/\v=Value.int i t)\/(∃ x t,k=Sum.inr x/\v=Value.str x t)
 | .inl i,v,h=>by
  obtain ⟨t,e⟩:=Value.isInt_shape (k:=i) (v:=v) h
  exact .inl ⟨i,t,rfl,e⟩
 | .inr x,v,h=>by
  obtain ⟨t,e⟩:=Value.isStrOf_shape (x:=x) (v:=v) h
  exact .inr ⟨x,t,rfl,e⟩
theorem key_ll (a b:Int):decide ((Sum.inl a:Key)=Sum.inl b)=(a == b):=by
 by_cases e:a=b
 ·subst e;simp
 ·have h:¬ (Sum.inl a:Key)=Sum.inl b:=λq=>e (Sum.inl.inj q)
  rw [decide_eq_false h]
  exact (beq_eq_false_iff_ne.mpr e).symm
theorem key_rr (a b:Str):decide ((Sum.inr a:Key)=Sum.inr b)=decide (a=b):=by
 by_cases e:a=b
 ·subst e;simp
 ·have h:¬ (Sum.inr a:Key)=Sum.inr b:=λq=>e (Sum.inr.inj q)
  rw [decide_eq_false h,decide_eq_false e]
theorem key_lr (a:Int) (b:Str):decide ((Sum.inl a:Key)=Sum.inr b)=false:=decide_eq_false (λq=>nomatch q)
theorem key_rl (a:Str) (b:Int):decide ((Sum.inr a:Key)=Sum.inl b)=false:=decide_eq_false (λq=>nomatch q)
def mixKind (prog:Program) (w:World):PySem.KeyKind prog w Key where
 is:=keyIs
 hash:=keyH w
 inj:=λv a b ha hb=>by
  rcases keyIs_shape ha with ⟨i,t,rfl,rfl⟩ | ⟨x,t,rfl,rfl⟩
  ·rcases keyIs_shape hb with ⟨j,u,rfl,e⟩ | ⟨y,u,rfl,e⟩
   ·injection e with e1 _;rw [e1]
   ·exact nomatch e
  ·rcases keyIs_shape hb with ⟨j,u,rfl,e⟩ | ⟨y,u,rfl,e⟩
   ·exact nomatch e
   ·injection e with e1 _;rw [e1]
 byValue:=λk v h=>by
  rcases keyIs_shape h with ⟨i,t,rfl,rfl⟩ | ⟨x,t,rfl,rfl⟩ <;> rfl
 pyHash:=λhv h=>by
  rcases keyIs_shape hv with ⟨i,t,rfl,rfl⟩ | ⟨x,t,rfl,rfl⟩
  ·exact wpAny_pyHash_int h
  ·exact wpAny_pyHash_str h
 eqBool:=λhu hv h=>by
  rcases keyIs_shape hu with ⟨i,t,rfl,rfl⟩ | ⟨x,t,rfl,rfl⟩
  ·rcases keyIs_shape hv with ⟨j,u,rfl,rfl⟩ | ⟨y,u,rfl,rfl⟩
   ·rw [key_ll] at h;exact wpAny_eqBool_int h
   ·rw [key_lr] at h;exact SeqAt.EqAt.int_str i t y u _ _ _ _ h
  ·rcases keyIs_shape hv with ⟨j,u,rfl,rfl⟩ | ⟨y,u,rfl,rfl⟩
   ·rw [key_rl] at h;exact SeqAt.EqAt.str_int x t j u _ _ _ _ h
   ·rw [key_rr] at h;exact wpAny_eqBool_str h
 «strs»:=λk x t v h=>by
  rcases keyIs_shape h with ⟨i,u,rfl,e⟩ | ⟨y,u,rfl,e⟩
  ·exact nomatch e
  ·injection e with e1 _
   subst e1
   cases v <;> rfl
end L2
namespace L2
open PySem PySem.Spec PyProof.Rows
inductive V where
 | non | bl (b:Bool) | int (i:Int) | str (x:Str) | byt (b:Array UInt8) | flt (b:UInt64) | ref (a:Addr) | ty (n:String)
 deriving DecidableEq
def RelV:V->Value->Prop
 | .non,u=>u=Value.none
 | .bl b,u=>u=Value.bool b
 | .int i,u=>∃ t,u=Value.int i t
 | .str x,u=>∃ t,u=Value.str x t
 | .byt b,u=>∃ t,u=Value.bytes b t
 | .flt b,u=>∃ t,u=Value.float b t
 | .ref a,u=>u=Value.ref a
 | .ty n,u=>u=Value.type n
abbrev Vals:List V->List Value->Prop:=Paired RelV
theorem Vals.length {xs:List V}{us:List Value} (r:Vals xs us):xs.length=us.length:=Paired.length r
theorem Vals.get:∀ {xs:List V}{us:List Value}{i:Nat}{x:V},Vals xs us->xs[i]? = some x->∃ u,us[i]? = some u/\RelV x u
 | _,_,_,_,.nil,e=>by simp at e
 | _,_,0,_,.cons r _,e=>by simp at e;subst e;exact ⟨_,rfl,r⟩
 | _,_,i+1,x,.cons _ t,e=>by
  obtain ⟨u,h1,h2⟩:=Vals.get (i:=i) (x:=x) t (by simpa using e)
  exact ⟨u,by simpa using h1,h2⟩
theorem Vals.set {x:V}{u:Value} (r:RelV x u):∀ {xs:List V}{us:List Value} (i:Nat),Vals xs us->Vals (xs.set i x) (us.set i u)
 | _,_,_,.nil=>.nil
 | _,_,0,.cons _ t=>.cons r t
 | _,_,i+1,.cons q t=>.cons q (Vals.set r i t)
theorem Vals.append:∀ {xs ys:List V}{us ws:List Value},Vals xs us->Vals ys ws->Vals (xs++ys) (us++ws)
 | _,_,_,_,.nil,s=>s
 | _,_,_,_,.cons r t,s=>.cons r (Vals.append t s)
theorem Vals.take:∀ {xs:List V}{us:List Value} (n:Nat),Vals xs us->Vals (xs.take n) (us.take n)
 | _,_,0,_=>.nil
 | _,_,_+1,.nil=>.nil
 | _,_,n+1,.cons r t=>.cons r (Vals.take n t)
theorem Vals.drop:∀ {xs:List V}{us:List Value} (n:Nat),Vals xs us->Vals (xs.drop n) (us.drop n)
 | _,_,0,r=>r
 | _,_,_+1,.nil=>.nil
 | _,_,n+1,.cons _ t=>Vals.drop n t
def RelO:Option V->Option Value->Prop
 | some v,some u=>RelV v u
 | none,none=>True
 | _,_=>False
def KV {κ:Type}:List (κ×V)->List (κ×Value)->Prop:=Paired λ(p:κ×V) (q:κ×Value)=>p.1=q.1/\RelV p.2 q.2
def kV:Key->V
 | .inl i=>.int i
 | .inr x=>.str x
inductive HO where
 | lst (xs:List V)
 | tup (xs:List V)
 | dK (kvs:List (Key×V)) | dT (kvs:List (List Key×V))
 | set (S:Int->Bool) (n:Nat)
 | ins (C dx:Addr) (fs:List (Str×V))
 | own (x:Addr)
 | xd (fs:List (Str×V))
 | met (f x:Addr)
 | rng (lo hi:Int)
 | frz (o:Obj) (u:HO)
 | tbl (ps:Array Value)
 | ext (φ:Heap->Prop)
abbrev Hp:=Addr->Option HO
def upd (H:Hp) (a:Addr) (o:HO):Hp:=λb=>if b=a then some o else H b
theorem upd_same {H:Hp}{a:Addr}{o:HO}:upd H a o a=some o:=by unfold upd;rw [if_pos rfl]
theorem upd_ne {H:Hp}{a b:Addr}{o:HO} (h:b≠a):upd H a o b=H b:=by unfold upd;rw [if_neg h]
theorem ne_of_none {H:Hp}{a b:Addr}{o:HO} (h:H a=some o) (h':H b=none):a≠b:=by
 intro e;subst e;rw [h] at h';cases h'
section
variable (P:Program) (w:World)
def ObjOk (H:Hp) (h:Heap) (a:Addr):HO->Prop
 | .lst xs=>xs.length<=sizeLine/\∃ (its:List Value) (n:Nat),Vals xs its/\h.get? a=some { cls:=.type "list",data:=.seq its.toArray n }
 | .tup xs=>xs.length<=sizeLine/\∃ its:List Value,Vals xs its/\IsTup h a its.toArray
 | .dK kvs=>kvs.length<=sizeLine/\(a == sysModules)=false/\∃ vs,KV kvs vs/\h.DictOf (mixKind P w) a vs
 | .dT kvs=>kvs.length<=sizeLine/\(a == sysModules)=false/\∃ xs:List (List Key×Addr×Value),
   Paired (λ(p:List Key×V) (q:List Key×Addr×Value)=>p.1=q.1/\H q.2.1=some (.tup (p.1.map kV))/\RelV p.2 q.2.2) kvs xs /\
   ∃ o es ep,h.get? a=some o/\o.ExactDict/\o.data = .dict es ep/\es.toList=xs.map (entryOfKey (tupleKind (mixKind P w)))/\(xs.map (·.1)).Nodup
 | .set S n=>h.SetOf (intKind P w) a S n
 | .ins C dx fs=>H dx=some (.own a)/\fs.length<=1000/\dx≠a/\h.get? a=some (PySem.W.instObj C dx) /\
   ∃ mA,h.Ns1 dx mA/\(∀ f,RelO (fs.lookup f) (mA f))/\PySem.Within mA (fs.map (·.1))
 | .own _=>∃ o,h.get? a=some o
 | .xd fs=>∃ mA,h.Ns1 a mA/\∀ f,RelO (fs.lookup f) (mA f)
 | .rng lo hi=>∃ t u v,h.get? a=some { cls:=.type "range",data:=.fields #[.int lo t,.int hi u,.int 1 v] }
 | .frz o u=>h.get? a=some o/\ObjOk H h a u
 | .tbl ps=>h.get? a=some { cls:=.none,data:=.fields ps }
 | .met f x=>h.get? a=some (PySem.W.methodObj (.ref f) (.ref x))
 | .ext φ=>φ h/\(∃ o,h.get? a=some o)/\∀ h1 h2:Heap,φ h1->(∀ o,h1.get? a=some o->h2.get? a=some o)->φ h2
def HOk (H:Hp) (h:Heap):Prop:=∀ a o,H a=some o->ObjOk P w H h a o
end
section
variable {P:Program}{w:World}{H H':Hp}{h h':Heap}{a:Addr}{o:HO}
theorem ObjOk.lt (x:ObjOk P w H h a o):a<h.objs.size:=by
 cases o with
 | lst xs=>obtain ⟨_,_,_,_,e⟩:=x;exact Heap.lt_size e
 | tup xs=>obtain ⟨_,_,_,p⟩:=x;exact p.lt
 | dK kvs=>obtain ⟨_,_,_,_,o,_,_,e,_⟩:=x;exact Heap.lt_size e
 | dT kvs=>obtain ⟨_,_,_,_,o,_,_,e,_⟩:=x;exact Heap.lt_size e
 | set S n=>obtain ⟨o,_,_,_,e,_⟩:=x;exact Heap.lt_size e
 | ins C dx fs=>obtain ⟨_,_,_,e,_⟩:=x;exact Heap.lt_size e
 | own y=>obtain ⟨_,e⟩:=x;exact Heap.lt_size e
 | xd fs=>obtain ⟨_,⟨_,_,_,e,_⟩,_⟩:=x;exact Heap.lt_size e
 | rng lo hi=>obtain ⟨_,_,_,e⟩:=x;exact Heap.lt_size e
 | frz ob u=>obtain ⟨e,_⟩:=x;exact Heap.lt_size e
 | tbl ps=>exact Heap.lt_size (show h.get? a=some _ from x)
 | met f y=>exact Heap.lt_size (show h.get? a=some _ from x)
 | ext φ=>obtain ⟨_,⟨_,e⟩,_⟩:=x;exact Heap.lt_size e
theorem Paired.mapP {α β:Type}{F G:α->β->Prop}:∀ {l₁:List α}{l₂:List β},Paired F l₁ l₂->(∀ a b,F a b->G a b)->Paired G l₁ l₂
 | _,_,.nil,_=>.nil
 | _,_,.cons r t,f=>.cons (f _ _ r) (Paired.mapP t f)
theorem ObjOk.stay (x:ObjOk P w H h a o) (k:∀ b u,(b=a\/H b=some (.own a))->h.get? b=some u->h'.get? b=some u)
  (ho:∀ b,H b=some (.own a)->H' b=some (.own a)) (ht:∀ b xs,H b=some (.tup xs)->H' b=some (.tup xs)):ObjOk P w H' h' a o:=by
 induction o with
 | lst xs=>obtain ⟨z,its,n,r,e⟩:=x;exact ⟨z,its,n,r,k _ _ (.inl rfl) e⟩
 | tup xs=>obtain ⟨z,its,r,ob,e,c⟩:=x;exact ⟨z,its,r,ob,k _ _ (.inl rfl) e,c⟩
 | dK kvs=>obtain ⟨z,y,vs,r,ob,es,ep,e,c⟩:=x;exact ⟨z,y,vs,r,ob,es,ep,k _ _ (.inl rfl) e,c⟩
 | dT kvs=>
  obtain ⟨z,y,xs,r,ob,es,ep,e,c⟩:=x
  exact ⟨z,y,xs,Paired.mapP r λp q z=>⟨z.1,ht _ _ z.2.1,z.2.2⟩,ob,es,ep,k _ _ (.inl rfl) e,c⟩
 | set S n=>obtain ⟨ob,es,ep,t,e,c⟩:=x;exact ⟨ob,es,ep,t,k _ _ (.inl rfl) e,c⟩
 | ins C dx fs=>
  obtain ⟨d,z,ne,e,mA,⟨od,es,ep,e2,c⟩,r⟩:=x
  exact ⟨ho _ d,z,ne,k _ _ (.inl rfl) e,mA,⟨od,es,ep,k _ _ (.inr d) e2,c⟩,r⟩
 | own y=>obtain ⟨ob,e⟩:=x;exact ⟨ob,k _ _ (.inl rfl) e⟩
 | xd fs=>obtain ⟨mA,⟨od,es,ep,e,c⟩,r⟩:=x;exact ⟨mA,⟨od,es,ep,k _ _ (.inl rfl) e,c⟩,r⟩
 | rng lo hi=>obtain ⟨t,u,v,e⟩:=x;exact ⟨t,u,v,k _ _ (.inl rfl) e⟩
 | frz ob u ih=>obtain ⟨e,q⟩:=x;exact ⟨k _ _ (.inl rfl) e,ih q⟩
 | tbl ps=>
  have e:h.get? a=some { cls:=.none,data:=.fields ps }:=x
  show h'.get? a=some { cls:=.none,data:=.fields ps }
  exact k a _ (.inl rfl) e
 | met f y=>
  have e:h.get? a=some (PySem.W.methodObj (.ref f) (.ref y)):=x
  show h'.get? a=some (PySem.W.methodObj (.ref f) (.ref y))
  exact k a _ (.inl rfl) e
 | ext φ=>obtain ⟨p,⟨o,e⟩,st⟩:=x;exact ⟨st _ _ p λo q=>k _ _ (.inl rfl) q,⟨o,k _ _ (.inl rfl) e⟩,st⟩
theorem HOk.lt (x:HOk P w H h) (e:H a=some o):a<h.objs.size:=(x a o e).lt
theorem HOk.fresh (x:HOk P w H h) (e:h.objs.size<=a):H a=none:=by
 cases q:H a with
 | none=>rfl
 | some u=>exact absurd (Nat.lt_of_lt_of_le (x.lt q) e) (Nat.lt_irrefl _)
theorem HOk.kept (x:HOk P w H h) (k:∀ b u,h.get? b=some u->h'.get? b=some u):HOk P w H h':=λa o e=>
 (x a o e).stay (λb u _ q=>k b u q) (λ_ q=>q) λ_ _ q=>q
theorem HOk.laid (x:HOk P w H h) (k:∀ b u,h.get? b=some u->h'.get? b=some u) (hp:h.objs.size<=a) (new:ObjOk P w (upd H a o) h' a o):HOk P w (upd H a o) h':=λb u e=>by
 have hn:=x.fresh hp
 by_cases hb:b=a
 ·subst hb;rw [upd_same] at e;cases e;exact new
 ·rw [upd_ne hb] at e
  exact (x b u e).stay (λc v _ q=>k c v q) (λc q=>by rw [upd_ne (ne_of_none q hn)];exact q) λc xs q=>by rw [upd_ne (ne_of_none q hn)];exact q
end
def Rd (H:Hp) (a:Addr) (u:HO):Prop:=H a=some u\/∃ o,H a=some (.frz o u)
theorem Rd.ok {P:Program}{w:World}{H:Hp}{h:Heap}{a:Addr}{u:HO} (r:Rd H a u) (x:HOk P w H h):ObjOk P w H h a u:=by
 rcases r with r | ⟨o,r⟩
 ·exact x a u r
 ·obtain ⟨_,q⟩:=x a _ r
  exact q
def Mut:Option HO->Prop
 | some (.lst _)=>True
 | some (.dK _)=>True
 | some (.dT _)=>True
 | some (.set _ _)=>True
 | some (.ins _ _ _)=>True
 | some (.ext _)=>True
 | _=>False
section
variable {P:Program}{w:World}{H:Hp}{h h':Heap}{x e:Addr}{o':HO}
theorem HOk.write (ok:HOk P w H h) (mu:Mut (H x)) (he:e=x\/H e=some (.own x)) (k:∀ b u,b≠e->h.get? b=some u->h'.get? b=some u) (heo:∃ u,h'.get? e=some u)
  (new:ObjOk P w (upd H x o') h' x o'):HOk P w (upd H x o') h':=λb u q=>by
 have nown:∀ c y,H c=some (.own y)->c≠x:=λc y r z=>by subst z;rw [r] at mu;exact mu
 have ntup:∀ c xs,H c=some (.tup xs)->c≠x:=λc xs r z=>by subst z;rw [r] at mu;exact mu
 by_cases hb:b=x
 ·subst hb;rw [upd_same] at q;cases q;exact new
 ·rw [upd_ne hb] at q
  by_cases hbe:b=e
  ·have q':H b=some (.own x):=by
    rcases he with z | z
    ·exact absurd (hbe.trans z) hb
    ·rw [hbe];exact z
   rw [q] at q';cases q'
   obtain ⟨v,hv⟩:=heo
   exact ⟨v,by rw [hbe];exact hv⟩
  ·refine (ok b u q).stay (λc v hc r=>k c v ?_ r) (λc r=>by rw [upd_ne (nown c b r)];exact r) λc xs r=>by rw [upd_ne (ntup c xs r)];exact r
   rcases hc with rfl | hc
   ·exact hbe
   ·rintro rfl
    rcases he with z | z
    ·exact nown c b hc z
    ·rw [hc] at z;cases z;exact hb rfl
end
structure Un (fs ex:List Addr) (H H':Hp) (h h':Heap):Prop where
 keep:∀ b o,h.get? b=some o->H b=none->b∉fs->b∉ex->h'.get? b=some o
 slot:∀ b o,h.get? b=some o->H b=none->b∈fs->b∉ex->∃ sl,h'.get? b=some { o with slots:=sl }
 free:∀ b o,h.get? b=some o->H b=none->b∉ex->H' b=none
 there:∀ b o,h.get? b=some o->b∉ex->∃ o',h'.get? b=some o'
 tups:∀ b xs,H b=some (.tup xs)->H' b=some (.tup xs)
 frzs:∀ b o u,H b=some (.frz o u)->H' b=some (.frz o u)
 tbls:∀ b ps,H b=some (.tbl ps)->∃ more,H' b=some (.tbl (ps++more))
section
variable {fs fs' ex ex':List Addr}{H H1 H2:Hp}{h h1 h2 h':Heap}{a x e:Addr}{o:HO}
theorem Un.any (u:Un fs ex H H1 h h1) {b:Addr}{ob:Obj} (q:h.get? b=some ob) (n:H b=none) (hx:b∉ex):∃ sl,h1.get? b=some { ob with slots:=sl }:=by
 by_cases hb:b∈fs
 ·exact u.slot b ob q n hb hx
 ·exact ⟨ob.slots,u.keep b ob q n hb hx⟩
theorem Un.trans (a:Un fs ex H H1 h h1) (b:Un fs ex H1 H2 h1 h2):Un fs ex H H2 h h2 where
 keep:=λc ob q n hc hx=>b.keep c ob (a.keep c ob q n hc hx) (a.free c ob q n hx) hc hx
 slot:=λc ob q n hc hx=>by
  obtain ⟨sl,e1⟩:=a.slot c ob q n hc hx
  obtain ⟨sl',e2⟩:=b.slot c _ e1 (a.free c ob q n hx) hc hx
  exact ⟨sl',e2⟩
 free:=λc ob q n hx=>by
  obtain ⟨o',e1⟩:=a.there c ob q hx
  exact b.free c o' e1 (a.free c ob q n hx) hx
 there:=λc ob q hx=>by
  obtain ⟨o',e1⟩:=a.there c ob q hx
  exact b.there c o' e1 hx
 tups:=λc xs q=>b.tups c xs (a.tups c xs q)
 frzs:=λc ob xs q=>b.frzs c ob xs (a.frzs c ob xs q)
 tbls:=λc ps q=>by
  obtain ⟨m1,e1⟩:=a.tbls c ps q
  obtain ⟨m2,e2⟩:=b.tbls c _ e1
  exact ⟨m1++m2,by rw [e2,Array.append_assoc]⟩
theorem Un.kept (k:∀ b u,h.get? b=some u->h'.get? b=some u):Un fs ex H H h h':=
 ⟨λb ob q _ _ _=>k b ob q,λb ob q _ _ _=>⟨ob.slots,k b ob q⟩,λ_ _ _ n _=>n,λb ob q _=>⟨ob,k b ob q⟩,λ_ _ q=>q,λ_ _ _ q=>q,λ_ ps q=>⟨#[],by rw [q];simp⟩⟩
theorem Un.refl:Un fs ex H H h h:=Un.kept λ_ _ q=>q
theorem Un.laid (k:∀ b u,h.get? b=some u->h'.get? b=some u) (hp:h.objs.size<=a) (hn:H a=none):Un fs ex H (upd H a o) h h' where
 keep:=λb u q _ _ _=>k b u q
 slot:=λb u q _ _ _=>⟨u.slots,k b u q⟩
 free:=λb u q n _=>by rw [upd_ne (Nat.ne_of_lt (Nat.lt_of_lt_of_le (Heap.lt_size q) hp))];exact n
 there:=λb u q _=>⟨u,k b u q⟩
 tups:=λb xs q=>by rw [upd_ne (ne_of_none q hn)];exact q
 frzs:=λb u xs q=>by rw [upd_ne (ne_of_none q hn)];exact q
 tbls:=λb ps q=>⟨#[],by rw [upd_ne (ne_of_none q hn),q];simp⟩
theorem Un.write (mu:Mut (H x)) (he:e=x\/H e=some (.own x)) (k:∀ b u,b≠e->h.get? b=some u->h'.get? b=some u) (heo:∃ u,h'.get? e=some u):Un fs ex H (upd H x o) h h':=by
 have hx:∀ b,H b=none->b≠x:=λb n z=>by subst z;rw [n] at mu;exact mu
 have hb:∀ b,H b=none->b≠e:=λb n z=>by
  subst z
  rcases he with r | r
  ·exact hx b n r
  ·rw [n] at r;cases r
 have hm:∀ b u,H b=some u -> ¬ Mut (some u)->b≠x:=λb u q nm z=>by subst z;rw [q] at mu;exact nm mu
 refine ⟨λb u q n _ _=>k b u (hb b n) q,λb u q n _ _=>⟨u.slots,k b u (hb b n) q⟩,λb u q n _=>by rw [upd_ne (hx b n)];exact n,λb u q _=>?_,
  λb xs q=>by rw [upd_ne (hm b _ q λz=>z)];exact q,λb u xs q=>by rw [upd_ne (hm b _ q λz=>z)];exact q,λb ps q=>⟨#[],by rw [upd_ne (hm b _ q λz=>z),q];simp⟩⟩
 by_cases hbe:b=e
 ·subst hbe;exact heo
 ·exact ⟨u,k b u hbe q⟩
end
def trk (h:Heap) (H:Hp):List Addr:=(List.range h.objs.size).filter λa=>(H a).isSome
def hidT (h:Heap) (H:Hp):Heap:=PySem.W.hideAll h (trk h H)
theorem hidT_size (h:Heap) (H:Hp):(hidT h H).objs.size=h.objs.size:=PySem.W.hideAll_size _ _
theorem hidT_get {h:Heap}{H:Hp}{b:Addr}{o:Obj} (e:h.get? b=some o) (n:H b=none):(hidT h H).get? b=some o:=
 PySem.W.hideAll_get _ e λhm=>by
  have q:(H b).isSome=true:=(List.mem_filter.mp hm).2
  rw [n] at q;simp at q
theorem of_hidT {h:Heap}{H:Hp}{b:Addr}{o:Obj} (e:(hidT h H).get? b=some o):h.get? b=some o/\H b=none:=by
 have e':h.get? b=some o:=PySem.W.of_hideAll (trk h H) e
 refine ⟨e',?_⟩
 cases q:H b with
 | none=>rfl
 | some x=>
  have hm:b∈trk h H:=List.mem_filter.mpr ⟨List.mem_range.mpr (Heap.lt_size e'),by simp [q]⟩
  have z:(hidT h H).get? b=none:=PySem.W.hideAll_none (trk h H) hm
  rw [z] at e;cases e
def allNews (g h:Heap) (L:Addr):List (Addr×Obj):=(List.range h.objs.size).filterMap λa=>if a=L\/(g.get? a).isSome=true then none else (h.get? a).map λo=>(a,o)
def rest (g h:Heap) (L d:Addr):List (Addr×Obj):=(allNews g h L).filter λp=>decide (p.1≠d)
end L2
namespace L2
open PySem PySem.Spec PyProof.Rows
structure Mod (K:PySem.W.Frag) (mg:Str->Option Value) (base:Heap):Prop where
 kin:K.In base
 glob:base.Ns mainGlobals mg
 blt:∃ mb,base.Ns builtinsNs mb/\∀ x:Str,x ≠ "__name__" -> mb x=bootBuiltins x
 nolimit:base.NoLimit
structure Cx where
 prog:Program
 w:World
 K:PySem.W.Frag
 mg:Str->Option Value
 base:Heap
 A:Around
 N:List Str
 s₀:Shared
 H₀:Hp
 env:Env
 outer:List Env
 stack:List Env
 ex:List Addr
 fn:Str->Bool
 calm:Bool
 pn:List (Addr×Obj)
 xe:Value->Shared->Prop
def frs (l:List Env):List Addr:=l.filterMap (·.frame)
abbrev Cx.fs (X:Cx):List Addr:=frs X.outer
def Vis (sc:Scope) (x:Str):Prop:=sc.names.lookup x=some .local\/sc.names.lookup x=some .cell\/sc.names.lookup x=some .free
def Loc (sc:Scope) (x:Str):Prop:=sc.names.lookup x=some .local\/sc.names.lookup x=some .cell
def Look (env:Env) (h:Heap) (m:Str->Option Value) (x:Str) (u:Value):Prop:=
 (env.kindOf x=some .local/\m x=some u)\/((env.kindOf x=some .cell\/env.kindOf x=some .free)/\∃ c,env.cells.lookup x=some c/\h.IsCell c (some u))
structure Cx.Ok (X:Cx):Prop where
 mod:Mod X.K X.mg X.base
 kind:X.env.scope.kind = .function
 glob:X.env.globals=mainGlobals
 blt:X.env.builtins=builtinsNs
 above:X.s₀.heap.objs.size<=X.env.locals
 inj:∀ x y c,X.env.cells.lookup x=some c->X.env.cells.lookup y=some c->x=y
 has:∀ x,(X.env.kindOf x=some .cell\/X.env.kindOf x=some .free)->∃ c,X.env.cells.lookup x=some c
 cab:∀ x c,X.fn x=true->X.env.cells.lookup x=some c->X.s₀.heap.objs.size<=c
 hd:X.calm=true->X.A.handled=none
 frames:X.A.frames=some X.stack
 stk:X.stack=X.outer\/(X.stack=X.env::X.outer/\X.env.frame=some X.env.locals)
 exf:∀ b∈X.ex,b≠X.env.locals/\∀ x c,X.env.cells.lookup x=some c->c≠b
 bs:∀ b o,X.base.get? b=some o->X.s₀.heap.get? b=some o/\X.H₀ b=none
 bsz:X.base.objs.size<=X.s₀.heap.objs.size
 noex:∀ b o,X.base.get? b=some o->b∉X.ex
 exfs:∀ b∈X.ex,b∉X.fs
 funs:X.s₀.heap.FunFrames X.base X.outer
 frf:∀ b∈X.fs,X.H₀ b=none
structure Inv (X:Cx) (pins:List (Addr×Obj)) (σ:List (Option V)) (H:Hp) (s:Shared):Prop where
 ok:X.Ok
 os:s.os=X.s₀.os
 bare:AllBare s.gens
 base:Un X.fs X.ex X.H₀ H X.s₀.heap s.heap
 loc:∃ m,s.heap.Ns X.env.locals m/\∀ (i:Nat) (x:Str) (v:V),X.N[i]? = some x->σ[i]? = some (some v)->Vis X.env.scope x->∃ u,RelV v u/\Look X.env s.heap m x u
 cell:∀ x c,X.env.cells.lookup x=some c->∃ v,s.heap.IsCell c v
 free:H X.env.locals=none
 freeC:∀ x c,X.env.cells.lookup x=some c->H c=none
 pin:∀ p∈X.pn++pins,s.heap.get? p.1=some p.2/\H p.1=none/\p.1≠X.env.locals/\p.1∉X.fs/\∀ v,p.2.data ≠ .cell v
 hok:HOk X.prog X.w H s.heap
 len:σ.length=X.N.length
section
variable {X:Cx}{pins:List (Addr×Obj)}{σ:List (Option V)}{H H':Hp}{s:Shared}{h':Heap}
theorem Cx.Ok.nofr (ok:X.Ok) {b:Addr}{o:Obj} (e:X.base.get? b=some o):b∉X.fs:=λhb=>by
 have:=(ok.funs.mem hb).1
 rw [e] at this;cases this
theorem Inv.bs (I:Inv X pins σ H s):∀ b o,X.base.get? b=some o->s.heap.get? b=some o/\H b=none:=λb o e=>
 ⟨I.base.keep b o (I.ok.bs b o e).1 (I.ok.bs b o e).2 (I.ok.nofr e) (I.ok.noex b o e),I.base.free b o (I.ok.bs b o e).1 (I.ok.bs b o e).2 (I.ok.noex b o e)⟩
theorem Inv.bk (I:Inv X pins σ H s):∀ b o,X.base.get? b=some o->s.heap.get? b=some o:=λb o e=>(I.bs b o e).1
theorem Inv.mod (I:Inv X pins σ H s):Mod X.K X.mg X.base:=I.ok.mod
theorem Inv.kIn (I:Inv X pins σ H s):X.K.In s.heap:=I.ok.mod.kin.keeps I.bk
theorem Inv.lt (I:Inv X pins σ H s):X.env.locals<s.heap.objs.size:=let ⟨_,hn,_⟩:=I.loc;hn.lt
theorem Inv.sz (I:Inv X pins σ H s):X.s₀.heap.objs.size<=s.heap.objs.size:=Nat.le_trans I.ok.above (Nat.le_of_lt I.lt)
theorem Inv.nofs (I:Inv X pins σ H s) {a:Addr} (h:s.heap.objs.size<=a):a∉X.fs:=λhb=>by
 obtain ⟨_,o,ho,_⟩:=I.ok.funs.mem hb
 exact absurd (Nat.lt_of_lt_of_le (Heap.lt_size ho) (Nat.le_trans I.sz h)) (Nat.lt_irrefl _)
theorem Inv.cne (I:Inv X pins σ H s):∀ x c,X.env.cells.lookup x=some c->c≠X.env.locals:=λx c e z=>by
 obtain ⟨v,o,ho,hd⟩:=I.cell x c e
 obtain ⟨m,⟨o',es,ep,ho',hd',_⟩,_⟩:=I.loc
 rw [z,ho'] at ho;cases ho;rw [hd'] at hd;cases hd
theorem Inv.funs (I:Inv X pins σ H s):s.heap.FunFrames X.base X.outer:=by
 have all:∀ (l:List Env),(∀ b∈frs l,b∈X.fs)->X.s₀.heap.FunFrames X.base l->s.heap.FunFrames X.base l:=by
  intro l
  induction l with
  | nil=>intro _ _;trivial
  | cons env r ih=>
   intro hs hl
   obtain ⟨hk,⟨L,o,hf,hn,ho,hd⟩,hr⟩:=hl
   have hL:L∈X.fs:=hs L (by unfold frs;rw [List.filterMap_cons,hf];exact List.mem_cons_self)
   obtain ⟨sl,e⟩:=I.base.slot L o ho (I.ok.frf L hL) hL λz=>I.ok.exfs L z hL
   exact ⟨hk,⟨L,_,hf,hn,e,hd⟩,ih (λb hb=>hs b (by unfold frs;rw [List.filterMap_cons,hf];exact List.mem_cons_of_mem _ hb)) hr⟩
 exact all X.outer (λ_ hb=>hb) I.ok.funs
theorem Inv.stack (I:Inv X pins σ H s):s.heap.FunFrames X.base X.stack:=by
 rcases I.ok.stk with e | ⟨e,hf⟩
 ·rw [e];exact I.funs
 ·rw [e]
  obtain ⟨m,hn,_⟩:=I.loc
  refine .cons (by rw [I.ok.kind];decide) hf hn ?_ I.funs
  exact Heap.get?_none_of_le (Nat.le_trans I.ok.bsz I.ok.above)
theorem Inv.stkSub (I:Inv X pins σ H s):∀ b∈frs X.stack,b∈X.env.locals::X.fs:=λb hb=>by
 rcases I.ok.stk with e | ⟨e,hf⟩
 ·rw [e] at hb;exact List.mem_cons_of_mem _ hb
 ·rw [e] at hb
  unfold frs at hb
  rw [List.filterMap_cons,hf] at hb
  exact hb
theorem Inv.stkFree (I:Inv X pins σ H s):∀ b∈frs X.stack,H b=none:=λb hb=>by
 rcases List.mem_cons.mp (I.stkSub b hb) with e | hb
 ·rw [e];exact I.free
 ·obtain ⟨_,o,ho,_⟩:=I.ok.funs.mem hb
  exact I.base.free b o ho (I.ok.frf b hb) λz=>I.ok.exfs b z hb
theorem Inv.step {g':Array GenState}{t':Nat}{d':Drawn}{ch:List Addr} (I:Inv X pins σ H s)
  (hch:∀ b∈ch,(b∈X.ex\/X.s₀.heap.objs.size<=b)/\b≠X.env.locals/\(∀ x c,X.env.cells.lookup x=some c->c≠b)/\∀ p∈X.pn++pins,p.1≠b)
  (keep:∀ b o,b≠X.env.locals->b∉X.fs->b∉ch->s.heap.get? b=some o->H b=none->h'.get? b=some o)
  (slot:∀ b o,b≠X.env.locals->b∈X.fs->b∉ch->s.heap.get? b=some o->H b=none->∃ sl,h'.get? b=some { o with slots:=sl }) (free:∀ b o,b∉ch->s.heap.get? b=some o->H b=none->H' b=none)
  (there:∀ b o,b∉ch->s.heap.get? b=some o->∃ o',h'.get? b=some o')
  (tups:∀ b xs,H b=some (.tup xs)->H' b=some (.tup xs)) (frzs:∀ b o u,H b=some (.frz o u)->H' b=some (.frz o u)) (tbls:∀ b ps,H b=some (.tbl ps)->∃ more,H' b=some (.tbl (ps++more)))
  (ns:∀ m,s.heap.Ns X.env.locals m->h'.Ns X.env.locals m) (hok:HOk X.prog X.w H' h') (hg:AllBare g') :
  Inv X pins σ H' { s with heap:=h',gens:=g',drawn:=d',toks:=t' }:=by
 have neL:∀ b o,X.s₀.heap.get? b=some o->b≠X.env.locals:=λb o e=>Nat.ne_of_lt (Nat.lt_of_lt_of_le (Heap.lt_size e) I.ok.above)
 have neC:∀ b o,X.s₀.heap.get? b=some o->b∉X.ex->b∉ch:=λb o e hx hb=>by
  rcases (hch b hb).1 with z | z
  ·exact hx z
  ·exact absurd (Nat.lt_of_lt_of_le (Heap.lt_size e) z) (Nat.lt_irrefl _)
 have cellK:∀ x c,X.env.cells.lookup x=some c->∀ v,s.heap.IsCell c v->h'.IsCell c v:=λx c e v ⟨o,ho,hd⟩=>by
  have nch:c∉ch:=λz=>(hch c z).2.2.1 x c e rfl
  by_cases hc:c∈X.fs
  ·obtain ⟨sl,q⟩:=slot c o (I.cne x c e) hc nch ho (I.freeC x c e)
   exact ⟨_,q,hd⟩
  ·exact ⟨o,keep c o (I.cne x c e) hc nch ho (I.freeC x c e),hd⟩
 refine ⟨I.ok,I.os,hg,⟨λb o e n hb hx=>?_,λb o e n hb hx=>?_,λb o e n hx=>?_,λb o e hx=>?_,λb xs e=>tups b xs (I.base.tups b xs e),λb o xs e=>frzs b o xs (I.base.frzs b o xs e),λb ps e=>?_⟩,?_,λx c e=>?_,?_,λx c e=>?_,λp hp=>?_,hok,I.len⟩
 ·exact keep b o (neL b o e) hb (neC b o e hx) (I.base.keep b o e n hb hx) (I.base.free b o e n hx)
 ·obtain ⟨sl,e1⟩:=I.base.slot b o e n hb hx
  obtain ⟨sl',e2⟩:=slot b _ (neL b o e) hb (neC b o e hx) e1 (I.base.free b o e n hx)
  exact ⟨sl',e2⟩
 ·obtain ⟨o',e1⟩:=I.base.there b o e hx
  exact free b o' (neC b o e hx) e1 (I.base.free b o e n hx)
 ·obtain ⟨o',e1⟩:=I.base.there b o e hx
  exact there b o' (neC b o e hx) e1
 ·obtain ⟨m1,e1⟩:=I.base.tbls b ps e
  obtain ⟨m2,e2⟩:=tbls b _ e1
  exact ⟨m1++m2,by rw [e2,Array.append_assoc]⟩
 ·obtain ⟨m,hn,hl⟩:=I.loc
  refine ⟨m,ns m hn,λi x v e1 e2 e3=>?_⟩
  obtain ⟨u,r,l⟩:=hl i x v e1 e2 e3
  refine ⟨u,r,?_⟩
  rcases l with l | ⟨k,c,e,z⟩
  ·exact .inl l
  ·exact .inr ⟨k,c,e,cellK x c e _ z⟩
 ·obtain ⟨v,z⟩:=I.cell x c e
  exact ⟨v,cellK x c e v z⟩
 ·obtain ⟨m,⟨o,_,_,ho,_⟩,_⟩:=I.loc
  exact free _ o (λz=>(hch _ z).2.1 rfl) ho I.free
 ·obtain ⟨v,o,ho,hd⟩:=I.cell x c e
  exact free c o (λz=>(hch c z).2.2.1 x c e rfl) ho (I.freeC x c e)
 ·obtain ⟨e,n,ne,nf,d⟩:=I.pin p hp
  have nch:p.1∉ch:=λz=>(hch p.1 z).2.2.2 p hp rfl
  exact ⟨keep p.1 p.2 ne nf nch e n,free p.1 p.2 nch e n,ne,nf,d⟩
theorem Inv.un {t':Nat} (I:Inv X pins σ H s) (u:Un X.fs [] H H' s.heap h') (hok:HOk X.prog X.w H' h'):Inv X pins σ H' { s with heap:=h',toks:=t' }:=by
 obtain ⟨m,⟨o,es,ep,ho,r⟩,_⟩:=id I.loc
 obtain ⟨sl,hL⟩:=u.any ho I.free (by simp)
 exact I.step (g':=s.gens) (d':=s.drawn) (ch:=[]) (λ_ z=>nomatch z) (λb o _ hb _ e n=>u.keep b o e n hb (by simp)) (λb o _ hb _ e n=>u.slot b o e n hb (by simp)) (λb o _ e n=>u.free b o e n (by simp)) (λb o _ e=>u.there b o e (by simp)) u.tups u.frzs u.tbls (λm' hm=>by
  obtain ⟨o',es',ep',ho',r'⟩:=hm
  rw [ho] at ho';cases ho'
  exact ⟨_,es',ep',hL,r'⟩) hok I.bare
theorem Inv.call {g':Array GenState}{t':Nat}{d':Drawn}{ch:List Addr} (I:Inv X pins σ H s) (u:Un (frs X.stack) ch H H' s.heap h') (hok:HOk X.prog X.w H' h') (hg:AllBare g')
  (hch:∀ b∈ch,(b∈X.ex\/X.s₀.heap.objs.size<=b)/\b≠X.env.locals/\(∀ x c,X.env.cells.lookup x=some c->c≠b)/\∀ p∈X.pn++pins,p.1≠b) :
  Inv X pins σ H' { s with heap:=h',gens:=g',drawn:=d',toks:=t' }:=by
 obtain ⟨m,⟨o,es,ep,ho,r⟩,_⟩:=id I.loc
 obtain ⟨sl,hL⟩:=u.any ho I.free λz=>(hch _ z).2.1 rfl
 exact I.step (ch:=ch) hch (λb o hL hb hc e n=>u.keep b o e n (λz=>(List.mem_cons.mp (I.stkSub b z)).elim hL hb) hc) (λb o _ _ hc e n=>u.any e n hc) (λb o hc e n=>u.free b o e n hc) (λb o hc e=>u.there b o e hc) u.tups u.frzs u.tbls (λm' hm=>by
  obtain ⟨o',es',ep',ho',r'⟩:=hm
  rw [ho] at ho';cases ho'
  exact ⟨_,es',ep',hL,r'⟩) hok hg
theorem Inv.turned {t':Nat}{it:Addr} (I:Inv X pins σ H s) (k:∀ b o,b≠it->s.heap.get? b=some o->h'.get? b=some o) (hn:H it=none) (hL:it≠X.env.locals)
  (h1:it∈X.ex\/X.s₀.heap.objs.size<=it) (h2:∀ x c,X.env.cells.lookup x=some c->c≠it) (h3:∀ p∈X.pn++pins,p.1≠it):Inv X pins σ H { s with heap:=h',toks:=t' }:=by
 have nit:∀ b u,H b=some u->b≠it:=λb u e z=>by rw [z,hn] at e;cases e
 refine I.step (g':=s.gens) (d':=s.drawn) (ch:=[it]) (λb hb=>?_) (λb o _ _ hc e _=>k b o (λz=>hc (by simp [z])) e) (λb o _ _ hc e _=>⟨o.slots,k b o (λz=>hc (by simp [z])) e⟩) (λ_ _ _ _ n=>n)
  (λb o hc e=>⟨o,k b o (λz=>hc (by simp [z])) e⟩) (λ_ _ e=>e) (λ_ _ _ e=>e) (λb ps e=>⟨#[],by rw [e];simp⟩) (λm hm=>?_) (λb u e=>?_) I.bare
 ·have e:b=it:=by simpa using hb
  subst e
  exact ⟨h1,hL,h2,h3⟩
 ·obtain ⟨o,es,ep,ho,r⟩:=hm
  exact ⟨o,es,ep,k _ o (Ne.symm hL) ho,r⟩
 ·refine (I.hok b u e).stay (λc v hc q=>k c v ?_ q) (λ_ q=>q) λ_ _ q=>q
  rcases hc with z | z
  ·rw [z];exact nit b u e
  ·exact nit c _ z
theorem Inv.tok (I:Inv X pins σ H s) (t:Nat):Inv X pins σ H { s with toks:=t }:=I.un (h':=s.heap) (t':=t) Un.refl I.hok
theorem Inv.kept {t':Nat} (I:Inv X pins σ H s) (k:∀ b u,s.heap.get? b=some u->h'.get? b=some u):Inv X pins σ H { s with heap:=h',toks:=t' }:=I.un (Un.kept k) (I.hok.kept k)
theorem Inv.laid {a:Addr}{o:HO}{t':Nat} (I:Inv X pins σ H s) (k:∀ b u,s.heap.get? b=some u->h'.get? b=some u) (hp:s.heap.objs.size<=a) (new:ObjOk X.prog X.w (upd H a o) h' a o) :
  Inv X pins σ (upd H a o) { s with heap:=h',toks:=t' }:=I.un (Un.laid k hp (I.hok.fresh hp)) (I.hok.laid k hp new)
theorem Inv.write {x e:Addr}{o:HO}{t':Nat} (I:Inv X pins σ H s) (mu:Mut (H x)) (he:e=x\/H e=some (.own x)) (k:∀ b u,b≠e->s.heap.get? b=some u->h'.get? b=some u) (heo:∃ u,h'.get? e=some u)
  (new:ObjOk X.prog X.w (upd H x o) h' x o):Inv X pins σ (upd H x o) { s with heap:=h',toks:=t' }:=I.un (Un.write mu he k heo) (I.hok.write mu he k heo new)
theorem Inv.pins_of {pins':List (Addr×Obj)} (I:Inv X pins σ H s) (h:∀ p∈pins',s.heap.get? p.1=some p.2/\H p.1=none/\p.1≠X.env.locals/\p.1∉X.fs/\∀ v,p.2.data ≠ .cell v):Inv X pins' σ H s:=
 ⟨I.ok,I.os,I.bare,I.base,I.loc,I.cell,I.free,I.freeC,λp hp=>(List.mem_append.mp hp).elim (λz=>I.pin p (List.mem_append_left _ z)) (h p),I.hok,I.len⟩
theorem nodup_ix {N:List Str} (hN:N.Nodup) {i j:Nat}{x:Str} (a:N[i]? = some x) (b:N[j]? = some x):i=j:=by
 obtain ⟨h1,e1⟩:=List.getElem?_eq_some_iff.mp a
 obtain ⟨h2,e2⟩:=List.getElem?_eq_some_iff.mp b
 exact (List.getElem_inj hN).mp (e1.trans e2.symm)
theorem store_ok2 {M:Model}{A:Around}{E:Value->Shared->Prop}{i:Nat}{x:Str}{v:V}{u:Value}{Q:Unit->Shared->Prop} (I:Inv X pins σ H s) (hN:X.N.Nodup) (hi:X.N[i]? = some x) (hx:Loc X.env.scope x) (r:RelV v u)
  (h:∀ s',Inv X pins (σ.set i (some v)) H s'->(∃ a,Heap.SameBut a s.heap s'.heap/\(a=X.env.locals\/X.env.cells.lookup x=some a))->Q () s') (hf:X.fn x=true\/X.env.scope.names.lookup x=some .local:=by first | exact .inl rfl | exact .inr rfl | assumption):wpAny M A (storeName X.env x u) Q E s:=by
 obtain ⟨m,hn,hl⟩:=id I.loc
 have hcls:(X.env.scope.kind == .class || (X.env.scope.kind == .module && X.env.locals != X.env.globals))=false:=by rw [I.ok.kind];rfl
 have hiσ:i<σ.length:=by rw [I.len];exact (List.getElem?_eq_some_iff.mp hi).1
 have cne:=I.cne
 have tracked:∀ {a:Addr}{h':Heap},(∃ o,s.heap.get? a=some o/\H a=none)->Heap.SameBut a s.heap h'->HOk X.prog X.w H h':=λ{a h'} ha hs b ob e=>by
  obtain ⟨_,_,hfree⟩:=ha
  refine (I.hok b ob e).stay (λc w' hc q=>(hs.2 c ?_).trans q) (λ_ q=>q) λ_ _ q=>q
  rintro rfl
  rcases hc with rfl | hc
  ·rw [hfree] at e;cases e
  ·rw [hfree] at hc;cases hc
 rcases hx with hk | hk
 ·refine wpAny_storeName_local hk hn (λh' hn' hs=>?_) hcls
  obtain ⟨oL,_,_,hoL,_⟩:=id hn
  refine h _ ⟨I.ok,I.os,I.bare,⟨λb o e n hb hx=>?_,λb o e n hb hx=>?_,I.base.free,λb o e hx=>?_,I.base.tups,I.base.frzs,I.base.tbls⟩,⟨_,hn',λj y v' e1 e2 e3=>?_⟩,λy c e=>?_,I.free,I.freeC,λp hp=>?_,tracked ⟨oL,hoL,I.free⟩ hs,by simpa using I.len⟩ ⟨_,hs,.inl rfl⟩
  ·exact (hs.2 b (Nat.ne_of_lt (Nat.lt_of_lt_of_le (Heap.lt_size e) I.ok.above))).trans (I.base.keep b o e n hb hx)
  ·obtain ⟨sl,e1⟩:=I.base.slot b o e n hb hx
   exact ⟨sl,(hs.2 b (Nat.ne_of_lt (Nat.lt_of_lt_of_le (Heap.lt_size e) I.ok.above))).trans e1⟩
  ·obtain ⟨o',e1⟩:=I.base.there b o e hx
   exact ⟨o',(hs.2 b (Nat.ne_of_lt (Nat.lt_of_lt_of_le (Heap.lt_size e) I.ok.above))).trans e1⟩
  ·by_cases hj:j=i
   ·subst hj
    rw [hi] at e1;cases e1
    rw [List.getElem?_set_self hiσ] at e2
    cases e2
    exact ⟨u,r,.inl ⟨hk,by simp⟩⟩
   ·rw [List.getElem?_set_ne (Ne.symm hj)] at e2
    obtain ⟨u',r',q⟩:=hl j y v' e1 e2 e3
    refine ⟨u',r',?_⟩
    rcases q with ⟨k,e⟩ | ⟨k,c,e,z⟩
    ·refine .inl ⟨k,?_⟩
     have:y≠x:=λe=>hj (nodup_ix hN e1 (e ▸ hi))
     simp [this,e]
    ·exact .inr ⟨k,c,e,z.sameBut hs (cne y c e)⟩
  ·obtain ⟨w',z⟩:=I.cell y c e
   exact ⟨w',z.sameBut hs (cne y c e)⟩
  ·obtain ⟨e,n,ne,nf,d⟩:=I.pin p hp
   exact ⟨(hs.2 p.1 ne).trans e,n,ne,nf,d⟩
 ·have hfn:X.fn x=true:=by
   rcases hf with z | z
   ·exact z
   ·rw [z] at hk;cases hk
  obtain ⟨c,hc⟩:=I.ok.has x (.inl hk)
  obtain ⟨w',z⟩:=I.cell x c hc
  refine wpAny_storeName_cell I.ok.kind hk hc z (λh' hc' hs=>?_)
  obtain ⟨oc,hoc,hocd⟩:=id z
  refine h { s with heap:=h' } ⟨I.ok,I.os,I.bare,⟨λb o e n hb hx=>?_,λb o e n hb hx=>?_,I.base.free,λb o e hx=>?_,I.base.tups,I.base.frzs,I.base.tbls⟩,⟨m,hn.sameBut hs (Ne.symm (cne x c hc)),λj y v' e1 e2 e3=>?_⟩,λy c' e=>?_,I.free,I.freeC,λp hp=>?_,tracked ⟨oc,hoc,I.freeC x c hc⟩ hs,by simpa using I.len⟩ ⟨c,hs,.inr hc⟩
  ·exact (hs.2 b (Nat.ne_of_lt (Nat.lt_of_lt_of_le (Heap.lt_size e) (I.ok.cab x c hfn hc)))).trans (I.base.keep b o e n hb hx)
  ·obtain ⟨sl,e1⟩:=I.base.slot b o e n hb hx
   exact ⟨sl,(hs.2 b (Nat.ne_of_lt (Nat.lt_of_lt_of_le (Heap.lt_size e) (I.ok.cab x c hfn hc)))).trans e1⟩
  ·obtain ⟨o',e1⟩:=I.base.there b o e hx
   exact ⟨o',(hs.2 b (Nat.ne_of_lt (Nat.lt_of_lt_of_le (Heap.lt_size e) (I.ok.cab x c hfn hc)))).trans e1⟩
  ·by_cases hj:j=i
   ·subst hj
    rw [hi] at e1;cases e1
    rw [List.getElem?_set_self hiσ] at e2
    cases e2
    exact ⟨u,r,.inr ⟨.inl hk,c,hc,hc'⟩⟩
   ·rw [List.getElem?_set_ne (Ne.symm hj)] at e2
    obtain ⟨u',r',q⟩:=hl j y v' e1 e2 e3
    refine ⟨u',r',?_⟩
    rcases q with q | ⟨k,c',e,z'⟩
    ·exact .inl q
    ·refine .inr ⟨k,c',e,z'.sameBut hs ?_⟩
     rintro rfl
     exact hj (nodup_ix hN e1 (I.ok.inj _ _ _ e hc ▸ hi))
  ·by_cases hcc:c' = c
   ·subst hcc;exact ⟨_,hc'⟩
   ·obtain ⟨w2,z2⟩:=I.cell y c' e
    exact ⟨w2,z2.sameBut hs hcc⟩
  ·obtain ⟨e,n,ne,nf,d⟩:=I.pin p hp
   refine ⟨(hs.2 p.1 ?_).trans e,n,ne,nf,d⟩
   intro q
   rw [q,hoc] at e
   have q':oc=p.2:=Option.some.inj e
   exact d w' (by rw [<-q'];exact hocd)
theorem store_ok {M:Model}{A:Around}{E:Value->Shared->Prop}{i:Nat}{x:Str}{v:V}{u:Value}{Q:Unit->Shared->Prop} (I:Inv X pins σ H s) (hN:X.N.Nodup) (hi:X.N[i]? = some x) (hx:Loc X.env.scope x) (r:RelV v u)
  (h:∀ s',Inv X pins (σ.set i (some v)) H s'->Q () s') (hf:X.fn x=true\/X.env.scope.names.lookup x=some .local:=by first | exact .inl rfl | exact .inr rfl | assumption):wpAny M A (storeName X.env x u) Q E s:=
 store_ok2 I hN hi hx r (λs' I' _=>h s' I') hf
theorem Inv.call' {s':Shared}{ch:List Addr} (I:Inv X pins σ H s) (ho:s'.os=s.os) (u:Un (frs X.stack) ch H H' s.heap s'.heap) (hok:HOk X.prog X.w H' s'.heap) (hg:AllBare s'.gens)
  (hch:∀ b∈ch,(b∈X.ex\/X.s₀.heap.objs.size<=b)/\b≠X.env.locals/\(∀ x c,X.env.cells.lookup x=some c->c≠b)/\∀ p∈X.pn++pins,p.1≠b):Inv X pins σ H' s':=by
 obtain ⟨h',g',d',t',o'⟩:=s'
 have e:o' = s.os:=ho
 subst e
 exact I.call (g':=g') (t':=t') (d':=d') u hok hg hch
end
abbrev XK:=Value->Option Addr->Hp->Prop
abbrev St:=List (Option V)
abbrev VK:=V->Hp->Prop
abbrev TE:=St->Hp->VK->Prop
abbrev TT:=St->Hp->(Bool->Hp->Prop)->Prop
abbrev TA:=St->Hp->(List V->Hp->Prop)->Prop
structure Ends where
 nx:St->Hp->Prop
 rt:VK
 bk:St->Hp->Prop:=λ_ _=>False
 ct:St->Hp->Prop:=λ_ _=>False
abbrev TS:=Ends->St->Hp->Prop
def EP (X:Cx) (pins:List (Addr×Obj)) (σ:St) (Q:VK) (u:Value) (s':Shared):Prop:=∃ v H',Inv X pins σ H' s'/\RelV v u/\Q v H'
def TP (X:Cx) (pins:List (Addr×Obj)) (σ:St) (Q:Bool->Hp->Prop) (b:Bool) (s':Shared):Prop:=∃ H',Inv X pins σ H' s'/\Q b H'
def AP (X:Cx) (pins:List (Addr×Obj)) (σ:St) (Q:List V->Hp->Prop) (us:List Value) (s':Shared):Prop:=∃ vs H',Inv X pins σ H' s'/\Vals vs us/\Q vs H'
def SP (X:Cx) (pins:List (Addr×Obj)) (D:Ends) (f:Flow) (s':Shared):Prop:=
 match f with
 | .next=>∃ σ' H',Inv X pins σ' H' s'/\D.nx σ' H'
 | .brk=>∃ σ' H',Inv X pins σ' H' s'/\D.bk σ' H'
 | .cont=>∃ σ' H',Inv X pins σ' H' s'/\D.ct σ' H'
 | .ret u=>∃ v σ' H',Inv X pins σ' H' s'/\RelV v u/\D.rt v H'
def PE (X:Cx) (e:Expr) (t:TE):Prop:=
 ∀ (pins:List (Addr×Obj)) (s:Shared) (σ:St) (H:Hp) (Q:VK),Inv X pins σ H s->t σ H Q->wpAny (model X.prog X.w) X.A (eval e X.env) (EP X pins σ Q) X.xe s
def PT (X:Cx) (e:Expr) (t:TT):Prop:=
 ∀ (pins:List (Addr×Obj)) (s:Shared) (σ:St) (H:Hp) (Q:Bool->Hp->Prop),Inv X pins σ H s->t σ H Q->wpAny (model X.prog X.w) X.A (isTrue e X.env (eval e X.env)) (TP X pins σ Q) X.xe s
def PW (X:Cx) (e:Expr) (t:TT):Prop:=
 ∀ (whole:Sem Value) (pins:List (Addr×Obj)) (s:Shared) (σ:St) (H:Hp) (Q:Bool->Hp->Prop),Inv X pins σ H s->t σ H Q->wpAny (model X.prog X.w) X.A (isTrue e X.env whole) (TP X pins σ Q) X.xe s
theorem PW.pt {X:Cx}{e:Expr}{t:TT} (h:PW X e t):PT X e t:=h _
def PA (X:Cx) (es:List Expr) (t:TA):Prop:=
 ∀ (pos:Pos) (pins:List (Addr×Obj)) (s:Shared) (σ:St) (H:Hp) (Q:List V->Hp->Prop),Inv X pins σ H s->t σ H Q->wpAny (model X.prog X.w) X.A (spliced (backTo pos (starEach es X.env))) (AP X pins σ Q) X.xe s
def PS (X:Cx) (st:Stmt) (t:TS):Prop:=
 ∀ (pins:List (Addr×Obj)) (s:Shared) (σ:St) (H:Hp) (D:Ends),Inv X pins σ H s->t D σ H->wpAny (model X.prog X.w) X.A (exec st X.env) (SP X pins D) X.xe s
def PSs (X:Cx) (st:List Stmt) (t:TS):Prop:=
 ∀ (pins:List (Addr×Obj)) (s:Shared) (σ:St) (H:Hp) (D:Ends),Inv X pins σ H s->t D σ H->wpAny (model X.prog X.w) X.A (execs st X.env) (SP X pins D) X.xe s
theorem thn {α:Type}{t:Sem α}{Q Q':α->Shared->Prop}{M:Model}{A:Around}{E:Value->Shared->Prop}{s:Shared} (h:wpAny M A t Q E s) (hQ:∀ a s,Q a s->Q' a s):wpAny M A t Q' E s:=wpAny_mono h hQ λ_ _ x=>x
end L2
namespace L2
open PySem PySem.Spec PyProof.Rows
section
variable {X:Cx}
def tVar (i:Nat):TE:=λσ H Q=>∃ v,σ[i]? = some (some v)/\Q v H
def tC (v:V):TE:=λ_ H Q=>Q v H
theorem pe_var {i:Nat}{x:Str}{pos:Pos} (hN:X.N[i]? = some x) (hv:Vis X.env.scope x) (hd:(x == ("__debug__" : Str))=false:=by decide) (hcd:(x == ("__classdict__" : Str))=false:=by decide):PE X (.Name x pos) (tVar i):=by
 intro pins s σ H Q I h
 obtain ⟨v,e,h⟩:=h
 obtain ⟨m,hn,hl⟩:=I.loc
 obtain ⟨u,r,l⟩:=hl i x v hN e hv
 have fin:EP X pins σ Q u s:=⟨v,H,I,r,h⟩
 rcases l with ⟨hk,hm⟩ | ⟨hk,c,hc,hcell⟩
 ·exact wpAny_Name (wpAny_loadName_local I.ok.kind hk hn hm fin) hd
 ·rcases hk with hk | hk
  ·exact wpAny_Name (wpAny_loadName_cell I.ok.kind hk hc hcell fin) hd
  ·exact wpAny_Name (wpAny_loadName_free I.ok.kind hk hc hcell fin hcd) hd
theorem pe_int {i j pos}:PE X (.Constant (.int i) j pos) (tC (.int i)):=λ_ _ _ H _ I h=>wpAny_Constant_int ⟨.int i,H,I.tok _,⟨_,rfl⟩,h⟩
theorem pe_bl {b j pos}:PE X (.Constant (.bool b) j pos) (tC (.bl b)):=λ_ _ _ H _ I h=>Constant_bool ⟨.bl b,H,I,rfl,h⟩
theorem pe_non {j pos}:PE X (.Constant .none j pos) (tC .non):=λ_ _ _ H _ I h=>Constant_none ⟨.non,H,I,rfl,h⟩
theorem pe_str {x j pos}:PE X (.Constant (.str x) j pos) (tC (.str x)):=λ_ _ _ H _ I h=>Calls.Constant_str ⟨.str x,H,I.tok _,⟨_,rfl⟩,h⟩
def Gl (X:Cx) (x:Str):Prop:=X.env.kindOf x=some .globalImplicit
theorem ld_glob {E:Value->Shared->Prop}{pins:List (Addr×Obj)}{s:Shared}{σ:St}{H:Hp}{x:Str}{u:Value}{pos:Pos}{Q:Value->Shared->Prop} (I:Inv X pins σ H s) (hg:Gl X x) (hm:X.mg x=some u) (h:Q u s)
  (hd:(x == ("__debug__" : Str))=false:=by decide):wpAny (model X.prog X.w) X.A (eval (.Name x pos) X.env) Q E s:=
 Calls.Name_function_global I.ok.kind hg (Calls.loadGlobal_global (by rw [I.ok.glob];exact I.mod.glob.keeps I.bk) hm h) hd
theorem ld_blt {E:Value->Shared->Prop}{pins:List (Addr×Obj)}{s:Shared}{σ:St}{H:Hp}{x:Str}{u:Value}{pos:Pos}{Q:Value->Shared->Prop} (I:Inv X pins σ H s) (hg:Gl X x) (hm:X.mg x=none) (hv:bootBuiltins x=some u) (h:Q u s)
  (hn:x ≠ "__name__" :=by decide) (hd:(x == ("__debug__" : Str))=false:=by decide):wpAny (model X.prog X.w) X.A (eval (.Name x pos) X.env) Q E s:=by
 obtain ⟨mb,h1,h2⟩:=I.mod.blt
 exact Calls.Name_function_global I.ok.kind hg (Calls.loadGlobal_builtin (by rw [I.ok.glob];exact I.mod.glob.keeps I.bk) hm (by rw [I.ok.blt];exact h1.keeps I.bk) ((h2 x hn).trans hv) h) hd
theorem pe_glob {x:Str}{v:V}{u:Value}{pos:Pos} (hg:Gl X x) (hm:X.mg x=some u) (r:RelV v u) (hd:(x == ("__debug__" : Str))=false:=by decide):PE X (.Name x pos) (tC v):=
 λ_ _ _ H _ I h=>ld_glob I hg hm ⟨v,H,I,r,h⟩ hd
theorem pe_bltn {x:Str}{v:V}{u:Value}{pos:Pos} (hg:Gl X x) (hm:X.mg x=none) (hv:bootBuiltins x=some u) (r:RelV v u) (hn:x ≠ "__name__" :=by decide) (hd:(x == ("__debug__" : Str))=false:=by decide):PE X (.Name x pos) (tC v):=
 λ_ _ _ H _ I h=>ld_blt I hg hm hv ⟨v,H,I,r,h⟩ hn hd
variable {a b:Expr}{ta tb:TE}{pos:Pos}
def tB (t:TE):TT:=λσ H Q=>t σ H λx H1=>∃ c,x = .bl c/\Q c H1
theorem pt_val {e:Expr}{t:TE} (h:PE X e t) (he:∀ whole,isTrue e X.env whole=(do let v <-whole;standAt e.pos;holding [v] (truthy v)):=by intro _;rfl):PT X e (tB t):=by
 intro pins s σ H Q I hw
 refine isTrue_plain (thn (h pins s σ H _ I hw) λv s1 ⟨x,H1,I1,r1,q1⟩=>?_) (he _)
 obtain ⟨d,rfl,q⟩:=q1
 cases r1
 exact wpAny_truthy_bool ⟨H1,I1,q⟩
variable {tA tB':TT}{rest:List Expr}
def tAnd (t u:TT):TT:=λσ H Q=>t σ H λc H1=>if c=true then u σ H1 Q else Q false H1
def tOr (t u:TT):TT:=λσ H Q=>t σ H λc H1=>if c=true then Q true H1 else u σ H1 Q
def tNot (t:TT):TT:=λσ H Q=>t σ H λc H1=>Q (!c) H1
theorem pw_and1 (ha:PT X a tA):PW X (.BoolOp .And [a] pos) tA:=by
 intro wh pins s σ H Q I h
 refine isTrue_and (thn (ha pins s σ H Q I h) λc s1 e=>?_)
 cases c with
 | true=>exact isTrue_and_nil e
 | false=>exact e
theorem pw_or1 (ha:PT X a tA):PW X (.BoolOp .Or [a] pos) tA:=by
 intro wh pins s σ H Q I h
 refine isTrue_or (thn (ha pins s σ H Q I h) λc s1 e=>?_)
 cases c with
 | false=>exact isTrue_or_nil e
 | true=>exact e
theorem pw_and (ha:PT X a tA) (hb:PW X (.BoolOp .And (b::rest) pos) tB'):PW X (.BoolOp .And (a::b::rest) pos) (tAnd tA tB'):=by
 intro wh pins s σ H Q I h
 refine isTrue_and (thn (ha pins s σ H _ I h) λc s1 ⟨H1,I1,q1⟩=>?_)
 cases c with
 | true=>exact hb wh pins s1 σ H1 Q I1 q1
 | false=>exact ⟨H1,I1,q1⟩
theorem pw_or (ha:PT X a tA) (hb:PW X (.BoolOp .Or (b::rest) pos) tB'):PW X (.BoolOp .Or (a::b::rest) pos) (tOr tA tB'):=by
 intro wh pins s σ H Q I h
 refine isTrue_or (thn (ha pins s σ H _ I h) λc s1 ⟨H1,I1,q1⟩=>?_)
 cases c with
 | true=>exact ⟨H1,I1,q1⟩
 | false=>exact hb wh pins s1 σ H1 Q I1 q1
theorem pt_not (ha:PT X a tA):PT X (.UnaryOp .Not a pos) (tNot tA):=by
 intro pins s σ H Q I h
 exact isTrue_not (ha pins s σ H (λc H1=>Q (!c) H1) I h)
def tAndV (ta tb:TE):TE:=λσ H Q=>ta σ H λx H1=>∃ c,x = .bl c/\if c=true then tb σ H1 Q else Q (.bl false) H1
theorem pe_one {op}{t:TE} (h:PE X a t):PE X (.BoolOp op [a] pos) t:=λpins s σ H Q I hw=>BoolOp_one (h pins s σ H Q I hw)
theorem pe_and (ha:PE X a ta) (hb:PE X (.BoolOp .And (b::rest) pos) tb):PE X (.BoolOp .And (a::b::rest) pos) (tAndV ta tb):=by
 intro pins s σ H Q I h
 refine BoolOp_and (thn (ha pins s σ H _ I h) λv s1 ⟨x,H1,I1,r1,q1⟩=>?_)
 obtain ⟨c,rfl,q1⟩:=q1
 cases r1
 refine wpAny_truthy_bool ?_
 cases c with
 | true=>exact hb pins s1 σ H1 Q I1 q1
 | false=>exact ⟨.bl false,H1,I1,rfl,q1⟩
def tIf (t:TT) (ta tb:TE):TE:=λσ H Q=>t σ H λc H1=>if c=true then ta σ H1 Q else tb σ H1 Q
theorem pe_ifExp {c:Expr} (hc:PT X c tA) (ha:PE X a ta) (hb:PE X b tb):PE X (.IfExp c a b pos) (tIf tA ta tb):=by
 intro pins s σ H Q I h
 refine wpAny_IfExp (thn (hc pins s σ H _ I h) λd s1 ⟨H1,I1,q1⟩=>?_)
 cases d with
 | true=>exact ha pins s1 σ H1 Q I1 q1
 | false=>exact hb pins s1 σ H1 Q I1 q1
end
end L2
namespace L2
open PySem PySem.Spec PyProof.Rows
def SqL (K:PySem.W.Frag) (H:Hp) (a:Addr) (xs:List V):Prop:=
 Rd H a (.lst xs) \/
  ∃ (o:Obj) (its:Array Value) (n:Nat),K.lookup a=some o/\o.cls = .type "list" /\ o.dict=none/\o.data = .seq its n/\its.size<=sizeLine/\Vals xs its.toList
def SqT (K:PySem.W.Frag) (H:Hp) (a:Addr) (xs:List V):Prop:=
 Rd H a (.tup xs) \/
  ∃ (o:Obj) (its:Array Value) (n:Nat),K.lookup a=some o/\o.cls = .type "tuple" /\ o.data = .seq its n/\its.size<=sizeLine/\Vals xs its.toList
def absV:Value->Option V
 | .none=>some .non
 | .bool b=>some (.bl b)
 | .int i _=>some (.int i)
 | .str x _=>some (.str x)
 | .bytes b _=>some (.byt b)
 | .float b _=>some (.flt b)
 | .ref a=>some (.ref a)
 | .type n=>some (.ty n)
 | _=>none
theorem RelV.abs {x:V}{u:Value} (r:RelV x u):absV u=some x:=by
 cases x with
 | non=>cases r;rfl
 | bl _=>cases r;rfl
 | int _=>obtain ⟨t,rfl⟩:=r;rfl
 | str _=>obtain ⟨t,rfl⟩:=r;rfl
 | byt _=>obtain ⟨t,rfl⟩:=r;rfl
 | flt _=>obtain ⟨t,rfl⟩:=r;rfl
 | ref _=>cases r;rfl
 | ty _=>cases r;rfl
theorem RelV.inj {x y:V}{u:Value} (r:RelV x u) (q:RelV y u):x=y:=Option.some.inj (r.abs.symm.trans q.abs)
theorem Vals.inj:∀ {xs ys:List V}{us:List Value},Vals xs us->Vals ys us->xs=ys
 | _,_,_,.nil,.nil=>rfl
 | _,_,_,.cons r t,.cons r' t'=>by rw [r.inj r',Vals.inj t t']
section
variable {X:Cx}{pins:List (Addr×Obj)}{σ:St}{H:Hp}{s:Shared}{a:Addr}{xs ys:List V}
theorem SqL.of {K:PySem.W.Frag} (h:H a=some (.lst xs)):SqL K H a xs:=.inl (.inl h)
theorem SqT.of {K:PySem.W.Frag} (h:H a=some (.tup xs)):SqT K H a xs:=.inl (.inl h)
theorem Inv.list (I:Inv X pins σ H s) (h:SqL X.K H a xs):∃ its:List Value,Vals xs its/\PlainL s.heap a its.toArray/\xs.length<=sizeLine:=by
 rcases h with h | ⟨o,its,n,hk,hc,hd,hs,hz,r⟩
 ·obtain ⟨z,its,n,r,e⟩:=h.ok I.hok
  exact ⟨its,r,⟨_,n,e,rfl,rfl,rfl⟩,z⟩
 ·refine ⟨its.toList,r,⟨o,n,I.kIn a o hk,hc,hd,by simpa using hs⟩,?_⟩
  have e:=r.length
  simp only [Array.length_toList] at e
  lia
theorem Inv.tuple (I:Inv X pins σ H s) (h:SqT X.K H a xs):∃ its:List Value,Vals xs its/\IsTup s.heap a its.toArray/\xs.length<=sizeLine:=by
 rcases h with h | ⟨o,its,n,hk,hc,hs,hz,r⟩
 ·obtain ⟨z,its,r,p⟩:=h.ok I.hok
  exact ⟨its,r,p,z⟩
 ·refine ⟨its.toList,r,⟨o,I.kIn a o hk,hc,n,by simpa using hs⟩,?_⟩
  have e:=r.length
  simp only [Array.length_toList] at e
  lia
theorem Inv.list_inj (I:Inv X pins σ H s) (h:SqL X.K H a xs) (h':SqL X.K H a ys):xs=ys:=by
 obtain ⟨its,r,⟨o,n,e,_,_,d⟩,_⟩:=I.list h
 obtain ⟨its',r',⟨o',n',e',_,_,d'⟩,_⟩:=I.list h'
 rw [e] at e';cases e'
 rw [d] at d'
 injection d' with d1 _
 have:its=its':=by simpa using congrArg Array.toList d1
 subst this
 exact r.inj r'
end
abbrev Cx.wish (X:Cx) (E:Value->Shared->Prop):Cx:={ X with xe:=E }
abbrev Cx.nox (X:Cx):Cx:=X.wish λ_ _=>False
theorem Cx.Ok.wish {X:Cx} (ok:X.Ok) (E:Value->Shared->Prop):(X.wish E).Ok:=
 ⟨ok.mod,ok.kind,ok.glob,ok.blt,ok.above,ok.inj,ok.has,ok.cab,ok.hd,ok.frames,ok.stk,ok.exf,ok.bs,ok.bsz,ok.noex,ok.exfs,ok.funs,ok.frf⟩
theorem Cx.Ok.unwish {X:Cx}{E:Value->Shared->Prop} (ok:(X.wish E).Ok):X.Ok:=
 ⟨ok.mod,ok.kind,ok.glob,ok.blt,ok.above,ok.inj,ok.has,ok.cab,ok.hd,ok.frames,ok.stk,ok.exf,ok.bs,ok.bsz,ok.noex,ok.exfs,ok.funs,ok.frf⟩
section
variable {X:Cx}{pins:List (Addr×Obj)}{σ:St}{H:Hp}{s:Shared}{E:Value->Shared->Prop}
theorem Inv.wish (I:Inv X pins σ H s) (E:Value->Shared->Prop):Inv (X.wish E) pins σ H s:=⟨I.ok.wish E,I.os,I.bare,I.base,I.loc,I.cell,I.free,I.freeC,I.pin,I.hok,I.len⟩
theorem Inv.unwish (I:Inv (X.wish E) pins σ H s):Inv X pins σ H s:=⟨I.ok.unwish,I.os,I.bare,I.base,I.loc,I.cell,I.free,I.freeC,I.pin,I.hok,I.len⟩
theorem SP.unwish {D:Ends}{f:Flow}{s':Shared} (h:SP (X.wish E) pins D f s'):SP X pins D f s':=by
 cases f with
 | next=>obtain ⟨σ',H',I,q⟩:=h;exact ⟨σ',H',I.unwish,q⟩
 | brk=>obtain ⟨σ',H',I,q⟩:=h;exact ⟨σ',H',I.unwish,q⟩
 | cont=>obtain ⟨σ',H',I,q⟩:=h;exact ⟨σ',H',I.unwish,q⟩
 | ret u=>obtain ⟨v,σ',H',I,r,q⟩:=h;exact ⟨v,σ',H',I.unwish,r,q⟩
theorem PSs.nox {st:List Stmt}{t:TS} (h:PSs X.nox st t):PSs X st t:=λpins s σ H D I hw=>
 wpAny_mono (h pins s σ H D (I.wish _) hw) (λ_ _ q=>q.unwish) λ_ _ z=>False.elim z
end
section
variable {X:Cx}{st:Stmt}{rest:List Stmt}{t u:TS}{e:Expr}{te:TE}{pos:Pos}
def tNext:TS:=λD σ H=>D.nx σ H
def tSeq (t u:TS):TS:=λD σ H=>t { D with nx:=u D } σ H
theorem pss_nil:PSs X [] tNext:=λ_ _ σ H _ I h=>wpAny_execs_nil ⟨σ,H,I,h⟩
theorem pss_cons (h1:PS X st t) (h2:PSs X rest u):PSs X (st::rest) (tSeq t u):=by
 intro pins s σ H D I h
 refine wpAny_execs_cons (thn (h1 pins s σ H { D with nx:=u D } I h) λf s1 q=>?_)
 cases f with
 | next=>
  obtain ⟨σ',H',I',q⟩:=q
  exact h2 pins s1 σ' H' D I' q
 | ret v=>exact q
 | brk=>exact q
 | cont=>exact q
theorem pss_one (h1:PS X st t):PSs X [st] t:=by
 intro pins s σ H D I h
 refine wpAny_execs_cons (thn (h1 pins s σ H D I h) λf s1 q=>?_)
 cases f with
 | next=>exact wpAny_execs_nil q
 | ret v=>exact q
 | brk=>exact q
 | cont=>exact q
theorem Inv.quiet {pins:List (Addr×Obj)}{σ:St}{H:Hp}{s:Shared} (I:Inv X pins σ H s):interactive X.env=false:=by simp [interactive,I.ok.kind]
def tDrop (te:TE):TS:=λD σ H=>te σ H λ_ H1=>D.nx σ H1
theorem ps_expr (he:PE X e te) (hs:swapsWith e none pos.line X.env=pure false:=by rfl):PS X (.Expr e pos) (tDrop te):=by
 intro pins s σ H D I h
 exact wpAny_Expr_any (thn (he pins s σ H _ I h) λv s1 ⟨x,H1,I1,r1,q1⟩=>⟨σ,H1,I1,q1⟩) I.quiet hs
def tRet (te:TE):TS:=λD σ H=>te σ H D.rt
theorem ps_ret (he:PE X e te):PS X (.Return (some e) pos) (tRet te):=by
 intro pins s σ H D I h
 exact wpAny_Return_some (thn (he pins s σ H _ I h) λv s1 ⟨x,H1,I1,r1,q1⟩=>⟨x,σ,H1,I1,r1,q1⟩)
def tIfS (c:TT) (t u:TS):TS:=λD σ H=>c σ H λb H1=>if b=true then t D σ H1 else u D σ H1
theorem ps_if {c:Expr}{a b:List Stmt}{tc:TT} (hc:PT X c tc) (ha:PSs X a t) (hb:PSs X b u):PS X (.If c a b pos) (tIfS tc t u):=by
 intro pins s σ H D I h
 refine wpAny_If (thn (hc pins s σ H _ I h) λd s1 ⟨H1,I1,q1⟩=>?_)
 cases d with
 | true=>exact ha pins s1 σ H1 D I1 q1
 | false=>exact hb pins s1 σ H1 D I1 q1
def tNever:TS:=λ_ _ _=>False
theorem ps_never:PS X st tNever:=λ_ _ _ _ _ _ h=>h.elim
end
abbrev TG:=V->St->Hp->(St->Hp->Prop)->Prop
abbrev TGs:=List V->St->Hp->(St->Hp->Prop)->Prop
def PG (X:Cx) (target:Expr) (t:TG):Prop:=
 ∀ (pins:List (Addr×Obj)) (s:Shared) (σ:St) (H:Hp) (v:V) (u:Value) (Q:St->Hp->Prop),Inv X pins σ H s->RelV v u->t v σ H Q ->
  wpAny (model X.prog X.w) X.A (assign target X.env u) (λ_ s'=>∃ σ' H',Inv X pins σ' H' s'/\Q σ' H') X.xe s
def PGs (X:Cx) (ts:List Expr) (t:TGs):Prop:=
 ∀ (pins:List (Addr×Obj)) (s:Shared) (σ:St) (H:Hp) (vs:List V) (us:List Value) (Q:St->Hp->Prop),Inv X pins σ H s->Vals vs us->t vs σ H Q ->
  wpAny (model X.prog X.w) X.A (assignInOrder ((assignEach ts X.env).map (·.2)) us) (λ_ s'=>∃ σ' H',Inv X pins σ' H' s'/\Q σ' H') X.xe s
abbrev TSet:=V->V->V->Hp->(Hp->Prop)->Prop
def PSet (X:Cx) (t:TSet):Prop:=
 ∀ (pins:List (Addr×Obj)) (s:Shared) (σ:St) (H:Hp) (o i v:V) (ov iv u:Value) (Q:Hp->Prop),Inv X pins σ H s->RelV o ov->RelV i iv->RelV v u->t o i v H Q ->
  wpAny (model X.prog X.w) X.A (setItem ov iv u) (λ_ s'=>∃ H',Inv X pins σ H' s'/\Q H') X.xe s
section
variable {X:Cx}{pos:Pos}
def gName (i:Nat):TG:=λv σ H Q=>Q (σ.set i (some v)) H
theorem pg_name {i:Nat}{x:Str} (hN:X.N.Nodup) (hi:X.N[i]? = some x) (hx:Loc X.env.scope x) (hf:X.fn x=true\/X.env.scope.names.lookup x=some .local:=by first | exact .inl rfl | exact .inr rfl | assumption):PG X (.Name x pos) (gName i):=by
 intro pins s σ H v u Q I r h
 exact wpAny_assign_Name (store_ok I hN hi hx r (λs' I'=>⟨_,H,I',h⟩) hf)
def gNil:TGs:=λvs σ H Q=>vs=[]/\Q σ H
def gCons (t:TG) (u:TGs):TGs:=λvs σ H Q=>∃ v r,vs=v::r/\t v σ H λσ' H'=>u r σ' H' Q
theorem pgs_nil:PGs X [] gNil:=by
 intro pins s σ H vs us Q I r h
 obtain ⟨e,h⟩:=h
 subst e
 cases r
 exact assignInOrder_nil ⟨σ,H,I,h⟩
theorem pgs_cons {e:Expr}{es:List Expr}{t:TG}{u:TGs} (h1:PG X e t) (h2:PGs X es u)
  (hs:(assignEach (e::es) X.env).map (·.2)=assign e X.env::(assignEach es X.env).map (·.2):=by rfl):PGs X (e::es) (gCons t u):=by
 intro pins s σ H vs us Q I r h
 obtain ⟨v,vr,e1,h⟩:=h
 subst e1
 cases r with
 | cons r rr=>
  rw [hs]
  refine assignInOrder_cons (thn (h1 pins s σ H _ _ _ I r h) λ_ s1 ⟨σ1,H1,I1,q1⟩=>?_)
  exact h2 pins s1 σ1 H1 _ _ Q I1 rr q1
def gTup (K:PySem.W.Frag) (n:Nat) (t:TGs):TG:=λv σ H Q=>∃ a xs,v = .ref a/\SqT K H a xs/\xs.length=n/\t xs σ H Q
theorem pg_tup {es:List Expr}{k:Nat}{t:TGs}{n:Nat} (hc:X.calm=true) (h:PGs X es t)
  (hn:(assignEach es X.env).length=n:=by rfl) (hst:(assignEach es X.env).findIdx? (·.1)=none:=by rfl):PG X (.Tuple es k pos) (gTup X.K n t):=by
 intro pins s σ H v u Q I r hw
 obtain ⟨a,xs,e1,hq,hl,hw⟩:=hw
 subst e1
 cases r
 obtain ⟨its,rv,ht,hz⟩:=I.tuple hq
 refine assign_Tuple_tuple (I.ok.hd hc) ht (by simp [hn,<-hl,rv.length]) hst λh' hx=>?_
 have I1:Inv X pins σ H { s with heap:=h' }:=I.kept (t':=s.toks) λb o e=>hx b o (Nat.ne_of_lt (Heap.lt_size e)) e
 exact h pins _ σ H xs _ Q I1 (by simpa using rv) hw
def gSub (to ti:TE) (t:TSet):TG:=λv σ H Q=>to σ H λo H1=>ti σ H1 λi H2=>t o i v H2 λH3=>Q σ H3
theorem pg_sub {o i:Expr}{to ti:TE}{t:TSet} (ho:PE X o to) (hi:PE X i ti) (hs:PSet X t)
  (ha:∀ v,assign (.Subscript o i pos) X.env v=(do
   let ov <-holding [v] (eval o X.env)
   let iv <-holding [v,ov] (eval i X.env)
   standAt pos
   holding [v,ov,iv] (setItem ov iv v)
   release [v,ov,iv] []):=by intro _;rfl):PG X (.Subscript o i pos) (gSub to ti t):=by
 intro pins s σ H v u Q I r h
 rw [ha]
 refine wpAny_bind (wpAny_holding (thn (ho pins s σ H _ I h) λov s1 ⟨x,H1,I1,r1,q1⟩=>?_))
 refine wpAny_bind (wpAny_holding (thn (hi pins s1 σ H1 _ I1 q1) λiv s2 ⟨y,H2,I2,r2,q2⟩=>?_))
 refine wpAny_bind (wpAny_standAt (wpAny_bind (wpAny_holding (thn (hs pins s2 σ H2 x y v ov iv u _ I2 r1 r2 r q2) λ_ s3 ⟨H3,I3,q3⟩=>?_))))
 exact wpAny_release ⟨σ,H3,I3,q3⟩
def tAsg (te:TE) (g:TG):TS:=λD σ H=>te σ H λx H1=>g x σ H1 D.nx
theorem ps_asg {tg e:Expr}{te:TE}{g:TG} (he:PE X e te) (hg:PG X tg g) (hs:swapsWithSole [tg] e pos.line X.env=pure false:=by rfl) (hw:swappedStores [tg] e X.env=pure none:=by rfl)
  (h1:(assignEach [tg] X.env).map (·.2)=[assign tg X.env]:=by rfl):PS X (.Assign [tg] e pos) (tAsg te g):=by
 intro pins s σ H D I h
 refine wpAny_Assign_stores (thn (he pins s σ H _ I h) λv s1 ⟨x,H1,I1,r1,q1⟩=>?_) hs hw
 rw [h1]
 exact thn (hg pins s1 σ H1 x v _ I1 r1 q1) λ_ s2 q=>q
theorem ps_set {i:Nat}{x:Str}{e:Expr}{te:TE}{pos':Pos} (hN:X.N.Nodup) (hi:X.N[i]? = some x) (hx:Loc X.env.scope x) (he:PE X e te) (hs:swapsWith e (some (.Name x pos')) pos.line X.env=pure false:=by rfl) (hf:X.fn x=true\/X.env.scope.names.lookup x=some .local:=by first | exact .inl rfl | exact .inr rfl | assumption) :
  PS X (.Assign [.Name x pos'] e pos) (tAsg te (gName i)):=by
 intro pins s σ H D I h
 refine wpAny_Assign_Name (thn (he pins s σ H _ I h) λv s1 ⟨y,H1,I1,r1,q1⟩=>?_) hs
 exact store_ok I1 hN hi hx r1 (λs2 I2=>⟨_,H1,I2,q1⟩) hf
end
section
variable {X:Cx}{pos:Pos}
end
structure It where
 go:Nat->Hp->Prop
 yld:Nat->Hp->V->Hp->Prop
 stop:Nat->Hp->Prop
def FpOk (X:Cx) (pins:List (Addr×Obj)) (H:Hp) (b:Addr):Prop:=
 H b=none/\b≠X.env.locals/\b∉X.fs/\(b∈X.ex\/X.s₀.heap.objs.size<=b)/\(∀ x c,X.env.cells.lookup x=some c->c≠b)/\∀ p∈X.pn++pins,p.1≠b
theorem Inv.fpOk {X:Cx}{pins:List (Addr×Obj)}{σ:St}{H H':Hp}{s:Shared}{b:Addr} (I:Inv X pins σ H s) (hb:s.heap.objs.size<=b) (hn:H' b=none):FpOk X pins H' b:=by
 refine ⟨hn,Nat.ne_of_gt (Nat.lt_of_lt_of_le I.lt hb),I.nofs hb,.inr (Nat.le_trans I.sz hb),λx c e z=>?_,λp hp z=>?_⟩
 ·obtain ⟨v,q⟩:=I.cell x c e
  exact absurd (Nat.lt_of_lt_of_le q.lt (by rw [z];exact hb)) (Nat.lt_irrefl _)
 ·exact absurd (Nat.lt_of_lt_of_le (Heap.lt_size (I.pin p hp).1) (by rw [z];exact hb)) (Nat.lt_irrefl _)
structure Turn (P:Program) (w:World) (K:PySem.W.Frag) (tg:Expr) (J:It) (fp:List Addr) (it:Addr) (tn:Nat->Heap->Prop):Prop where
 mem:it∈fp
 obj:∀ i h,tn i h->∀ b∈fp,∃ o,h.get? b=some o/\∀ v,o.data ≠ .cell v
 keep:∀ i h h',tn i h->(∀ b∈fp,∀ o,h.get? b=some o->h'.get? b=some o)->tn i h'
 item:∀ (X:Cx),X.prog=P->X.w=w->X.K=K->X.calm=true->∀ (i:Nat) (pins:List (Addr×Obj)) (s:Shared) (σ:St) (H:Hp) (E:Value->Shared->Prop),Inv X pins σ H s->(∀ b∈fp,FpOk X pins H b)->tn i s.heap->J.go i H ->
  wpAny (model P w) X.A (pyNext (.ref it)) (λr s1=>∃ u,r=some u /\
   wpAny (model P w) X.A (letOwnedTupleGo tg (.ref it) u) (λ_ s2=>∃ x H',Inv X pins σ H' s2/\RelV x u/\J.yld i H x H'/\tn (i+1) s2.heap/\∀ b∈fp,H' b=none) E s1) E s
 done:∀ (X:Cx),X.prog=P->X.w=w->X.K=K->X.calm=true->∀ (i:Nat) (pins:List (Addr×Obj)) (s:Shared) (σ:St) (H:Hp) (E:Value->Shared->Prop),Inv X pins σ H s->(∀ b∈fp,FpOk X pins H b)->tn i s.heap->J.stop i H ->
  wpAny (model P w) X.A (pyNext (.ref it)) (λr s1=>r=none/\Inv X pins σ H s1) E s
 self:∀ (A:Around) (i:Nat) (s:Shared) (Q:Value->Shared->Prop) (E:Value->Shared->Prop),tn i s.heap->Q (.ref it) s->wpAny (model P w) A (pyIter (.ref it)) Q E s
abbrev TI:=St->Hp->(It->Hp->Prop)->Prop
def PIE (X:Cx) (pins:List (Addr×Obj)) (σ:St) (tg:Expr) (R:It->Hp->Prop) (itv:Value) (s2:Shared):Prop:=
 ∃ (it:Addr) (fp:List Addr) (tn:Nat->Heap->Prop) (J:It) (H':Hp),itv = .ref it/\Inv X pins σ H' s2/\Turn X.prog X.w X.K tg J fp it tn/\tn 0 s2.heap/\(∀ b∈fp,FpOk X pins H' b)/\R J H'
def PI (X:Cx) (tg iter:Expr) (wi:TI):Prop:=
 ∀ (pins:List (Addr×Obj)) (s:Shared) (σ:St) (H:Hp) (R:It->Hp->Prop),Inv X pins σ H s->wi σ H R ->
  wpAny (model X.prog X.w) X.A (eval iter X.env) (λv s1=>wpAny (model X.prog X.w) X.A (pyIter v) (PIE X pins σ tg R) X.xe s1) X.xe s
theorem go_of {M:Model}{A:Around}{E:Value->Shared->Prop}{s:Shared}{tg:Expr}{it:Addr}{u:Value}{o:Obj}{n:String}{vs:Array Value}{Q:Unit->Shared->Prop} (ho:s.heap.get? it=some o) (hc:o.cls = .type n) (hd:o.data = .fields vs)
  (hn:["enumerate","zip","dict_itemiterator","dict_reverseitemiterator","odict_iterator","itertools.zip_longest","itertools.pairwise"].contains n=false) (hQ:Q () s):wpAny M A (letOwnedTupleGo tg (.ref it) u) Q E s:=by
 unfold letOwnedTupleGo
 cases tg <;> first
  | exact wpAny_pure hQ
  | (cases u <;> first
    | exact wpAny_pure hQ
    | (refine wpAny_bind (wpAny_load ho ?_)
       rw [hc,hd]
       show wpAny M A (if (["enumerate","zip","dict_itemiterator","dict_reverseitemiterator","odict_iterator","itertools.zip_longest","itertools.pairwise"].contains n && vs[0]? == some (rawInt _))=true then _ else _) Q E s
       rw [if_neg (by intro h;rw [hn,Bool.false_and] at h;cases h)]
       exact wpAny_pure hQ))
def Itl (K:PySem.W.Frag) (a:Addr):It:=
 ⟨λi H=>∃ xs x,SqL K H a xs/\xs[i]? = some x,λi H x H'=>H' = H/\∀ xs,SqL K H a xs->xs[i]? = some x,λi H=>∃ xs,SqL K H a xs/\xs.length<=i⟩
def Itr (lo:Int) (n:Nat):It:=⟨λi _=>i<n,λi H x H'=>H' = H/\x = .int (lo+i),λi _=>n<=i⟩
theorem turn_list {P:Program}{w:World}{K:PySem.W.Frag}{tg:Expr} (a it:Addr):Turn P w K tg (Itl K a) [it] it (λi h=>h.IsListIter it a i) where
 mem:=by simp
 obj:=λi h st b hb=>by
  have e:b=it:=by simpa using hb
  subst e
  obtain ⟨o,e,c,d⟩:=st
  exact ⟨o,e,λv z=>by rw [d] at z;cases z⟩
 keep:=λi h h' st k=>st.at λo e=>k it (by simp) o e
 item:=by
  intro X hP hw hK hc i pins s σ H E I hf st hg
  subst hP hw hK
  obtain ⟨xs,x,hq,hx⟩:=hg
  obtain ⟨its,rv,p,hz⟩:=I.list hq
  obtain ⟨u,hu,ru⟩:=rv.get hx
  obtain ⟨f0,f1,f2,f3,f4,f5⟩:=hf it (by simp)
  refine wpAny_pyNext_list_item st p.isList (x:=u) (by simpa using hu) λh' st' sb=>?_
  have I1:Inv X pins σ H { s with heap:=h' }:=I.turned (t':=s.toks) (λb o hb e=>(sb.2 b hb).trans e) f0 f1 f3 f4 f5
  obtain ⟨o,e,c,d⟩:=id st'
  exact ⟨u,rfl,go_of (s:={ s with heap:=h' }) e c d (by decide) ⟨x,H,I1,ru,⟨rfl,λys hy=>by rw [I.list_inj hy hq];exact hx⟩,st',λb hb=>(hf b hb).1⟩⟩
 done:=by
  intro X hP hw hK hc i pins s σ H E I hf st hg
  subst hP hw hK
  obtain ⟨xs,hq,hx⟩:=hg
  obtain ⟨its,rv,p,hz⟩:=I.list hq
  obtain ⟨f0,f1,f2,f3,f4,f5⟩:=hf it (by simp)
  have hl:=rv.length
  exact wpAny_pyNext_list_end (I.ok.hd hc) st p.isList (by simp;lia) λh' eb=>⟨rfl,I.turned (t':=s.toks) (λb o hb e=>eb b o hb e) f0 f1 f3 f4 f5⟩
 self:=λ_ _ _ _ _ st h=>wpAny_pyIter_listiter st h
theorem turn_range {P:Program}{w:World}{K:PySem.W.Frag}{tg:Expr} (it:Addr) (lo:Int) (n:Nat):Turn P w K tg (Itr lo n) [it] it (λi h=>IsRangeIter h it (lo+(i:Nat) * 1) ((n:Int) - (i:Nat)) 1) where
 mem:=by simp
 obj:=λi h st b hb=>by
  have e:b=it:=by simpa using hb
  subst e
  exact ⟨_,st,λv z=>by
   have z':Data.fields _=Data.cell v:=z
   cases z'⟩
 keep:=λi h h' st k=>k it (by simp) _ st
 item:=by
  intro X hP hw hK hc i pins s σ H E I hf st hg
  subst hP hw hK
  obtain ⟨f0,f1,f2,f3,f4,f5⟩:=hf it (by simp)
  have W:=Walks.range (prog:=X.prog) (w:=X.w) (I.ok.hd hc) it lo 1 n
  refine W.item i s _ _ hg st λv h' tk hv st' kk=>?_
  obtain ⟨t,rfl⟩:=hv
  have I1:Inv X pins σ H { s with heap:=h',toks:=tk }:=I.turned (λb o hb e=>kk b o (by simpa using hb) e) f0 f1 f3 f4 f5
  refine ⟨_,rfl,go_of (s:={ s with heap:=h',toks:=tk }) (n:= "range_iterator") st' rfl rfl (by decide) ⟨.int (lo+i),H,I1,⟨t,?_⟩,⟨rfl,rfl⟩,st',λb hb=>(hf b hb).1⟩⟩
  rw [Int.mul_one]
 done:=by
  intro X hP hw hK hc i pins s σ H E I hf st hg
  subst hP hw hK
  obtain ⟨f0,f1,f2,f3,f4,f5⟩:=hf it (by simp)
  exact wpAny_pyNext_range_end (I.ok.hd hc) st (by have:n<=i:=hg;lia) λh' eb=>⟨rfl,I.turned (t':=s.toks) (λb o hb e=>eb b o hb e) f0 f1 f3 f4 f5⟩
 self:=λ_ _ _ _ _ st h=>wpAny_pyIter_rangeiter st h
end L2
namespace L2
open PySem PySem.Spec PyProof.Rows
section
variable {X:Cx}{tg:Expr}
def iList (K:PySem.W.Frag) (tl:TE):TI:=λσ H R=>tl σ H λx H1=>∃ a,x = .ref a/\(∃ xs,SqL K H1 a xs)/\R (Itl K a) H1
theorem pi_list {l:Expr}{tl:TE} (hl:PE X l tl):PI X tg l (iList X.K tl):=by
 intro pins s σ H R I h
 refine thn (hl pins s σ H _ I h) λv s1 ⟨x,H1,I1,r1,q1⟩=>?_
 obtain ⟨a,e,⟨xs,hq⟩,q⟩:=q1
 subst e
 cases r1
 obtain ⟨its,rv,p,hz⟩:=I1.list hq
 refine wpAny_pyIter_list p.isList ?_
 refine ⟨s1.heap.objs.size,[s1.heap.objs.size],_,_,H1,rfl,I1.kept (t':=s1.toks) λb o e=>Heap.get?_push_of_some _ e,turn_list a _,⟨_,Heap.get?_push_size _ rfl,rfl,rfl⟩,λb hb=>?_,q⟩
 have e:b=s1.heap.objs.size:=by simpa using hb
 subst e
 exact I1.fpOk (Nat.le_refl _) (I1.hok.fresh (Nat.le_refl _))
theorem range_it {pins:List (Addr×Obj)}{σ:St}{H:Hp}{s:Shared}{R:It->Hp->Prop}{E:Value->Shared->Prop}{lo hi:Int}{t u v:Tok}{tk:Nat} (I:Inv X pins σ H s) (h1 : -(2 ^ 62)<=lo) (h2:lo<2 ^ 62) (h3 : -(2 ^ 62)<=hi) (h4:hi<2 ^ 62)
  (q:R (Itr lo (hi - lo).toNat) H):wpAny (model X.prog X.w) X.A (pyIter (.ref s.heap.objs.size)) (PIE X pins σ tg R) E { s with heap:=s.heap.push { cls:=.type "range",data:=.fields #[.int lo t,.int hi u,.int 1 v] },toks:=tk }:=by
 refine wpAny_pyIter_range (IsRange.new ..) (small_one h1 h2 h3 h4) ?_
 have I1:Inv X pins σ H { s with heap:=s.heap.push { cls:=.type "range",data:=.fields #[.int lo t,.int hi u,.int 1 v] },toks:=tk }:=I.kept λb o e=>Heap.get?_push_of_some _ e
 refine ⟨(s.heap.push { cls:=.type "range",data:=.fields #[.int lo t,.int hi u,.int 1 v] }).objs.size,[(s.heap.push { cls:=.type "range",data:=.fields #[.int lo t,.int hi u,.int 1 v] }).objs.size],_,_,H,rfl,
  I1.kept (t':=tk) λb o e=>Heap.get?_push_of_some _ e,turn_range _ lo (hi - lo).toNat,?_,λb hb=>?_,q⟩
 ·have e1:lo+((0:Nat):Int) * 1=lo:=by simp
  have e2:(((hi - lo).toNat:Nat):Int) - ((0:Nat):Int)=Builtin.Range.rangeSize lo hi 1:=by rw [rangeSize_one];split <;> lia
  show IsRangeIter _ _ (lo+((0:Nat):Int) * 1) ((((hi - lo).toNat:Nat):Int) - ((0:Nat):Int)) 1
  rw [e1,e2]
  exact Heap.get?_push_size _ rfl
 ·have e:b=(s.heap.push { cls:=.type "range",data:=.fields #[.int lo t,.int hi u,.int 1 v] }).objs.size:=by simpa using hb
  subst e
  exact I1.fpOk (Nat.le_refl _) (I1.hok.fresh (Nat.le_refl _))
def iRng1 (ta:TA):TI:=λσ H R=>ta σ H λvs H1=>∃ j:Int,vs=[.int j] /\ -(2 ^ 62)<=j/\j<2 ^ 62/\R (Itr 0 j.toNat) H1
theorem pi_range1 {a:Expr}{ta:TA}{p pos:Pos} (hg:Gl X "range") (hm:X.mg "range" = none) (ha:PA X [a] ta) (hs:starEach [a] X.env=[(false,eval a X.env)]:=by rfl):PI X tg (.Call (.Name "range" p) [a] [] pos) (iRng1 ta):=by
 intro pins s σ H R I h
 refine Call_ (ld_blt I hg hm boot_range (PyProof.Rows.callWith_type1 (thn (ha pos pins s σ H _ I h) λus s1 ⟨vs,H1,I1,r1,q1⟩=>?_) hs rfl))
 obtain ⟨j,e,q1,q2,q⟩:=q1
 subst e
 cases r1 with
 | cons r rr=>
  cases rr
  obtain ⟨t,rfl⟩:=r
  exact call_range_1 (range_it I1 (by lia) (by lia) q1 q2 (by simpa using q))
def tFor (wi:TI) (g:TG) (tb:TS):TS:=λD σ H=>wi σ H λJ H1=>∃ W:Nat->Nat->St->Hp->Prop,(∃ m,W 0 m σ H1)/\∀ i m σ H,W i m σ H ->
 (J.stop i H/\D.nx σ H)\/(J.go i H/\∃ N:St->Hp->Prop,(∀ σ' H',N σ' H'->∃ m',m' < m/\W (i+1) m' σ' H')/\∀ x H',J.yld i H x H'->g x σ H' λσ2 H2=>tb { D with nx:=N,ct:=N,bk:=D.nx } σ2 H2)
def pinsAt (fp:List Addr) (h:Heap):List (Addr×Obj):=fp.filterMap λb=>(h.get? b).map λo=>(b,o)
theorem mem_pinsAt {fp:List Addr}{h:Heap}{b:Addr}{o:Obj} (hb:b∈fp) (e:h.get? b=some o):(b,o)∈pinsAt fp h:=List.mem_filterMap.mpr ⟨b,hb,by rw [e];rfl⟩
theorem of_pinsAt {fp:List Addr}{h:Heap}{p:Addr×Obj} (hp:p∈pinsAt fp h):p.1∈fp/\h.get? p.1=some p.2:=by
 obtain ⟨b,hb,e⟩:=List.mem_filterMap.mp hp
 cases q:h.get? b with
 | none=>rw [q] at e;cases e
 | some o=>
  rw [q] at e
  have e':(b,o)=p:=Option.some.inj e
  subst e'
  exact ⟨hb,q⟩
theorem Inv.pinned {pins:List (Addr×Obj)}{σ:St}{H:Hp}{s:Shared}{fp:List Addr} (I:Inv X pins σ H s) (hf:∀ b∈fp,FpOk X pins H b) (ho:∀ b∈fp,∃ o,s.heap.get? b=some o/\∀ v,o.data ≠ .cell v):Inv X (pins++pinsAt fp s.heap) σ H s:=
 I.pins_of λp hp=>(List.mem_append.mp hp).elim (λz=>I.pin p (List.mem_append_right _ z)) λz=>by
  obtain ⟨hb,e⟩:=of_pinsAt z
  obtain ⟨f0,f1,f2,_⟩:=hf p.1 hb
  obtain ⟨o,e',d⟩:=ho p.1 hb
  rw [e] at e';cases e'
  exact ⟨e,f0,f1,f2,d⟩
theorem Inv.unpinned {pins pl:List (Addr×Obj)}{σ:St}{H:Hp}{s:Shared} (I:Inv X (pins++pl) σ H s):Inv X pins σ H s:=I.pins_of λp hp=>I.pin p (List.mem_append_right _ (List.mem_append_left _ hp))
theorem ps_for {iter:Expr}{body:List Stmt}{wi:TI}{g:TG}{tb:TS}{pos:Pos} (hp:PassesOwn (model X.prog X.w) X.A X.env X.xe) (hc:X.calm=true) (hi:PI X tg iter wi) (hg:PG X tg g) (hb:PSs X body tb)
  (hs:∀ x,foldedSetIterable iter X.env x=pure x:=by intro _;rfl):PS X (.For tg iter body [] pos) (tFor wi g tb):=by
 intro pins s σ H D I h
 refine wpAny_For (thn (hi pins s σ H _ I h) λv s1 h1=>thn h1 λitv s2 h2=>?_) hs
 obtain ⟨it,fp,tn,J,H2,e,I2,T,st2,f2,W,⟨m0,w0⟩,turn⟩:=h2
 subst e
 have stat:∀ {H':Hp},(∀ b∈fp,H' b=none)->∀ b∈fp,FpOk X pins H' b:=λhn b hb=>⟨hn b hb,(f2 b hb).2⟩
 refine codeAny_forLoop_any (λn s'=>∃ i σ' H',Inv X pins σ' H' s'/\tn i s'.heap/\(∀ b∈fp,H' b=none)/\W i n σ' H') ?_ m0 ⟨0,σ,H2,I2,st2,λb hb=>(f2 b hb).1,w0⟩
 rintro n s3 ⟨i,σ3,H3,I3,st3,fr3,w3⟩
 rcases turn i n σ3 H3 w3 with ⟨stop,qn⟩ | ⟨go,N,hN,step⟩
 ·refine wpAny_passesOwn hp (thn (T.done X rfl rfl rfl hc i pins s3 σ3 H3 X.xe I3 (stat fr3) st3 stop) λr s4 ⟨hr,I4⟩=>?_)
  subst hr
  exact wpAny_execs_nil ⟨σ3,H3,I4,qn⟩
 ·refine wpAny_passesOwn hp (thn (T.item X rfl rfl rfl hc i pins s3 σ3 H3 X.xe I3 (stat fr3) st3 go) λr s4 ⟨u,hr,h4⟩=>?_)
  subst hr
  refine wpAny_passesOwn hp (thn h4 λ_ s5 ⟨x,H5,I5,r5,y5,st5,fr5⟩=>?_)
  have I5':=I5.pinned (stat fr5) (T.obj _ _ st5)
  refine wpAny_passesOwn hp (thn (hg _ s5 σ3 H5 x u _ I5' r5 (step x H5 y5)) λ_ s6 ⟨σ6,H6,I6,q6⟩=>?_)
  refine wpAny_passesOwn hp (thn (hb _ s6 σ6 H6 _ I6 q6) λf s7 q7=>?_)
  have again:∀ {σ7:St}{H7:Hp},Inv X (pins++pinsAt fp s5.heap) σ7 H7 s7->N σ7 H7->∃ m,m<n/\∃ i σ' H',Inv X pins σ' H' s7/\tn i s7.heap/\(∀ b∈fp,H' b=none)/\W i m σ' H':=λ{σ7 H7} I7 n7=>by
   obtain ⟨m',hm,w7⟩:=hN σ7 H7 n7
   refine ⟨m',hm,i+1,σ7,H7,I7.unpinned,T.keep _ _ _ st5 λb hb o e=>(I7.pin (b,o) (List.mem_append_right _ (List.mem_append_right _ (mem_pinsAt hb e)))).1,λb hb=>?_,w7⟩
   obtain ⟨o,e,d⟩:=T.obj _ _ st5 b hb
   exact (I7.pin (b,o) (List.mem_append_right _ (List.mem_append_right _ (mem_pinsAt hb e)))).2.1
  cases f with
  | next=>obtain ⟨σ7,H7,I7,n7⟩:=q7;exact again I7 n7
  | cont=>obtain ⟨σ7,H7,I7,n7⟩:=q7;exact again I7 n7
  | brk=>obtain ⟨σ7,H7,I7,q7⟩:=q7;exact ⟨σ7,H7,I7.unpinned,q7⟩
  | ret v=>obtain ⟨x7,σ7,H7,I7,r7,q7⟩:=q7;exact ⟨x7,σ7,H7,I7.unpinned,r7,q7⟩
end
theorem for_list {K:PySem.W.Frag}{a:Addr}{xs:List V}{g:TG}{tb:TS}{D:Ends}{σ:St}{H:Hp} (Pv:Nat->St->Hp->Prop) (h0:Pv 0 σ H) (hl:∀ i σ H,i<=xs.length->Pv i σ H->SqL K H a xs)
  (hs:∀ i x σ H,xs[i]? = some x->Pv i σ H->g x σ H λσ2 H2=>tb { D with nx:=Pv (i+1),ct:=Pv (i+1),bk:=D.nx } σ2 H2) (hd:∀ σ H,Pv xs.length σ H->D.nx σ H) :
  ∃ W:Nat->Nat->St->Hp->Prop,(∃ m,W 0 m σ H)/\∀ i m σ H,W i m σ H ->
   ((Itl K a).stop i H/\D.nx σ H)\/((Itl K a).go i H/\∃ N:St->Hp->Prop,(∀ σ' H',N σ' H'->∃ m',m' < m/\W (i+1) m' σ' H')/\∀ x H',(Itl K a).yld i H x H'->g x σ H' λσ2 H2=>tb { D with nx:=N,ct:=N,bk:=D.nx } σ2 H2):=by
 refine ⟨λi m σ H=>m=xs.length - i/\i<=xs.length/\Pv i σ H,⟨xs.length,by simp,Nat.zero_le _,h0⟩,?_⟩
 rintro i m σ H ⟨rfl,hi,p⟩
 have q:=hl i σ H hi p
 by_cases hlt:i<xs.length
 ·refine .inr ⟨⟨xs,xs[i],q,by simp [hlt]⟩,Pv (i+1),λσ' H' p'=>⟨xs.length - (i+1),by lia,rfl,hlt,p'⟩,λx H' y=>?_⟩
  obtain ⟨e,y⟩:=y
  subst e
  exact hs i x σ _ (y xs q) p
 ·have e:i=xs.length:=by lia
  subst e
  exact .inl ⟨⟨xs,q,Nat.le_refl _⟩,hd σ H p⟩
theorem for_range {lo:Int}{n:Nat}{g:TG}{tb:TS}{D:Ends}{σ:St}{H:Hp} (Pv:Nat->St->Hp->Prop) (h0:Pv 0 σ H)
  (hs:∀ i σ H,i<n->Pv i σ H->g (.int (lo+i)) σ H λσ2 H2=>tb { D with nx:=Pv (i+1),ct:=Pv (i+1),bk:=D.nx } σ2 H2) (hd:∀ σ H,Pv n σ H->D.nx σ H) :
  ∃ W:Nat->Nat->St->Hp->Prop,(∃ m,W 0 m σ H)/\∀ i m σ H,W i m σ H ->
   ((Itr lo n).stop i H/\D.nx σ H)\/((Itr lo n).go i H/\∃ N:St->Hp->Prop,(∀ σ' H',N σ' H'->∃ m',m' < m/\W (i+1) m' σ' H')/\∀ x H',(Itr lo n).yld i H x H'->g x σ H' λσ2 H2=>tb { D with nx:=N,ct:=N,bk:=D.nx } σ2 H2):=by
 refine ⟨λi m σ H=>m=n - i/\i<=n/\Pv i σ H,⟨n,by simp,Nat.zero_le _,h0⟩,?_⟩
 rintro i m σ H ⟨rfl,hi,p⟩
 by_cases hlt:i<n
 ·refine .inr ⟨hlt,Pv (i+1),λσ' H' p'=>⟨n - (i+1),by lia,rfl,hlt,p'⟩,λx H' y=>?_⟩
  obtain ⟨e,y⟩:=y
  subst e y
  exact hs i σ _ hlt p
 ·have e:i=n:=by lia
  subst e
  exact .inl ⟨Nat.le_refl _,hd σ H p⟩
end L2
namespace L2
open PySem PySem.Spec PyProof.Rows
abbrev R2:=V->V->Hp->VK->Prop
def OpR (X:Cx) (f:Value->Value->Sem Value) (r:R2):Prop:=
 ∀ (pins:List (Addr×Obj)) (s:Shared) (σ:St) (H:Hp) (x y:V) (v u:Value) (Q:VK),Inv X pins σ H s->RelV x v->RelV y u->r x y H Q ->
  wpAny (model X.prog X.w) X.A (f v u) (EP X pins σ Q) X.xe s
def UnR (X:Cx) (f:Value->Sem Value) (r:V->Hp->VK->Prop):Prop:=
 ∀ (pins:List (Addr×Obj)) (s:Shared) (σ:St) (H:Hp) (x:V) (v:Value) (Q:VK),Inv X pins σ H s->RelV x v->r x H Q ->
  wpAny (model X.prog X.w) X.A (f v) (EP X pins σ Q) X.xe s
def CallR (X:Cx) (f:Value) (r:List V->Hp->VK->Prop):Prop:=
 ∀ (pins:List (Addr×Obj)) (s:Shared) (σ:St) (H:Hp) (xs:List V) (us:List Value) (Q:VK),Inv X pins σ H s->Vals xs us->r xs H Q ->
  wpAny (model X.prog X.w) X.A (call f us) (EP X pins σ Q) X.xe s
def TruR (X:Cx) (r:V->Hp->(Bool->Hp->Prop)->Prop):Prop:=
 ∀ (pins:List (Addr×Obj)) (s:Shared) (σ:St) (H:Hp) (x:V) (v:Value) (Q:Bool->Hp->Prop),Inv X pins σ H s->RelV x v->r x H Q ->
  wpAny (model X.prog X.w) X.A (truthy v) (TP X pins σ Q) X.xe s
def tOp (r:R2) (ta tb:TE):TE:=λσ H Q=>ta σ H λx H1=>tb σ H1 λy H2=>r x y H2 Q
def tUn (r:V->Hp->VK->Prop) (ta:TE):TE:=λσ H Q=>ta σ H λx H1=>r x H1 Q
def rI (C:Int->Int->Prop) (g:Int->Int->V):R2:=λx y H Q=>∃ i j,x = .int i/\y = .int j/\C i j/\Q (g i j) H
def rI0 (g:Int->Int->V):R2:=λx y H Q=>∃ i j,x = .int i/\y = .int j/\Q (g i j) H
def rU (g:Int->V):V->Hp->VK->Prop:=λx H Q=>∃ i,x = .int i/\Q (g i) H
section
variable {X:Cx}{a b c:Expr}{ta tb tc:TE}{pos:Pos}
theorem binT (ha:PE X a ta) (hb:PE X b tb) {pins:List (Addr×Obj)}{s:Shared}{σ:St}{H:Hp}{R:V->V->Hp->Prop} (I:Inv X pins σ H s)
  (h:ta σ H λx H1=>tb σ H1 λy H2=>R x y H2) {Q:Value->Shared->Prop}{f:Value->Value->Sem Value}
  (hf:∀ v u s2 x y H2,Inv X pins σ H2 s2->RelV x v->RelV y u->R x y H2->wpAny (model X.prog X.w) X.A (f v u) Q X.xe s2) :
  wpAny (model X.prog X.w) X.A (eval a X.env) (λv s₁=>wpAny (model X.prog X.w) X.A (eval b X.env) (λu s₂=>wpAny (model X.prog X.w) X.A (f v u) Q X.xe s₂) X.xe s₁) X.xe s:=by
 refine thn (ha pins s σ H _ I h) λv s1 ⟨x,H1,I1,r1,q1⟩=>?_
 refine thn (hb pins s1 σ H1 _ I1 q1) λu s2 ⟨y,H2,I2,r2,q2⟩=>?_
 exact hf v u s2 x y H2 I2 r1 r2 q2
theorem pe_op {op:Operator}{r:R2} (ho:OpR X (binaryOp op) r) (ha:PE X a ta) (hb:PE X b tb):PE X (.BinOp a op b pos) (tOp r ta tb):=by
 intro pins s σ H Q I h
 exact wpAny_BinOp (binT ha hb I h λv u s2 x y H2 I2 rx ry q=>ho pins s2 σ H2 x y v u Q I2 rx ry q)
theorem pe_un {op:UnaryOp}{r:V->Hp->VK->Prop} (ho:UnR X (unaryOp op) r) (ha:PE X a ta):PE X (.UnaryOp op a pos) (tUn r ta):=by
 intro pins s σ H Q I h
 exact UnaryOp_ (thn (ha pins s σ H _ I h) λv s1 ⟨x,H1,I1,r1,q1⟩=>ho pins s1 σ H1 x v Q I1 r1 q1)
theorem opI {f:Value->Value->Sem Value}{C:Int->Int->Prop}{g:Int->Int->Int}
  (rule:∀ (i j:Int) (t u:Tok) (s:Shared) (Q:Value->Shared->Prop) (E:Value->Shared->Prop),C i j->Q (.int (g i j) s.toks) { s with toks:=s.toks+1 }->wpAny (model X.prog X.w) X.A (f (.int i t) (.int j u)) Q E s) :
  OpR X f (rI C λi j=>.int (g i j)):=by
 intro pins s σ H x y v u Q I rx ry h
 obtain ⟨i,j,rfl,rfl,hc,q⟩:=h
 obtain ⟨t,rfl⟩:=rx
 obtain ⟨t',rfl⟩:=ry
 exact rule i j t t' s _ _ hc ⟨.int (g i j),H,I.tok _,⟨_,rfl⟩,q⟩
theorem opI0 {f:Value->Value->Sem Value}{g:Int->Int->Int}
  (rule:∀ (i j:Int) (t u:Tok) (s:Shared) (Q:Value->Shared->Prop) (E:Value->Shared->Prop),Q (.int (g i j) s.toks) { s with toks:=s.toks+1 }->wpAny (model X.prog X.w) X.A (f (.int i t) (.int j u)) Q E s) :
  OpR X f (rI0 λi j=>.int (g i j)):=by
 intro pins s σ H x y v u Q I rx ry h
 obtain ⟨i,j,rfl,rfl,q⟩:=h
 obtain ⟨t,rfl⟩:=rx
 obtain ⟨t',rfl⟩:=ry
 exact rule i j t t' s _ _ ⟨.int (g i j),H,I.tok _,⟨_,rfl⟩,q⟩
theorem opB0 {f:Value->Value->Sem Value}{g:Int->Int->Bool}
  (rule:∀ (i j:Int) (t u:Tok) (s:Shared) (Q:Value->Shared->Prop) (E:Value->Shared->Prop),Q (.bool (g i j)) s->wpAny (model X.prog X.w) X.A (f (.int i t) (.int j u)) Q E s) :
  OpR X f (rI0 λi j=>.bl (g i j)):=by
 intro pins s σ H x y v u Q I rx ry h
 obtain ⟨i,j,rfl,rfl,q⟩:=h
 obtain ⟨t,rfl⟩:=rx
 obtain ⟨t',rfl⟩:=ry
 exact rule i j t t' s _ _ ⟨.bl (g i j),H,I,rfl,q⟩
def CDiv (i j:Int):Prop:=0<j/\j<1073741824
def CPow (i j:Int):Prop:=0<=j/\j<=1000000/\i.natAbs<2 ^ 64
def CMul (i j:Int):Prop:=(-(2 ^ 64)<i/\i<2 ^ 64)\/(-(2 ^ 64)<j/\j<2 ^ 64)
theorem CMul.ok {i j:Int} (h:CMul i j):IntMulOk i j:=by
 rcases h with ⟨h1,h2⟩ | ⟨h1,h2⟩
 ·exact .of_left (intBits_le_64 h1 h2)
 ·exact .of_right (intBits_le_64 h1 h2)
theorem op_add:OpR X (binaryOp .Add) (rI0 λi j=>.int (i+j)):=opI0 λ_ _ _ _ _ _ _ q=>add_int q
theorem op_sub:OpR X (binaryOp .Sub) (rI0 λi j=>.int (i - j)):=opI0 λ_ _ _ _ _ _ _ q=>sub_int q
theorem op_mul:OpR X (binaryOp .Mult) (rI CMul λi j=>.int (i * j)):=opI λ_ _ _ _ _ _ _ hc q=>mul_int q hc.ok
theorem op_fdiv:OpR X (binaryOp .FloorDiv) (rI CDiv λi j=>.int (i / j)):=opI λi j _ _ _ _ _ hc q=>by
 have h1:(0:Int)<j:=hc.1
 have h2:j<1073741824:=hc.2
 exact floordiv_int (by lia) (by rw [Int.fdiv_eq_ediv_of_nonneg i (by lia)];exact q) (.inl (PyProof.noPylong_small (by lia)))
theorem op_mod:OpR X (binaryOp .Mod) (rI (λ_ j=>0<j) λi j=>.int (i % j)):=opI λi j _ _ _ _ _ hc q=>by
 have h1:(0:Int)<j:=hc
 exact mod_int' (by lia) (by rw [Int.fmod_eq_emod_of_nonneg i (by lia)];exact q)
theorem op_pow:OpR X (binaryOp .Pow) (rI CPow λi j=>.int (i ^ j.toNat)):=opI λ_ _ _ _ _ _ _ hc q=>pow_int_small hc.1 hc.2.1 hc.2.2 q
theorem unI {f:Value->Sem Value}{g:Int->Int}
  (rule:∀ (i:Int) (t:Tok) (s:Shared) (Q:Value->Shared->Prop) (E:Value->Shared->Prop),Q (.int (g i) s.toks) { s with toks:=s.toks+1 }->wpAny (model X.prog X.w) X.A (f (.int i t)) Q E s) :
  UnR X f (rU λi=>.int (g i)):=by
 intro pins s σ H x v Q I rx h
 obtain ⟨i,rfl,q⟩:=h
 obtain ⟨t,rfl⟩:=rx
 exact rule i t s _ _ ⟨.int (g i),H,I.tok _,⟨_,rfl⟩,q⟩
theorem un_neg:UnR X (unaryOp .USub) (rU λi=>.int (-i)):=unI λ_ _ _ _ _ q=>neg_int q
end
def scal:V->V->Bool
 | .non,.non=>true | .non,.int _=>true | .int _,.non=>true | .non,.bl _=>true | .bl _,.non=>true | .non,.str _=>true | .str _,.non=>true
 | .int _,.int _=>true | .bl _,.bl _=>true | .str _,.str _=>true | .byt _,.byt _=>true
 | .int _,.str _=>true | .str _,.int _=>true | .bl _,.str _=>true | .str _,.bl _=>true
 | _,_=>false
def rEq:R2:=λx y H Q=>scal x y=true/\Q (.bl (decide (x=y))) H
def rNe:R2:=λx y H Q=>scal x y=true/\Q (.bl (!decide (x=y))) H
theorem dec_int {i j:Int}:decide (V.int i=V.int j)=(i == j):=by
 rw [Bool.eq_iff_iff]
 simp
theorem dec_bl {i j:Bool}:decide (V.bl i=V.bl j)=(i == j):=by
 rw [Bool.eq_iff_iff]
 simp
theorem dec_str {i j:Str}:decide (V.str i=V.str j)=(i == j):=by
 rw [Bool.eq_iff_iff]
 simp
theorem dec_byt {i j:Array UInt8}:decide (V.byt i=V.byt j)=(i.toList == j.toList):=by
 rw [Bool.eq_iff_iff]
 cases i
 cases j
 simp
section
variable {X:Cx}{a b c:Expr}{ta tb tc:TE}{pos:Pos}
theorem fin_bl {pins:List (Addr×Obj)}{σ:St}{H:Hp}{s:Shared}{Q:VK}{k k':Bool} (I:Inv X pins σ H s) (q:Q (.bl k) H) (e:k=k'):EP X pins σ Q (.bool k') s:=by
 subst e
 exact ⟨.bl k,H,I,rfl,q⟩
theorem op_eq:OpR X (compareOp .Eq) rEq:=by
 intro pins s σ H x y v u Q I rx ry h
 obtain ⟨hs,q⟩:=h
 cases x with
 | non=>
  cases rx
  cases y with
  | non=>cases ry;exact PySem.EqNone.eq_none_none (fin_bl I q (by simp))
  | bl j=>cases ry;exact PySem.EqNone.eq_none_bool (fin_bl I q (by simp))
  | int j=>obtain ⟨t',rfl⟩:=ry;exact PySem.EqNone.eq_none_int (fin_bl I q (by simp))
  | str j=>obtain ⟨t',rfl⟩:=ry;exact PySem.EqNone.eq_none_str (fin_bl I q (by simp))
  | _=>exact absurd (show false=true from hs) Bool.false_ne_true
 | bl i=>
  cases rx
  cases y with
  | non=>cases ry;exact PySem.EqNone.eq_bool_none (fin_bl I q (by simp))
  | bl j=>cases ry;exact eq_bool (fin_bl I q dec_bl)
  | str j=>obtain ⟨t',rfl⟩:=ry;exact PySem.EqMixed.eq_bool_str (fin_bl I q (by simp))
  | _=>exact absurd (show false=true from hs) Bool.false_ne_true
 | int i=>
  obtain ⟨t,rfl⟩:=rx
  cases y with
  | non=>cases ry;exact PySem.EqNone.eq_int_none (fin_bl I q (by simp))
  | int j=>obtain ⟨t',rfl⟩:=ry;exact eq_int (fin_bl I q dec_int)
  | str j=>obtain ⟨t',rfl⟩:=ry;exact PySem.EqMixed.eq_int_str (fin_bl I q (by simp))
  | _=>exact absurd (show false=true from hs) Bool.false_ne_true
 | str i=>
  obtain ⟨t,rfl⟩:=rx
  cases y with
  | non=>cases ry;exact PySem.EqNone.eq_str_none (fin_bl I q (by simp))
  | bl j=>cases ry;exact PySem.EqMixed.eq_str_bool (fin_bl I q (by simp))
  | int j=>obtain ⟨t',rfl⟩:=ry;exact PySem.EqMixed.eq_str_int (fin_bl I q (by simp))
  | str j=>obtain ⟨t',rfl⟩:=ry;exact eq_str (fin_bl I q dec_str)
  | _=>exact absurd (show false=true from hs) Bool.false_ne_true
 | byt i=>
  obtain ⟨t,rfl⟩:=rx
  cases y with
  | byt j=>obtain ⟨t',rfl⟩:=ry;exact PySem.W.eq_bytes (fin_bl I q dec_byt)
  | _=>exact absurd (show false=true from hs) Bool.false_ne_true
 | _=>cases y <;> exact absurd (show false=true from hs) Bool.false_ne_true
theorem op_ne:OpR X (compareOp .NotEq) rNe:=by
 intro pins s σ H x y v u Q I rx ry h
 obtain ⟨hs,q⟩:=h
 cases x with
 | non=>
  cases rx
  cases y with
  | non=>cases ry;exact PySem.EqNone.ne_none_none (fin_bl I q (by simp))
  | bl j=>cases ry;exact PySem.EqNone.ne_none_bool (fin_bl I q (by simp))
  | int j=>obtain ⟨t',rfl⟩:=ry;exact PySem.EqNone.ne_none_int (fin_bl I q (by simp))
  | str j=>obtain ⟨t',rfl⟩:=ry;exact PySem.EqNone.ne_none_str (fin_bl I q (by simp))
  | _=>exact absurd (show false=true from hs) Bool.false_ne_true
 | bl i=>
  cases rx
  cases y with
  | non=>cases ry;exact PySem.EqNone.ne_bool_none (fin_bl I q (by simp))
  | bl j=>cases ry;exact ne_bool (fin_bl I q (congrArg not dec_bl))
  | str j=>obtain ⟨t',rfl⟩:=ry;exact PySem.EqMixed.ne_bool_str (fin_bl I q (by simp))
  | _=>exact absurd (show false=true from hs) Bool.false_ne_true
 | int i=>
  obtain ⟨t,rfl⟩:=rx
  cases y with
  | non=>cases ry;exact PySem.EqNone.ne_int_none (fin_bl I q (by simp))
  | int j=>obtain ⟨t',rfl⟩:=ry;exact ne_int (fin_bl I q (congrArg not dec_int))
  | str j=>obtain ⟨t',rfl⟩:=ry;exact PySem.EqMixed.ne_int_str (fin_bl I q (by simp))
  | _=>exact absurd (show false=true from hs) Bool.false_ne_true
 | str i=>
  obtain ⟨t,rfl⟩:=rx
  cases y with
  | non=>cases ry;exact PySem.EqNone.ne_str_none (fin_bl I q (by simp))
  | bl j=>cases ry;exact PySem.EqMixed.ne_str_bool (fin_bl I q (by simp))
  | int j=>obtain ⟨t',rfl⟩:=ry;exact PySem.EqMixed.ne_str_int (fin_bl I q (by simp))
  | str j=>obtain ⟨t',rfl⟩:=ry;exact ne_str (fin_bl I q (congrArg not dec_str))
  | _=>exact absurd (show false=true from hs) Bool.false_ne_true
 | byt i=>
  obtain ⟨t,rfl⟩:=rx
  cases y with
  | byt j=>obtain ⟨t',rfl⟩:=ry;exact PySem.W.ne_bytes (fin_bl I q (congrArg not dec_byt))
  | _=>exact absurd (show false=true from hs) Bool.false_ne_true
 | _=>cases y <;> exact absurd (show false=true from hs) Bool.false_ne_true
theorem op_lt:OpR X (compareOp .Lt) (rI0 λi j=>.bl (decide (i<j))):=opB0 λ_ _ _ _ _ _ _ q=>lt_int q
theorem op_le:OpR X (compareOp .LtE) (rI0 λi j=>.bl (decide (i<=j))):=opB0 λ_ _ _ _ _ _ _ q=>le_int q
theorem op_gt:OpR X (compareOp .Gt) (rI0 λi j=>.bl (decide (j<i))):=opB0 λ_ _ _ _ _ _ _ q=>gt_int q
theorem op_ge:OpR X (compareOp .GtE) (rI0 λi j=>.bl (decide (j<=i))):=opB0 λ_ _ _ _ _ _ _ q=>ge_int q
theorem op_in_str:OpR X (compareOp .In) (λx y H Q=>∃ i j,x = .str i/\y = .str j/\Q (.bl (!(Builtin.Str.occurrences j i 0 j.length 1).isEmpty)) H):=by
 intro pins s σ H x y v u Q I rx ry h
 obtain ⟨i,j,rfl,rfl,q⟩:=h
 obtain ⟨t,rfl⟩:=rx
 obtain ⟨t',rfl⟩:=ry
 exact in_str (fin_bl I q rfl)
theorem op_isN:OpR X (compareOp .Is) (λx y H Q=>y = .non/\Q (.bl (decide (x = .non))) H):=by
 intro pins s σ H x y v u Q I rx ry h
 obtain ⟨rfl,q⟩:=h
 cases ry
 refine is_none_gen (fin_bl I q ?_)
 cases x <;> first
  | (cases rx;rfl)
  | (obtain ⟨t,rfl⟩:=rx;rfl)
theorem op_notN:OpR X (compareOp .IsNot) (λx y H Q=>y = .non/\Q (.bl (!decide (x = .non))) H):=by
 intro pins s σ H x y v u Q I rx ry h
 obtain ⟨rfl,q⟩:=h
 cases ry
 refine isnot_none_gen (fin_bl I q ?_)
 cases x <;> first
  | (cases rx;rfl)
  | (obtain ⟨t,rfl⟩:=rx;rfl)
theorem nomark (b:Expr) {op:CmpOp} (h:op ≠ .In:=by decide) (h2:op ≠ .NotIn:=by decide):behindInMarks op b=false:=by
 have e1:(op == CmpOp.In)=false:=by cases op <;> first | rfl | exact absurd rfl h
 have e2:(op == CmpOp.NotIn)=false:=by cases op <;> first | rfl | exact absurd rfl h2
 cases b <;> simp [behindInMarks,e1,e2]
theorem pe_cmpR {op:CmpOp}{r:R2} (ho:OpR X (compareOp op) r) (ha:PE X a ta) (hb:PE X b tb) (hm:behindInMarks op b=false):PE X (.Compare a [op] [b] pos) (tOp r ta tb):=by
 intro pins s σ H Q I h
 exact wpAny_Compare1 (binT ha hb I h λv u s2 x y H2 I2 rx ry q=>ho pins s2 σ H2 x y v u Q I2 rx ry q) hm
def tTest (t:TE):TT:=λσ H Q=>t σ H λx H'=>∃ k,x = .bl k/\Q k H'
theorem pt_cmpR {op:CmpOp}{r:R2} (ho:OpR X (compareOp op) r) (ha:PE X a ta) (hb:PE X b tb) (hm:behindInMarks op b=false):PT X (.Compare a [op] [b] pos) (tTest (tOp r ta tb)):=by
 intro pins s σ H Q I h
 refine wpAny_isTrue_Compare1 (thn (ha pins s σ H _ I h) λv s1 ⟨x,H1,I1,r1,q1⟩=>thn (hb pins s1 σ H1 _ I1 q1) λu s2 ⟨y,H2,I2,r2,q2⟩=>
  thn (ho pins s2 σ H2 x y v u _ I2 r1 r2 q2) λc s3 ⟨z,H3,I3,r3,k,e,q3⟩=>?_) hm
 subst e
 cases r3
 exact wpAny_truthy_bool ⟨H3,I3,q3⟩
def tChain (r r':R2) (ta tb tc:TE):TE:=λσ H Q=>ta σ H λx H1=>tb σ H1 λy H2=>r x y H2 λz H3=>∃ k,z = .bl k /\
 (if k=true then tc σ H3 λw' H4=>r' y w' H4 Q else Q (.bl false) H3)
theorem pe_chain {op op':CmpOp}{r r':R2} (ho:OpR X (compareOp op) r) (ho':OpR X (compareOp op') r') (ha:PE X a ta) (hb:PE X b tb) (hc:PE X c tc)
  (hm:lastMarks [op,op'] [b,c]=false:=by with_unfolding_all rfl):PE X (.Compare a [op,op'] [b,c] pos) (tChain r r' ta tb tc):=by
 intro pins s σ H Q I h
 refine Compare_chain (thn (ha pins s σ H _ I h) λv s1 ⟨x,H1,I1,r1,q1⟩=>chain_link (thn (hb pins s1 σ H1 _ I1 q1) λu s2 ⟨y,H2,I2,r2,q2⟩=>
  thn (ho pins s2 σ H2 x y v u _ I2 r1 r2 q2) λd s3 ⟨z,H3,I3,r3,k,e,q3⟩=>?_)) hm
 subst e
 cases r3
 refine wpAny_truthy_bool ?_
 cases k with
 | false=>exact ite_ff ⟨.bl false,H3,I3,rfl,q3⟩
 | true=>exact ite_tt (chain_last (thn (hc pins s3 σ H3 _ I3 q3) λw' s4 ⟨z',H4,I4,r4,q4⟩=>ho' pins s4 σ H4 y z' u w' Q I4 r2 r4 q4))
theorem pt_chain {op op':CmpOp}{r r':R2} (ho:OpR X (compareOp op) r) (ho':OpR X (compareOp op') r') (ha:PE X a ta) (hb:PE X b tb) (hc:PE X c tc)
  (hm:lastMarks [op,op'] [b,c]=false:=by with_unfolding_all rfl):PT X (.Compare a [op,op'] [b,c] pos) (tTest (tChain r r' ta tb tc)):=by
 intro pins s σ H Q I h
 refine isTrue_chain (thn (ha pins s σ H _ I h) λv s1 ⟨x,H1,I1,r1,q1⟩=>test_link (thn (hb pins s1 σ H1 _ I1 q1) λu s2 ⟨y,H2,I2,r2,q2⟩=>
  thn (ho pins s2 σ H2 x y v u _ I2 r1 r2 q2) λd s3 ⟨z,H3,I3,r3,k,e,q3⟩=>?_)) hm
 subst e
 cases r3
 refine wpAny_truthy_bool ?_
 cases k with
 | false=>
  obtain ⟨k',e',q'⟩:=q3
  cases e'
  exact ite_ff ⟨H3,I3,q'⟩
 | true=>
  refine ite_tt (test_last (thn (hc pins s3 σ H3 _ I3 q3) λw' s4 ⟨z',H4,I4,r4,q4⟩=>thn (ho' pins s4 σ H4 y z' u w' _ I4 r2 r4 q4) λd' s5 ⟨z2,H5,I5,r5,k2,e2,q5⟩=>?_))
  subst e2
  cases r5
  exact wpAny_truthy_bool ⟨H5,I5,q5⟩
def TruV (K:PySem.W.Frag) (x:V) (H:Hp) (k:Bool):Prop:=
 match x with
 | .non=>k=false
 | .bl b=>k=b
 | .int i=>k=(i != 0)
 | .str y=>y.length<=sizeLine/\k=((y.length:Int) != 0)
 | .byt y=>y.size<=sizeLine/\k=((y.size:Int) != 0)
 | .ref p=>(∃ xs,SqL K H p xs/\k = !xs.isEmpty)\/(∃ xs,SqT K H p xs/\k = !xs.isEmpty)\/∃ kvs,H p=some (.dK kvs)/\k = !kvs.isEmpty
 | _=>False
theorem isEmpty_kv {κ:Type}{kvs:List (κ×V)}{vs:List (κ×Value)} (r:KV kvs vs):(!vs.isEmpty) = !kvs.isEmpty:=by
 cases r <;> rfl
theorem isEmpty_of {xs:List V}{its:List Value} (r:Vals xs its):(!its.toArray.isEmpty) = !xs.isEmpty:=by
 cases r <;> simp
theorem line63:(sizeLine:Nat)<2 ^ 63:=by rw [sizeLine_eq];decide
theorem tru_ok:TruR X (λx H Q=>∃ k,TruV X.K x H k/\Q k H):=by
 intro pins s σ H x v Q I rx h
 obtain ⟨k,e,q⟩:=h
 have hl:=line63
 have hs:sizeLine=16777216:=sizeLine_eq
 cases x with
 | non=>
  cases rx
  have e':k=false:=e
  subst e'
  exact truthy_none ⟨H,I,q⟩
 | bl b=>
  cases rx
  have e':k=b:=e
  subst e'
  exact wpAny_truthy_bool ⟨H,I,q⟩
 | int i=>
  obtain ⟨t,rfl⟩:=rx
  have e':k=(i != 0):=e
  subst e'
  exact PySem.P.truthy_int ⟨H,I,q⟩
 | str y=>
  obtain ⟨t,rfl⟩:=rx
  obtain ⟨hy,e'⟩:y.length<=sizeLine/\k=((y.length:Int) != 0):=e
  subst e'
  exact PySem.P.truthy_str (by lia) ⟨H,I.tok _,q⟩
 | byt y=>
  obtain ⟨t,rfl⟩:=rx
  obtain ⟨hy,e'⟩:y.size<=sizeLine/\k=((y.size:Int) != 0):=e
  subst e'
  exact PySem.W.truthy_bytes (by lia) ⟨H,I.tok _,q⟩
 | ref p=>
  cases rx
  have e':(∃ xs,SqL X.K H p xs/\k = !xs.isEmpty)\/(∃ xs,SqT X.K H p xs/\k = !xs.isEmpty)\/∃ kvs,H p=some (.dK kvs)/\k = !kvs.isEmpty:=e
  rcases e' with ⟨xs,hx,e'⟩ | ⟨xs,hx,e'⟩ | ⟨kvs,hx,e'⟩
  ·subst e'
   obtain ⟨its,r,pl,hz⟩:=I.list hx
   have hlen:=r.length
   exact wpAny_truthy_list pl.isList (by simp only [List.size_toArray];lia) ⟨H,I.tok _,by rw [isEmpty_of r];exact q⟩
  ·subst e'
   obtain ⟨its,r,pl,hz⟩:=I.tuple hx
   have hlen:=r.length
   exact truthy_tuple pl (by simp only [List.size_toArray];lia) ⟨H,I.tok _,by rw [isEmpty_of r];exact q⟩
  ·subst e'
   obtain ⟨hz,hS,vs,r,m⟩:kvs.length<=sizeLine/\(p == sysModules)=false/\∃ vs,KV kvs vs/\s.heap.DictOf (mixKind X.prog X.w) p vs:=I.hok p _ hx
   have hlen:kvs.length=vs.length:=Paired.length r
   exact wpAny_truthy_dict hS m (by lia) ⟨H,I.tok _,by rw [isEmpty_kv r];exact q⟩
 | _=>exact (show False from e).elim
theorem op_add_str:OpR X (binaryOp .Add) (λx y H Q=>∃ i j,x = .str i/\y = .str j/\i.length+j.length<=sizeLine/\Q (.str (i++j)) H):=by
 intro pins s σ H x y v u Q I rx ry h
 obtain ⟨i,j,rfl,rfl,hz,q⟩:=h
 obtain ⟨t,rfl⟩:=rx
 obtain ⟨t',rfl⟩:=ry
 exact add_str (λt' tk=>⟨.str (i++j),H,I.tok _,⟨_,rfl⟩,q⟩) hz
theorem vals1 {x:V}{us:List Value} (r:Vals [x] us):∃ u,us=[u]/\RelV x u:=by
 cases r with
 | cons r1 r2=>cases r2;exact ⟨_,rfl,r1⟩
theorem vals2 {x y:V}{us:List Value} (r:Vals [x,y] us):∃ u w',us=[u,w']/\RelV x u/\RelV y w':=by
 cases r with
 | cons r1 r2=>
  cases r2 with
  | cons r3 r4=>cases r4;exact ⟨_,_,rfl,r1,r3⟩
theorem call_int1:CallR X (.type "int") (λxs H Q=>(∃ i,xs=[.int i]/\Q (.int i) H)\/∃ k,xs=[.bl k]/\Q (.int (if k then 1 else 0)) H):=by
 intro pins s σ H xs us Q I r h
 rcases h with ⟨i,rfl,q⟩ | ⟨k,rfl,q⟩
 ·obtain ⟨u,rfl,t,rfl⟩:=vals1 r
  exact call_int_int ⟨.int i,H,I,⟨_,rfl⟩,q⟩
 ·obtain ⟨u,rfl,r1⟩:=vals1 r
  cases r1
  exact call_int_bool ⟨.int (if k then 1 else 0),H,I.tok _,⟨_,rfl⟩,q⟩
end
end L2
namespace L2
open PySem PySem.Spec PyProof.Rows
structure ObjM (h:Heap) (x dx C:Addr) (mA:Str->Option Value):Prop where
 obj:h.get? x=some (PySem.W.instObj C dx)
 ns:h.Ns1 dx mA
 ne:dx≠x
theorem lookIn_ns {h:Heap}{dx:Addr}{mA:Str->Option Value} (n:h.Ns1 dx mA):∃ od,h.get? dx=some od/\∀ name,PySem.W.lookIn name od=some (mA name):=by
 obtain ⟨o,es,ep,ho,hd,hk,_,hm⟩:=n
 refine ⟨o,ho,λname=>?_⟩
 have e:=hm name
 unfold nsFind findBy at e
 rw [<-Array.find?_toList] at e
 unfold PySem.W.lookIn
 rw [hd]
 dsimp only
 split
 ·rename_i y q
  rw [q] at e
  exact congrArg some e
 ·rename_i q
  rw [q] at e
  have a:es.toList.any (·.refKey)=false:=by
   rw [List.any_eq_false]
   intro y hy
   obtain ⟨z,t,hkey⟩:=hk y (Array.mem_toList_iff.mp hy)
   simp [DictEntry.refKey,hkey]
  have a':¬ es.toList.any (·.refKey)=true:=by rw [a];exact Bool.false_ne_true
  rw [if_neg a']
  exact congrArg some e
theorem ObjM.look {h:Heap}{x dx C:Addr}{mA:Str->Option Value} (I:ObjM h x dx C mA):∃ od,PySem.W.InstAt h x (PySem.W.instObj C dx) C (some od)/\∀ name,PySem.W.lookIn name od=some (mA name):=
 let ⟨od,ho,hl⟩:=lookIn_ns I.ns
 ⟨od,⟨I.obj,rfl,rfl,ho⟩,hl⟩
section
variable {prog:Program}{w:World}{A:Around}{E:Value->Shared->Prop}{s:Shared}{K:PySem.W.Frag}{x dx C f:Addr}{mA:Str->Option Value}{name:Str}{v:Value}
end
section
variable {P:Program}{w:World}{H H':Hp}{h h':Heap}{a C dx:Addr}{fs fs':List (Str×V)}
theorem ins_get (hok:HOk P w H h) (e:H a=some (.ins C dx fs)):∃ mA,ObjM h a dx C mA/\(∀ f,RelO (fs.lookup f) (mA f))/\PySem.Within mA (fs.map (·.1))/\fs.length<=1000/\H dx=some (.own a):=by
 obtain ⟨d,z,ne,ob,mA,n,r,q⟩:=(show ObjOk P w H h a (.ins C dx fs) from hok a _ e)
 exact ⟨mA,⟨ob,n,ne⟩,r,q,z,d⟩
end
structure Cls (K:PySem.W.Frag) (C:Addr):Prop where
 pg:PySem.W.plainGet K C Str.empty=true
 hd:PySem.W.hasDictIn K C=true
 po:PySem.W.plainOver K C=true
 sa:PySem.W.findIn K (.ref C) "__setattr__" = some (some (.builtin "object.__setattr__"))
theorem Cls.get {K:PySem.W.Frag}{C:Addr} (c:Cls K C) (f:Str):PySem.W.plainGet K C f=true:=c.pg
structure Con (K:PySem.W.Frag) (C:Addr) (f:Str) (v:V) (u:Value):Prop where
 at_:PySem.W.findIn K (.ref C) f=some (some u)
 rel:RelV v u
 get:PySem.W.specialIn K u "__get__" = some none
 cp:PySem.W.copiedNames.contains f=false
structure Meth (K:PySem.W.Frag) (C:Addr) (m:Str) (f:Addr):Prop where
 at_:PySem.W.findIn K (.ref C) m=some (some (.ref f))
 fn:PySem.W.isFn K (.ref f)=true
 kp:PySem.W.keepIn K (.ref f)=true
section
variable {X:Cx}{pins:List (Addr×Obj)}{σ:St}{H:Hp}{s:Shared}{a C dx:Addr}{fs:List (Str×V)}{f:Str}{v:V}{A:Around}{E:Value->Shared->Prop}
end
section
variable {X:Cx}{o e value:Expr}{f:Str}{pos pos' tpos:Pos}{ta tv:TE}
end
section
variable {X:Cx}{pins:List (Addr×Obj)}{σ:St}{H:Hp}{s:Shared}{A:Around}{E:Value->Shared->Prop}{Q:Value->Shared->Prop}{c:Value}{b:Bool}
inductive TyOf (K:PySem.W.Frag) (H:Hp):V->Value->Prop where
 | non:TyOf K H .non (.type "NoneType")
 | bl (x:Bool):TyOf K H (.bl x) (.type "bool")
 | int (i:Int):TyOf K H (.int i) (.type "int")
 | str (x:Str):TyOf K H (.str x) (.type "str")
 | flt (x:UInt64):TyOf K H (.flt x) (.type "float")
 | lst {a:Addr}{xs:List V} (e:H a=some (.lst xs)):TyOf K H (.ref a) (.type "list")
 | frz {a:Addr}{o:Obj}{xs:List V} (e:H a=some (.frz o (.lst xs))):TyOf K H (.ref a) (.type "list")
 | tup {a:Addr}{xs:List V} (e:H a=some (.tup xs)):TyOf K H (.ref a) (.type "tuple")
 | dK {a:Addr}{kvs:List (Key×V)} (e:H a=some (.dK kvs)):TyOf K H (.ref a) (.type "dict")
 | dT {a:Addr}{kvs:List (List Key×V)} (e:H a=some (.dT kvs)):TyOf K H (.ref a) (.type "dict")
 | ins {a C dx:Addr}{fs:List (Str×V)} (e:H a=some (.ins C dx fs)) (cl:Cls K C) (ha:PySem.W.findIn K (.ref C) "__class__" = some (some (.builtin "object.__class__")))
   (hn:PySem.W.specialIn K (.builtin "object.__class__") "__get__" = some (some (.builtin "getset_descriptor.__get__"))) (htk:PySem.W.takesIn K (.builtin "object.__class__")=some true)
   (hm:PySem.W.mroIn K C (.type "object")=some true):TyOf K H (.ref a) (.ref C)
theorem isinst_ok {x:V}{u t:Value} (I:Inv X pins σ H s) (rx:RelV x u) (ty:TyOf X.K H x t) (e:PySem.W.kitOne X.K t c=some b) (h:∀ tk,Q (.bool b) { s with toks:=tk }) :
  wpAny (model X.prog X.w) A (call (.builtin "isinstance") [u,c]) Q E s:=by
 cases ty with
 | non=>cases (show u=Value.none from rx);exact PySem.W.kia_one PySem.W.kitx_none I.kIn True.intro e (λz=>nomatch z) h
 | bl y=>cases (show u=Value.bool y from rx);exact PySem.W.kia_one PySem.W.kitx_bool I.kIn True.intro e (λz=>nomatch z) h
 | int i=>obtain ⟨t,q⟩:=(show ∃ t,u=Value.int i t from rx);cases q;exact PySem.W.kia_one PySem.W.kitx_int I.kIn True.intro e (λz=>nomatch z) h
 | str y=>obtain ⟨t,q⟩:=(show ∃ t,u=Value.str y t from rx);cases q;exact PySem.W.kia_one PySem.W.kitx_str I.kIn True.intro e (λz=>nomatch z) h
 | flt y=>obtain ⟨t,q⟩:=(show ∃ t,u=Value.float y t from rx);cases q;exact PySem.W.kia_one PySem.W.kitx_float I.kIn True.intro e (λz=>nomatch z) h
 | @lst a xs ea=>
  cases (show u=Value.ref a from rx)
  obtain ⟨_,_,n,_,h1⟩:=(show ObjOk X.prog X.w H s.heap a (.lst xs) from I.hok a _ ea)
  exact PySem.W.kia_one PySem.W.kitx_list I.kIn ⟨_,h1,rfl⟩ e (λz=>nomatch z) h
 | @frz a ob xs ea=>
  cases (show u=Value.ref a from rx)
  obtain ⟨_,_,_,n,_,h1⟩:=(show ObjOk X.prog X.w H s.heap a (.frz ob (.lst xs)) from I.hok a _ ea)
  exact PySem.W.kia_one PySem.W.kitx_list I.kIn ⟨_,h1,rfl⟩ e (λz=>nomatch z) h
 | @tup a xs ea=>
  cases (show u=Value.ref a from rx)
  obtain ⟨_,_,_,p⟩:=(show ObjOk X.prog X.w H s.heap a (.tup xs) from I.hok a _ ea)
  obtain ⟨o,h1,h2,_⟩:=p
  exact PySem.W.kia_one PySem.W.kitx_tuple I.kIn ⟨o,h1,h2⟩ e (λz=>nomatch z) h
 | @dK a kvs ea=>
  cases (show u=Value.ref a from rx)
  obtain ⟨_,_,vs,_,p⟩:=(show ObjOk X.prog X.w H s.heap a (.dK kvs) from I.hok a _ ea)
  obtain ⟨o,es,ep,h1,h2,_⟩:=p
  exact PySem.W.kia_one PySem.W.kitx_dict I.kIn ⟨o,h1,h2.1⟩ e (λz=>nomatch z) h
 | @dT a kvs ea=>
  cases (show u=Value.ref a from rx)
  obtain ⟨_,_,xs,_,o,es,ep,h1,h2,_⟩:=(show ObjOk X.prog X.w H s.heap a (.dT kvs) from I.hok a _ ea)
  exact PySem.W.kia_one PySem.W.kitx_dict I.kIn ⟨o,h1,h2.1⟩ e (λz=>nomatch z) h
 | @ins a C dx fs ea cl ha hn htk hm=>
  cases (show u=Value.ref a from rx)
  obtain ⟨mA,O,_⟩:=ins_get I.hok ea
  obtain ⟨od,J,_⟩:=O.look
  exact PySem.W.kia_one (PySem.W.kitx_own (cl.get _) cl.hd ha hn htk hm) I.kIn J e (λz=>nomatch z) h
end
end L2
namespace L2
open PySem PySem.Spec PyProof.Rows
structure Room (k:Nat) (A:Around):Prop where
 hd:A.handled=none
 dp:A.depth+3 * k+5<recursionLimit
 un:A.units+16 * k+200<cLine
 gd:A.guards=some []
theorem Room.mono {j k:Nat}{A:Around} (r:Room k A) (h:j<=k):Room j A:=⟨r.hd,by have:=r.dp;lia,by have:=r.un;lia,r.gd⟩
theorem Room.deeper {k:Nat}{A:Around} (r:Room (k+1) A) (env:Env):Room k (A.deeper env):=
 ⟨r.hd,by have:=r.dp;show A.depth+1+3 * k+5<_;lia,by have:=r.un;show A.units+3+16 * k+200<_;lia,r.gd⟩
theorem Room.depth {k:Nat}{A:Around} (r:Room k A):A.depth<recursionLimit:=by have:=r.dp;lia
def tNil:TA:=λ_ H Q=>Q [] H
def tCons (ta:TE) (tr:TA):TA:=λσ H Q=>ta σ H λx H1=>tr σ H1 λxs H2=>Q (x::xs) H2
section
variable {X:Cx}{e:Expr}{es:List Expr}{te:TE}{t:TA}{pos:Pos}
theorem pa_nil:PA X [] tNil:=λ_ _ _ _ H Q I h=>Calls.spliced_nil ⟨[],H,I,.nil,h⟩
theorem pa_cons (ha:PE X e te) (hr:PA X es t) (hs:starEach (e::es) X.env=(false,eval e X.env)::starEach es X.env:=by rfl):PA X (e::es) (tCons te t):=by
 intro pos pins s σ H Q I h
 rw [hs]
 show wpAny _ _ (spliced ((false,eval e X.env)::backTo pos (starEach es X.env))) _ _ s
 refine Calls.spliced_cons (thn (ha pins s σ H _ I h) λu s1 ⟨x,H1,I1,r1,q1⟩=>?_)
 exact thn (hr pos pins s1 σ H1 _ I1 q1) λus s2 ⟨xs,H2,I2,r2,q2⟩=>⟨x::xs,H2,I2,.cons r1 r2,q2⟩
def tTup (t:TA):TE:=λσ H Q=>t σ H λxs H1=>xs.length<=sizeLine/\∀ p,H1 p=none->Q (.ref p) (upd H1 p (.tup xs))
def tLst (t:TA):TE:=λσ H Q=>t σ H λxs H1=>xs.length<=sizeLine/\∀ p,H1 p=none->Q (.ref p) (upd H1 p (.lst xs))
theorem pe_tup {x1} (h:PA X es t):PE X (.Tuple es x1 pos) (tTup t):=by
 intro pins s σ H Q I hq
 refine wpAny_Tuple_spliced (thn (h pos pins s σ H _ I hq) λus s1 ⟨xs,H1,I1,r,z,q⟩=>⟨by rw [<-r.length];exact z,?_⟩)
 have hf:H1 s1.heap.objs.size=none:=I1.hok.fresh (Nat.le_refl _)
 refine ⟨.ref s1.heap.objs.size,upd H1 s1.heap.objs.size (.tup xs),I1.laid (t':=s1.toks) (λb u e=>Heap.get?_push_of_some _ e) (Nat.le_refl _) ?_,rfl,q _ hf⟩
 exact ⟨z,us,r,⟨_,Heap.get?_push_size _ rfl,rfl,_,rfl⟩⟩
theorem pe_lst (h:PA X es t):PE X (.List es pos) (tLst t):=by
 intro pins s σ H Q I hq
 refine wpAny_List_spliced (thn (h pos pins s σ H _ I hq) λus s1 ⟨xs,H1,I1,r,z,q⟩=>⟨by rw [<-r.length];exact z,?_⟩)
 have hf:H1 s1.heap.objs.size=none:=I1.hok.fresh (Nat.le_refl _)
 refine ⟨.ref s1.heap.objs.size,upd H1 s1.heap.objs.size (.lst xs),I1.laid (t':=s1.toks) (λb u e=>Heap.get?_push_of_some _ e) (Nat.le_refl _) ?_,rfl,q _ hf⟩
 exact ⟨z,us,0,r,Heap.get?_push_size _ rfl⟩
end
abbrev Sp:=List V->Hp->VK->XK->Prop
abbrev CXT:=List Env->Hp->Shared->XK->Value->Shared->Prop
structure Env0 (P:Program) (w:World) (K:PySem.W.Frag) (mg:Str->Option Value) (base:Heap) (A:Around) (outer:List Env) (s:Shared) (H:Hp):Prop where
 frames:A.frames=some outer
 mod:Mod K mg base
 bs:∀ b o,base.get? b=some o->s.heap.get? b=some o/\H b=none
 bsz:base.objs.size<=s.heap.objs.size
 funs:s.heap.FunFrames base outer
 frf:∀ b∈frs outer,H b=none
 hok:HOk P w H s.heap
 bare:AllBare s.gens
def CE (outer:List Env) (P:Program) (w:World) (H:Hp) (s:Shared) (Q:VK) (u:Value) (s':Shared):Prop:=
 ∃ v H',s'.os=s.os/\AllBare s'.gens/\Un (frs outer) [] H H' s.heap s'.heap/\HOk P w H' s'.heap/\RelV v u/\Q v H'
def CR (CX:CXT) (outer:List Env) (P:Program) (w:World) (H:Hp) (s:Shared) (Q:VK) (E:XK) (r:Result) (s':Shared):Prop:=
 match r with
 | .ok (.ret u)=>CE outer P w H s Q u s'
 | .ok _=>False
 | .error e=>CX outer H s E e s'
structure FnOk (P:Program) (w:World) (K:PySem.W.Frag) (mg:Str->Option Value) (base:Heap) (CX:CXT) (k:Nat) (f:Addr) (fd:FuncData) (ps:List Str) (sp:Sp):Prop where
 len:∀ vs H Q E,sp vs H Q E->vs.length=ps.length
 run:∀ (A:Around) (outer:List Env) (s:Shared) (H:Hp) (args:Args) (us:List Value) (vs:List V) (Q:VK) (E:XK),Room k A->Env0 P w K mg base A outer s H->BindsTo s fd args (ps.zip us)->Vals vs us->sp vs H Q E ->
  codeAny (model P w) A (.call (.ref f) args) (CR CX outer P w H s Q E) s
theorem FnOk.mono {P:Program}{w:World}{K:PySem.W.Frag}{mg:Str->Option Value}{base:Heap}{CX:CXT}{j k:Nat}{f:Addr}{fd:FuncData}{ps:List Str}{sp:Sp} (F:FnOk P w K mg base CX j f fd ps sp) (h:j<=k) :
  FnOk P w K mg base CX k f fd ps sp:=⟨F.len,λA outer s H args us vs Q E hr=>F.run A outer s H args us vs Q E (hr.mono h)⟩
section
variable {X:Cx}{pins:List (Addr×Obj)}{σ:St}{H:Hp}{s s':Shared}
theorem Inv.env0 (I:Inv X pins σ H s):Env0 X.prog X.w X.K X.mg X.base X.A X.stack s H:=
 ⟨I.ok.frames,I.ok.mod,I.bs,Nat.le_trans I.ok.bsz I.sz,I.stack,I.stkFree,I.hok,I.bare⟩
theorem Inv.after {Q:VK}{u:Value} (I:Inv X pins σ H s) (h:CE X.stack X.prog X.w H s Q u s'):EP X pins σ Q u s':=by
 obtain ⟨v,H',os,bare,un,hok,r,q⟩:=h
 obtain ⟨hh,g,d,t,os'⟩:=s'
 obtain rfl:os' = s.os:=os
 exact ⟨v,H',I.call (h':=hh) (g':=g) (d':=d) (t':=t) (ch:=[]) un hok bare (λb z=>absurd z (by simp)),r,q⟩
end
def tCall (sp:Sp) (dvs:List V) (E:XK) (t:TA):TE:=λσ H Q=>t σ H λvs H1=>sp (vs++dvs) H1 Q E
def Binds (K:PySem.W.Frag) (fd:FuncData) (ps:List Str) (ds:List Value):Prop:=
 ∀ (s:Shared) (us:List Value),K.In s.heap->(us++ds).length=ps.length->BindsTo s fd ⟨us,[]⟩ (ps.zip (us++ds))
theorem Binds.all {K:PySem.W.Frag}{fd:FuncData}{ps:List Str} (h:∀ us:List Value,us.length=ps.length->bindArgs fd ⟨us,[]⟩=pure (ps.zip us)):Binds K fd ps []:=λs us _ hl=>by
 rw [List.append_nil] at hl ⊢
 exact .of_eq (h us hl)
def Passes (CX:CXT) (X:Cx) (E:XK):Prop:=∀ (pins:List (Addr×Obj)) (σ:St) (H:Hp) (s:Shared) (e:Value) (s':Shared),Inv X pins σ H s->CX X.stack H s E e s'->X.xe e s'
section
variable {X:Cx}{CX:CXT}{k:Nat}{f C:Addr}{fd:FuncData}{ps:List Str}{sp:Sp}{dvs:List V}{ds:List Value}{E:XK}{x m:Str}{p pos apos:Pos}{e o:Expr}{es:List Expr}{ta:TE}{t:TA}
theorem run_fn {pins:List (Addr×Obj)}{σ:St}{H:Hp}{s:Shared}{Q:VK}{us:List Value}{vs:List V} (F:FnOk X.prog X.w X.K X.mg X.base CX k f fd ps sp) (hr:Room k X.A) (hb:Binds X.K fd ps ds) (hd:Vals dvs ds) (hx:Passes CX X E)
  (I:Inv X pins σ H s) (r:Vals vs us) (h:sp (vs++dvs) H Q E):wpAny (model X.prog X.w) X.A (call (.ref f) us) (EP X pins σ Q) X.xe s:=by
 have r2:Vals (vs++dvs) (us++ds):=r.append hd
 have hl:(us++ds).length=ps.length:=by rw [<-r2.length];exact F.len _ _ _ _ h
 refine wpAny_call (codeAny_mono (F.run X.A X.stack s H ⟨us,[]⟩ (us++ds) (vs++dvs) Q E hr I.env0 (hb s us I.kIn hl) r2 h) λr s' hq=>?_)
 cases r with
 | error e=>exact hx pins σ H s e s' I hq
 | ok fl=>
  cases fl with
  | ret u=>exact I.after hq
  | next=>exact False.elim hq
  | brk=>exact False.elim hq
  | cont=>exact False.elim hq
theorem pe_call (F:FnOk X.prog X.w X.K X.mg X.base CX k f fd ps sp) (hr:Room k X.A) (hg:Gl X x) (hm:X.mg x=some (.ref f)) (hk:PySem.W.keepIn X.K (.ref f)=true) (hb:Binds X.K fd ps ds) (hd:Vals dvs ds) (hx:Passes CX X E)
  (ha:PA X (e::es) t) (hdb:(x == ("__debug__" : Str))=false:=by decide) (he:starEach (e::es) X.env=(false,eval e X.env)::starEach es X.env:=by rfl) (hpl:(backTo pos (starEach es X.env)).any (·.1)=false:=by rfl) :
  PE X (.Call (.Name x p) (e::es) [] pos) (tCall sp dvs E t):=by
 intro pins s σ H Q I h
 refine wpAny_Call_Name_kw (ld_glob I hg hm ?_ hdb)
 refine PySem.W.callWith_K (h₀:=X.base) I.ok.mod.kin hk (thn (ha pos pins s σ H _ I h) λus s1 ⟨vs,H1,I1,r,q⟩=>⟨I1.kIn,?_⟩) he hpl
 exact run_fn F hr hb hd hx I1 r q
theorem pe_call0 (F:FnOk X.prog X.w X.K X.mg X.base CX k f fd ps sp) (hr:Room k X.A) (hg:Gl X x) (hm:X.mg x=some (.ref f)) (hk:PySem.W.keepIn X.K (.ref f)=true) (hb:Binds X.K fd ps ds) (hd:Vals dvs ds) (hx:Passes CX X E)
  (hdb:(x == ("__debug__" : Str))=false:=by decide):PE X (.Call (.Name x p) [] [] pos) (tCall sp dvs E tNil):=by
 intro pins s σ H Q I h
 refine wpAny_Call_Name_kw (ld_glob I hg hm ?_ hdb)
 exact PySem.W.callWith_K0 I.kIn hk (run_fn (us:=[]) F hr hb hd hx I .nil h)
structure Mk (K:PySem.W.Frag) (C f:Addr):Prop where
 makes:PySem.W.makesIn K C=true
 init:PySem.W.findIn K (.ref C) "__init__" = some (some (.ref f))
 fn:PySem.W.isFn K (.ref f)=true
 kp:PySem.W.keepIn K (.ref C)=true
end
section
variable {X:Cx}{CX:CXT}{k:Nat}{f C:Addr}{fd:FuncData}{ps ks:List Str}{sp:Sp}{E:XK}{x m:Str}{p pos apos kpos:Pos}{e o:Expr}{es:List Expr}{kws:List Keyword}{te ta:TE}{t tk:TA}{nm:Option Str}
structure KBinds (K:PySem.W.Frag) (fd:FuncData) (ps ks:List Str) (g:List Value->List Value->List Value) (gV:List V->List V->List V):Prop where
 to:∀ (s:Shared) (us ws:List Value),K.In s.heap->(g us ws).length=ps.length->BindsTo s fd ⟨us,ks.zip ws⟩ (ps.zip (g us ws))
 rel:∀ {vs:List V}{us:List Value}{zs:List V}{ws:List Value},Vals vs us->Vals zs ws->Vals (gV vs zs) (g us ws)
variable {g:List Value->List Value->List Value}{gV:List V->List V->List V}
end
structure FnScope (N P:List Str) (sc:Scope):Prop where
 kind:sc.kind = .function
 co:sc.isCoroutine=false
 gen:sc.isGenerator=false
 nd:N.Nodup
 pre:N.take P.length=P
 par:∀ x∈P,sc.names.lookup x=some .local\/sc.names.lookup x=some .cell
 nofree:∀ y∈sc.names,y.2 ≠ .free
theorem bindL_out {kindOf:Str->Option NameKind}{x:Str}:∀ {binds:List (Str×Value)}{m:Str->Option Value},(∀ v,(x,v)∉binds)->bindL kindOf binds m x=m x
 | [],_,_=>rfl
 | (n,v)::r,m,h=>by
  unfold bindL
  rw [bindL_out λw hw=>h w (List.mem_cons_of_mem _ hw)]
  split
  ·have:x≠n:=by rintro rfl;exact h v List.mem_cons_self
   simp [this]
  ·rfl
theorem bindC_out {kindOf:Str->Option NameKind}{x:Str}:∀ {binds:List (Str×Value)}{m:Str->Option Value},(∀ v,(x,v)∉binds)->bindC kindOf binds m x=m x
 | [],_,_=>rfl
 | (n,v)::r,m,h=>by
  unfold bindC
  rw [bindC_out λw hw=>h w (List.mem_cons_of_mem _ hw)]
  split
  ·rfl
  ·have:x≠n:=by rintro rfl;exact h v List.mem_cons_self
   simp [this]
theorem bindL_get {kindOf:Str->Option NameKind}{x:Str}{v:Value}:∀ {P:List Str}{vs:List Value}{i:Nat}{m:Str->Option Value},P.Nodup->P[i]? = some x->vs[i]? = some v->kindOf x=some .local ->
  bindL kindOf (P.zip vs) m x=some v
 | [],_,_,_,_,h,_,_=>by simp at h
 | _::_,[],_,_,_,_,h,_=>by simp at h
 | p::P,w::vs,0,m,nd,h1,h2,hk=>by
  simp at h1 h2;subst h1;subst h2
  show bindL kindOf ((p,w)::P.zip vs) m p=_
  unfold bindL
  rw [bindL_out λv hv=>(List.nodup_cons.mp nd).1 (List.of_mem_zip hv).1,if_pos hk]
  simp
 | p::P,w::vs,i+1,m,nd,h1,h2,hk=>by
  show bindL kindOf ((p,w)::P.zip vs) m x=_
  unfold bindL
  exact bindL_get (i:=i) (List.nodup_cons.mp nd).2 (by simpa using h1) (by simpa using h2) hk
theorem bindC_get {kindOf:Str->Option NameKind}{x:Str}{v:Value}:∀ {P:List Str}{vs:List Value}{i:Nat}{m:Str->Option Value},P.Nodup->P[i]? = some x->vs[i]? = some v->kindOf x≠some .local ->
  bindC kindOf (P.zip vs) m x=some v
 | [],_,_,_,_,h,_,_=>by simp at h
 | _::_,[],_,_,_,_,h,_=>by simp at h
 | p::P,w::vs,0,m,nd,h1,h2,hk=>by
  simp at h1 h2;subst h1;subst h2
  show bindC kindOf ((p,w)::P.zip vs) m p=_
  unfold bindC
  rw [bindC_out λv hv=>(List.nodup_cons.mp nd).1 (List.of_mem_zip hv).1,if_neg hk]
  simp
 | p::P,w::vs,i+1,m,nd,h1,h2,hk=>by
  show bindC kindOf ((p,w)::P.zip vs) m x=_
  unfold bindC
  exact bindC_get (i:=i) (List.nodup_cons.mp nd).2 (by simpa using h1) (by simpa using h2) hk
def start (N:List Str) (vs:List V):St:=vs.map some++List.replicate (N.length - vs.length) none
def cxOf (CX:CXT) (P:Program) (w:World) (K:PySem.W.Frag) (mg:Str->Option Value) (base:Heap) (N:List Str) (qual:Str) (scope:Scope) (f:Addr) (cd:Value) (A:Around) (outer:List Env) (s:Shared) (H:Hp) (E:XK):Cx where
 prog:=P
 w:=w
 K:=K
 mg:=mg
 base:=base
 A:=A.deeper (envOfC qual scope s.heap.objs.size f cd)
 N:=N
 s₀:=s
 H₀:=H
 env:=envOfC qual scope s.heap.objs.size f cd
 outer:=outer
 stack:=envOfC qual scope s.heap.objs.size f cd::outer
 ex:=[]
 calm:=true
 fn:=λ_=>true
 pn:=[]
 xe:=λe s'=>wpAny (model P w) (A.deeper (envOfC qual scope s.heap.objs.size f cd)) (leaving (envOfC qual scope s.heap.objs.size f cd) e) (λ_ s''=>CX outer H s E e s'') (λe' s''=>CX outer H s E e' s'') s'
theorem cell_has {sc:Scope}{n:Nat}{x:Str} (h:sc.names.lookup x=some .cell):∃ c,(cellsFrom n sc.names []).lookup x=some c:=by
 have q:=PySem.W.cellsFrom_some sc.names n [] (.inl h)
 exact Option.isSome_iff_exists.mp q
theorem inv_start {CX:CXT}{P:Program}{w:World}{K:PySem.W.Frag}{mg:Str->Option Value}{base:Heap}{N ps:List Str}{qual:Str}{scope:Scope}{f:Addr}{cd:Value}{A:Around}{outer:List Env}{s s1:Shared}{H:Hp}{E:XK}{us:List Value}{vs:List V}
  (S:FnScope N ps scope) (hd:A.handled=none) (e0:Env0 P w K mg base A outer s H) (hl:vs.length=ps.length) (r:Vals vs us)
  (x:InCallC s s.heap.objs.size (bindL (envOfC qual scope s.heap.objs.size f cd).kindOf (ps.zip us) λ_=>none) (cellsFrom (s.heap.objs.size+1) scope.names []) (bindC (envOfC qual scope s.heap.objs.size f cd).kindOf (ps.zip us) λ_=>none) s1) :
  Inv (cxOf CX P w K mg base N qual scope f cd A outer s H E) [] (start N vs) H s1:=by
 have hpl:ps.length<=N.length:=by have:=congrArg List.length S.pre;rw [List.length_take] at this;lia
 obtain ⟨h1,tk,rfl,hk⟩:=x.done
 have noA:∀ b:Addr,b∉(cxOf CX P w K mg base N qual scope f cd A outer s H E).ex:=λb z=>absurd (show b∈([]:List Addr) from z) (by simp)
 refine ⟨⟨e0.mod,S.kind,rfl,rfl,Nat.le_refl _,λy z c h1 h2=>?_,λy hy=>?_,λy c _ h=>?_,λ_=>hd,Around.frames_deeper e0.frames,.inr ⟨rfl,rfl⟩,λb z=>absurd z (noA b),e0.bs,e0.bsz,λb _ _=>noA b,λb z=>absurd z (noA b),e0.funs,e0.frf⟩,
  rfl,e0.bare,Un.kept hk,⟨_,x.toInCall.ns,λi y v h1 h2 h3=>?_⟩,λy c h=>⟨_,x.cell y c h⟩,e0.hok.fresh (Nat.le_refl _),λy c h=>?_,λp hp=>absurd (show p∈([]:List (Addr×Obj)) from hp) (by simp),e0.hok.kept hk,?_⟩
 ·exact name_of_addr x.apart (PySem.mem_of_lookup h1) (PySem.mem_of_lookup h2)
 ·have hy:scope.names.lookup y=some .cell\/scope.names.lookup y=some .free:=hy
  rcases hy with hy | hy
  ·exact cell_has hy
  ·exact absurd rfl (S.nofree _ (PySem.mem_of_lookup hy))
 ·exact Nat.le_of_lt (x.above y c (PySem.mem_of_lookup h))
 ·have hi:i<vs.length:=by
   unfold start at h2
   by_cases hi:i<vs.length
   ·exact hi
   ·rw [List.getElem?_append_right (by simpa using hi)] at h2
    rw [List.getElem?_replicate] at h2
    split at h2 <;> cases h2
  have ha:vs[i]? = some v:=by
   unfold start at h2
   rw [List.getElem?_append_left (by simpa using hi),List.getElem?_map] at h2
   cases e:vs[i]? with
   | none=>rw [e] at h2;cases h2
   | some a=>rw [e] at h2;cases h2;rfl
  obtain ⟨u,hu,rv⟩:=r.get ha
  have hp:ps[i]? = some y:=by
   rw [<-S.pre,List.getElem?_take_of_lt (by lia)];exact h1
  have ndP:ps.Nodup:=by rw [<-S.pre];exact S.nd.sublist (List.take_sublist _ _)
  refine ⟨u,rv,?_⟩
  rcases S.par y (List.mem_of_getElem? hp) with k | k
  ·exact .inl ⟨k,bindL_get ndP hp hu k⟩
  ·obtain ⟨c,e⟩:=cell_has (n:=s.heap.objs.size+1) k
   refine .inr ⟨.inl k,c,e,?_⟩
   have q:=x.cell y c e
   rw [bindC_get ndP hp hu (by show scope.names.lookup y≠_;rw [k];decide)] at q
   exact q
 ·exact e0.hok.fresh (Nat.le_of_lt (x.above y c (PySem.mem_of_lookup h)))
 ·unfold start
  show _=N.length
  rw [List.length_append,List.length_map,List.length_replicate]
  lia
theorem fn_of {CX:CXT}{P:Program}{w:World}{K:PySem.W.Frag}{mg:Str->Option Value}{base:Heap}{k:Nat}{f:Addr}{name qual:Str}{params:Arguments}{body:List Stmt}{scope:Scope}{dV kV doc pm cdv ct oc:Value}{an od:Option Addr}
  {osl:Array (Option Value)}{N ps:List Str}{sp:Sp} (lk:K.lookup f=some ⟨oc,od,.func (PySem.W.fnOf name qual params body scope dV kV doc pm an cdv ct),osl⟩) (hcd:PySem.W.codeIn K cdv qual=true) (S:FnScope N ps scope)
  (len:∀ vs H Q E,sp vs H Q E->vs.length=ps.length)
  (hbody:∀ (A:Around) (outer:List Env) (s:Shared) (H:Hp) (vs:List V) (Q:VK) (E:XK),Room k (A.deeper (envOfC qual scope s.heap.objs.size f cdv))->sp vs H Q E ->
   ∃ t,PSs (cxOf CX P w K mg base N qual scope f cdv A outer s H E) body t/\t { nx:=λ_ H'=>Q .non H',rt:=Q } (start N vs) H) :
  FnOk P w K mg base CX (k+1) f (PySem.W.fnOf name qual params body scope dV kV doc pm an cdv ct) ps sp:=by
 refine ⟨len,λA outer s H args us vs Q E hr e0 hb r hsp=>?_⟩
 have hl:=len _ _ _ _ hsp
 have KX:K.In s.heap:=e0.mod.kin.keeps λb o e=>(e0.bs b o e).1
 have lim:s.heap.NoLimit:=e0.mod.nolimit.keeps λb o e=>(e0.bs b o e).1
 have hkind:∀ y∈ps.zip us,scope.names.lookup y.1=some .local\/(scope.names.lookup y.1=some .cell/\((cellsFrom (s.heap.objs.size+1) scope.names []).lookup y.1).isSome=true):=λ⟨n,v⟩ hy=>by
  rcases S.par n (List.of_mem_zip hy).1 with q | q
  ·exact .inl q
  ·exact .inr ⟨q,PySem.W.cellsFrom_some _ _ _ (.inl q)⟩
 refine codeAny_call_function hr.depth (KX _ _ lk) rfl S.co S.gen rfl (PySem.W.codeRec_of KX hcd) (hb _ _ _ _ ?_)
 refine wpAny_newFunctionEnv_cells S.kind hkind λenv he s1 x=>?_
 subst he
 refine ⟨lim.keeps x.toInCall.keep,codeAny_func ?_⟩
 obtain ⟨t,ht,hq⟩:=hbody A outer s H vs Q E (hr.deeper _) hsp
 have I:Inv (cxOf CX P w K mg base N qual scope f cdv A outer s H E) [] (start N vs) H s1:=inv_start S hr.hd e0 hl r x
 refine wpAny_mono (ht [] s1 (start N vs) H _ I hq) (λfl s' hs=>?_) λe s' hs=>hs
 have fin:∀ {σ':St}{H':Hp}{v:V}{u:Value},Inv (cxOf CX P w K mg base N qual scope f cdv A outer s H E) [] σ' H' s'->RelV v u->Q v H'->CE outer P w H s Q u s':=
  λ{σ' H' v u} J rv q=>⟨v,H',J.os,J.bare,J.base,J.hok,rv,q⟩
 cases fl with
 | ret u=>
  obtain ⟨v,σ',H',J,rv,q⟩:=hs
  exact fin J rv q
 | next=>
  obtain ⟨σ',H',J,q⟩:=hs
  exact fin (v:=V.non) (u:=Value.none) J rfl q
 | brk=>
  obtain ⟨_,_,_,q⟩:=hs
  exact False.elim q
 | cont=>
  obtain ⟨_,_,_,q⟩:=hs
  exact False.elim q
end L2
namespace L2
open PySem PySem.Spec PyProof.Rows
section
variable {X:Cx}{x:Str}{p pos:Pos}{e:Expr}{es:List Expr}{t:TA}{id T:String}{r:List V->Hp->VK->Prop}
def tCB (r:List V->Hp->VK->Prop) (t:TA):TE:=λσ H Q=>t σ H λvs H1=>r vs H1 Q
theorem pe_callB (hc:CallR X (.builtin id) r) (hg:Gl X x) (hm:X.mg x=none) (hv:bootBuiltins x=some (.builtin id)) (ha:PA X (e::es) t) (hn:x ≠ "__name__" :=by decide) (hdb:(x == ("__debug__" : Str))=false:=by decide)
  (he:starEach (e::es) X.env=(false,eval e X.env)::starEach es X.env:=by rfl) (hpl:(backTo pos (starEach es X.env)).any (·.1)=false:=by rfl):PE X (.Call (.Name x p) (e::es) [] pos) (tCB r t):=by
 intro pins s σ H Q I h
 refine wpAny_Call_Name_kw (ld_blt I hg hm hv ?_ hn hdb)
 exact PyProof.Rows.callWith_builtin1 (thn (ha pos pins s σ H _ I h) λus s1 ⟨vs,H1,I1,r1,q1⟩=>hc pins s1 σ H1 vs us Q I1 r1 q1) he hpl
theorem pe_callTy (hc:CallR X (.type T) r) (hg:Gl X x) (hm:X.mg x=none) (hv:bootBuiltins x=some (.type T)) (ha:PA X (e::es) t) (hn:x ≠ "__name__" :=by decide) (hdb:(x == ("__debug__" : Str))=false:=by decide)
  (he:starEach (e::es) X.env=(false,eval e X.env)::starEach es X.env:=by rfl) (hpl:(backTo pos (starEach es X.env)).any (·.1)=false:=by rfl):PE X (.Call (.Name x p) (e::es) [] pos) (tCB r t):=by
 intro pins s σ H Q I h
 refine wpAny_Call_Name_kw (ld_blt I hg hm hv ?_ hn hdb)
 exact PyProof.Rows.callWith_type1 (thn (ha pos pins s σ H _ I h) λus s1 ⟨vs,H1,I1,r1,q1⟩=>hc pins s1 σ H1 vs us Q I1 r1 q1) he hpl
end
end L2
namespace HT
open PySem PyProof.Rows
section
open PySem.SeqAt
open PySem.AutoSeq1 (wpAny_loadPart')
open PySem.MeetsSeq PySem.MeetsSeq2 PySem.MeetsSeq3
end
section
variable {prog:Program}{w:World}{A:Around}{E:Value->Shared->Prop}{s:Shared}
def sIx (n d:Nat):Option Int->Nat
 | none=>d
 | some v=>if v<0 then (v+(n:Int)).toNat else min v.toNat n
theorem sIx_none (n d:Nat):sIx n d none=d:=rfl
theorem sIx_nat (n d k:Nat):sIx n d (some (k:Int))=min k n:=by
 show (if (k:Int)<0 then ((k:Int)+(n:Int)).toNat else min (k:Int).toNat n)=min k n
 rw [if_neg (by lia),Int.toNat_natCast]
end
end HT
namespace L2
open PySem PySem.Spec PyProof.Rows
abbrev TO:=St->Hp->(Option Int->Hp->Prop)->Prop
def PO (X:Cx) (e:Option Expr) (t:TO):Prop:=
 ∀ (pins:List (Addr×Obj)) (s:Shared) (σ:St) (H:Hp) (Q:Option Int->Hp->Prop),Inv X pins σ H s->t σ H Q ->
  wpAny (model X.prog X.w) X.A (evalPart e X.env) (λu s'=>∃ o H',Inv X pins σ H' s'/\IsPart u o/\Q o H') X.xe s
def tNoPart:TO:=λ_ H Q=>Q none H
def tPart (t:TE):TO:=λσ H Q=>t σ H λx H1=>∃ i,x = .int i/\Q (some i) H1
section
variable {X:Cx}{e:Expr}{te:TE}{lo hi:Option Expr}{tl th:TO}{pos p2:Pos}
theorem po_none:PO X none tNoPart:=by
 intro pins s σ H Q I h
 rw [evalPart_none]
 exact wpAny_pure ⟨none,H,I,.none,h⟩
theorem po_some (h:PE X e te):PO X (some e) (tPart te):=by
 intro pins s σ H Q I hw
 rw [evalPart_some]
 refine thn (h pins s σ H _ I hw) λu s1 ⟨x,H1,I1,r1,q1⟩=>?_
 obtain ⟨i,rfl,q⟩:=q1
 obtain ⟨t,rfl⟩:=r1
 exact ⟨some i,H1,I1,.int i t,q⟩
def SlR (X:Cx) (r:V->Option Int->Option Int->Hp->VK->Prop):Prop:=
 ∀ (pins:List (Addr×Obj)) (s:Shared) (σ:St) (H:Hp) (x:V) (v vl vu:Value) (lo hi:Option Int) (sl:Addr) (Q:VK),Inv X pins σ H s->RelV x v->s.heap.IsSliceOf sl vl vu .none->IsPart vl lo->IsPart vu hi->r x lo hi H Q ->
  ∃ T id,typeLookup (.type T) "__getitem__" = pure (some (.builtin id))/\s.TypeIs v T/\wpAny (model X.prog X.w) X.A (getItem v (.ref sl)) (EP X pins σ Q) X.xe s
def tSl (r:V->Option Int->Option Int->Hp->VK->Prop) (te:TE) (tl th:TO):TE:=λσ H Q=>te σ H λx H1=>tl σ H1 λl H2=>th σ H2 λu H3=>r x l u H3 Q
theorem pe_slice {r:V->Option Int->Option Int->Hp->VK->Prop} (hr:SlR X r) (he:PE X e te) (hl:PO X lo tl) (hu:PO X hi th):PE X (.Subscript e (.Slice lo hi none p2) pos) (tSl r te tl th):=by
 intro pins s σ H Q I h
 refine Subscript_ (thn (he pins s σ H _ I h) λv s1 ⟨x,H1,I1,r1,q1⟩=>?_)
 refine wpAny_Slice (thn (hl pins s1 σ H1 _ I1 q1) λvl s2 ⟨l,H2,I2,pl,q2⟩=>thn (hu pins s2 σ H2 _ I2 q2) λvu s3 ⟨u,H3,I3,pu,q3⟩=>?_)
 rw [evalPart_none]
 refine wpAny_pure ?_
 have I4:Inv X pins σ H3 { s3 with heap:=s3.heap.push { cls:=.type "slice",data:=.fields #[vl,vu,.none] } }:=I3.kept (t':=s3.toks) λb ob q=>Heap.get?_push_of_some _ q
 obtain ⟨T,id,hT,ht,hg⟩:=hr pins { s3 with heap:=s3.heap.push { cls:=.type "slice",data:=.fields #[vl,vu,.none] } } σ H3 x v vl vu l u s3.heap.objs.size Q I4 r1 (Heap.IsSliceOf.new ..) pl pu q3
 show wpAny (model X.prog X.w) X.A (subscriptTail e (.Slice lo hi none p2) v (.ref s3.heap.objs.size)) (EP X pins σ Q) X.xe { s3 with heap:=s3.heap.push { cls:=.type "slice",data:=.fields #[vl,vu,.none] } }
 exact tail_any (ops:=[.ref s3.heap.objs.size,v]) ht hT hg (by with_unfolding_all rfl)
def cutV (xs:List V) (lo hi:Option Int):List V:=(xs.drop (HT.sIx xs.length 0 lo)).take (HT.sIx xs.length xs.length hi - HT.sIx xs.length 0 lo)
theorem cutV_length (xs:List V) (lo hi:Option Int):(cutV xs lo hi).length<=xs.length:=by
 unfold cutV
 rw [List.length_take,List.length_drop]
 lia
end
end L2
namespace L2
open PySem PySem.Spec PyProof.Rows
def ixN (n:Nat) (i:Int):Option Nat:=if 0<=i then (if i<n then some i.toNat else none) else if -(n:Int)<=i then some (i+n).toNat else none
def atI {α:Type} (xs:List α) (i:Int):Option α:=(ixN xs.length i).bind λj=>xs[j]?
theorem ixN_seq {n:Nat}{i:Int}{j:Nat} (h:ixN n i=some j):seqIndex? i n=some j/\j<n /\ -(n:Int)<=i/\i<n:=by
 unfold ixN at h
 by_cases h0:0<=i
 ·rw [if_pos h0] at h
  by_cases h1:i<n
  ·rw [if_pos h1] at h
   have e:i.toNat=j:=Option.some.inj h
   exact ⟨by rw [seqIndex_of h0 h1,e],by lia,by lia,h1⟩
  ·rw [if_neg h1] at h;cases h
 ·rw [if_neg h0] at h
  by_cases h1 : -(n:Int)<=i
  ·rw [if_pos h1] at h
   have e:(i+n).toNat=j:=Option.some.inj h
   exact ⟨by rw [seqIndex_neg (by lia) h1,e],by lia,h1,by lia⟩
  ·rw [if_neg h1] at h;cases h
theorem atI_get {α:Type}{xs:List α}{i:Int}{v:α} (h:atI xs i=some v):∃ j,seqIndex? i xs.length=some j/\xs[j]? = some v/\j<xs.length /\ -(xs.length:Int)<=i/\i<xs.length:=by
 unfold atI at h
 cases e:ixN xs.length i with
 | none=>rw [e] at h;cases h
 | some j=>
  rw [e] at h
  obtain ⟨h1,h2,h3,h4⟩:=ixN_seq e
  exact ⟨j,h1,h,h2,h3,h4⟩
theorem atI_nat {α:Type}{xs:List α}{j:Nat}{v:α} (h:xs[j]? = some v):atI xs (j:Int)=some v:=by
 have hj:j<xs.length:=(List.getElem?_eq_some_iff.mp h).1
 have e:ixN xs.length (j:Int)=some j:=by
  unfold ixN
  rw [if_pos (by lia),if_pos (by lia)];simp
 unfold atI;rw [e];exact h
def PlainIx (b:Expr):Prop:=∀ o i,subscripted b false o i=operate [o,i] (getItem o i)
def IxR (X:Cx) (r:R2):Prop:=
 ∀ (value slice:Expr) (pins:List (Addr×Obj)) (s:Shared) (σ:St) (H:Hp) (x y:V) (v u:Value) (Q:VK),Inv X pins σ H s->RelV x v->RelV y u->r x y H Q ->
  subscripted slice false v u=operate [v,u] (getItem v u)->wpAny (model X.prog X.w) X.A (subscriptTail value slice v u) (EP X pins σ Q) X.xe s
def MtR (X:Cx) (id:String) (r:V->List V->Hp->VK->Prop):Prop:=
 ∀ (pins:List (Addr×Obj)) (s:Shared) (σ:St) (H:Hp) (x:V) (xs:List V) (v:Value) (us:List Value) (Q:VK),Inv X pins σ H s->RelV x v->Vals xs us->r x xs H Q ->
  wpAny (model X.prog X.w) X.A (call (.builtin id) (v::us)) (EP X pins σ Q) X.xe s
section
variable {X:Cx}{a b:Expr}{ta tb:TE}{pos:Pos}
theorem pe_ix {r:R2} (hr:IxR X r) (ha:PE X a ta) (hb:PE X b tb) (hs:PlainIx b):PE X (.Subscript a b pos) (tOp r ta tb):=by
 intro pins s σ H Q I h
 exact Subscript_ (binT ha hb I h λv u s2 x y H2 I2 rx ry q=>hr a b pins s2 σ H2 x y v u Q I2 rx ry q (hs _ _))
def rIxL (K:PySem.W.Frag):R2:=λx y H Q=>∃ p xs i v,x = .ref p/\y = .int i/\SqL K H p xs/\atI xs i=some v/\Q v H
def rIxT (K:PySem.W.Frag):R2:=λx y H Q=>∃ p xs i v,x = .ref p/\y = .int i/\SqT K H p xs/\atI xs i=some v/\Q v H
def rIxS:R2:=λx y H Q=>∃ z i c,x = .str z/\y = .int i/\z.length<=sizeLine/\atI z.cps.toList i=some c/\Q (.str ⟨#[c]⟩) H
theorem ix_list:IxR X (rIxL X.K):=by
 intro value slice pins s σ H x y v u Q I rx ry h hs
 obtain ⟨p,xs,i,z,rfl,rfl,hq,he,q⟩:=h
 cases rx
 obtain ⟨t,rfl⟩:=ry
 obtain ⟨its,r,pl,hz⟩:=I.list hq
 obtain ⟨j,h1,h2,h3,h4,h5⟩:=atI_get he
 obtain ⟨w,ew,rw'⟩:=r.get h2
 have hl:=r.length
 have hn:=line63
 have fin:EP X pins σ Q w s:=⟨z,H,I,rw',q⟩
 by_cases h0:0<=i
 ·have hj:i.toNat=j:=by
   rw [seqIndex_of h0 h5] at h1
   exact Option.some.inj h1
  exact item_listR pl.isList h0 (by lia) (by rw [hj];simpa using ew) fin hs
 ·have hj:(i+(its.toArray.size:Int)).toNat=j:=by
   rw [seqIndex_neg (by lia) h4] at h1
   rw [List.size_toArray,<-hl]
   exact Option.some.inj h1
  exact subscriptTail_builtinR (x:=w) pl.isList.typeIs slot_list_getitem.lookup
   (wpAny_getItem_list_neg (Q:=λr s'=>r=w/\EP X pins σ Q r s') pl.isList (by lia) (by rw [List.size_toArray] <;> lia) (by lia) (by rw [hj];simpa using ew) ⟨rfl,fin⟩) hs
theorem ix_tup:IxR X (rIxT X.K):=by
 intro value slice pins s σ H x y v u Q I rx ry h hs
 obtain ⟨p,xs,i,z,rfl,rfl,hq,he,q⟩:=h
 cases rx
 obtain ⟨t,rfl⟩:=ry
 obtain ⟨its,r,pl,hz⟩:=I.tuple hq
 obtain ⟨j,h1,h2,h3,h4,h5⟩:=atI_get he
 obtain ⟨w,ew,rw'⟩:=r.get h2
 have hl:=r.length
 have hn:=line63
 have fin:EP X pins σ Q w s:=⟨z,H,I,rw',q⟩
 exact subscriptTail_builtinR (x:=w) pl.typeIs slot_tuple_getitem.lookup
  (getItem_tuple (j:=j) (Q:=λr s'=>r=w/\EP X pins σ Q r s') pl (by lia) (by lia) (by rw [List.size_toArray,<-hl];exact h1) (by simpa using ew) ⟨rfl,fin⟩) hs
theorem ix_str:IxR X rIxS:=by
 intro value slice pins s σ H x y v u Q I rx ry h hs
 obtain ⟨z,i,c,rfl,rfl,hz,he,q⟩:=h
 obtain ⟨t,rfl⟩:=rx
 obtain ⟨t',rfl⟩:=ry
 obtain ⟨j,h1,h2,h3,h4,h5⟩:=atI_get he
 have hl:z.cps.toList.length=z.length:=by simp [Str.length]
 rw [hl] at h1 h4 h5
 have hn:=line63
 exact tail_any (typeIs_str s z t) slot_str_getitem.lookup (getItem_str (c:=c) (by
  have e1:decide (i < -(2 ^ 63:Int))=false:=decide_eq_false (by lia)
  have e2:decide (i ≥ 2 ^ 63)=false:=decide_eq_false (by lia)
  rw [e1,e2,Bool.or_false]) (by rw [h1];simpa using h2) ⟨.str ⟨#[c]⟩,H,I.tok _,⟨_,rfl⟩,q⟩) hs
theorem mapSeq_set (its:List Value) (n j:Nat) (u:Value):Obj.mapSeq (·.setIfInBounds j u) { cls:=.type "list",data:=.seq its.toArray n }={ cls:=.type "list",data:=.seq (its.set j u).toArray n }:=by
 simp [Obj.mapSeq]
theorem Inv.lst {pins:List (Addr×Obj)}{σ:St}{H:Hp}{s:Shared}{p:Addr}{xs:List V} (I:Inv X pins σ H s) (h:H p=some (.lst xs)) :
  ∃ (its:List Value) (n:Nat),Vals xs its/\s.heap.get? p=some { cls:=.type "list",data:=.seq its.toArray n }/\xs.length<=sizeLine:=by
 obtain ⟨z,its,n,r,e⟩:=I.hok p _ h
 exact ⟨its,n,r,e,z⟩
theorem Inv.lstUpd {pins:List (Addr×Obj)}{σ:St}{H:Hp}{s:Shared}{p:Addr}{xs ys:List V}{its its':List Value}{n n':Nat}{f:Obj->Obj} (I:Inv X pins σ H s) (h:H p=some (.lst xs))
  (ho:s.heap.get? p=some { cls:=.type "list",data:=.seq its.toArray n }) (hf:f { cls:=.type "list",data:=.seq its.toArray n }={ cls:=.type "list",data:=.seq its'.toArray n' }) (r:Vals ys its') (hz:ys.length<=sizeLine) (t:Nat) :
  Inv X pins σ (upd H p (.lst ys)) { s with heap:=s.heap.update p f,toks:=t }:=by
 have e:(s.heap.update p f).get? p=some { cls:=.type "list",data:=.seq its'.toArray n' }:=by
  rw [Heap.get?_update_self f ho (by rw [hf] <;> rfl),hf]
 refine I.write (x:=p) (e:=p) (by rw [h];trivial) (.inl rfl) (λb u hb q=>(Heap.get?_update_other _ _ (Ne.symm hb)).trans q) ⟨_,e⟩ ?_
 exact ⟨hz,its',n',r,e⟩
def rSetL:V->V->V->Hp->(Hp->Prop)->Prop:=λo i v H Q=>∃ p xs k j,o = .ref p/\i = .int k/\H p=some (.lst xs)/\ixN xs.length k=some j/\Q (upd H p (.lst (xs.set j v)))
theorem set_list:PSet X rSetL:=by
 intro pins s σ H o i v ov iv u Q I ro ri rv h
 obtain ⟨p,xs,k,j,rfl,rfl,hp,hj,q⟩:=h
 cases ro
 obtain ⟨t,rfl⟩:=ri
 obtain ⟨its,n,r,ho,hz⟩:=I.lst hp
 obtain ⟨h1,h2,h3,h4⟩:=ixN_seq hj
 have hl:=r.length
 have hn:=line63
 have I':Inv X pins σ (upd H p (.lst (xs.set j v))) { s with heap:=s.heap.update p (Obj.mapSeq (·.setIfInBounds j u)) }:=
  I.lstUpd hp ho (mapSeq_set its n j u) (r.set rv j) (by rw [List.length_set];exact hz) s.toks
 by_cases h0:0<=k
 ·have hk:k.toNat=j:=by
   rw [seqIndex_of h0 h4] at h1
   exact Option.some.inj h1
  exact PySem.W.ki_setAt ho h0 (by lia) (by rw [List.size_toArray,<-hl];exact h4) (by rw [hk];exact ⟨_,I',q⟩)
 ·have hk:(k+(its.toArray.size:Int)).toNat=j:=by
   rw [seqIndex_neg (by lia) h3] at h1
   rw [List.size_toArray,<-hl]
   exact Option.some.inj h1
  exact PySem.W.ki_setBack ho (by lia) (by rw [List.size_toArray,<-hl];exact h3) (by lia) (by rw [hk];exact ⟨_,I',q⟩)
theorem slice_bounds (lo hi:Option Int) (n:Nat):(sliceBounds lo hi none n).1=((HT.sIx n 0 lo:Nat):Int)/\(sliceBounds lo hi none n).2.1=((HT.sIx n n hi:Nat):Int)/\(sliceBounds lo hi none n).2.2=1:=by
 refine ⟨?_,?_,rfl⟩
 ·cases lo with
  | none=>simp [sliceBounds,HT.sIx]
  | some i=>
   simp only [sliceBounds,HT.sIx,Option.getD_none,show (1:Int) > 0 by decide,if_true]
   by_cases h:i<0
   ·simp only [h,if_true] <;> lia
   ·simp only [h,if_false] <;> lia
 ·cases hi with
  | none=>simp [sliceBounds,HT.sIx]
  | some i=>
   simp only [sliceBounds,HT.sIx,Option.getD_none,show (1:Int) > 0 by decide,if_true]
   by_cases h:i<0
   ·simp only [h,if_true] <;> lia
   ·simp only [h,if_false] <;> lia
theorem slicePick_cut (its:List Value) (lo hi:Option Int):slicePick its.toArray lo hi none=((its.drop (HT.sIx its.length 0 lo)).take (HT.sIx its.length its.length hi - HT.sIx its.length 0 lo)).toArray:=by
 obtain ⟨h1,h2,h3⟩:=slice_bounds lo hi its.toArray.size
 unfold slicePick
 rw [h1,h2,h3]
 simp only [sliceRange_one,pick_run,List.size_toArray] <;> rfl
def rSlL (K:PySem.W.Frag):V->Option Int->Option Int->Hp->VK->Prop:=λx lo hi H Q=>∃ a xs,x = .ref a/\SqL K H a xs/\∀ p,H p=none->Q (.ref p) (upd H p (.lst (cutV xs lo hi)))
theorem sl_list:SlR X (rSlL X.K):=by
 intro pins s σ H x v vl vu lo hi sl Q I rx hs pl pu h
 obtain ⟨a,xs,rfl,hx,q⟩:=h
 cases rx
 obtain ⟨its,r,ht,hz⟩:=I.list hx
 have hlen:=r.length
 refine ⟨"list",_,slot_list_getitem.lookup,ht.isList.typeIs,?_⟩
 refine wpAny_getItem_list_slice ht.isList hs pl pu .none (by simp) ?_ (by rw [List.size_toArray] <;> lia)
 rw [slicePick_cut,<-hlen]
 refine ⟨.ref s.heap.objs.size,_,I.laid (t':=s.toks) (o:=.lst (cutV xs lo hi)) (λb ob q=>Heap.get?_push_of_some _ q) (Nat.le_refl _) ?_,rfl,q _ (I.hok.fresh (Nat.le_refl _))⟩
 exact ⟨Nat.le_trans (cutV_length xs lo hi) hz,_,0,(r.drop (HT.sIx xs.length 0 lo)).take (HT.sIx xs.length xs.length hi - HT.sIx xs.length 0 lo),Heap.get?_push_size _ rfl⟩
def flatV:V->Bool
 | .non=>true
 | .bl _=>true
 | .int _=>true
 | .str _=>true
 | _=>false
def eqV:V->V->Bool
 | .non,.non=>true
 | .bl a,.bl b=>a == b
 | .bl a,.int b=>(if a then 1 else 0) == b
 | .int a,.bl b=>a == (if b then 1 else 0)
 | .int a,.int b=>a == b
 | .str a,.str b=>a == b
 | _,_=>false
theorem eqAt_V {A:Around}{s:Shared}{y x:V}{u v:Value} (ry:RelV y u) (rx:RelV x v) (fy:flatV y=true) (fx:flatV x=true):SeqAt.EqAt A s u v (eqV y x):=by
 cases y with
 | non=>
  cases ry
  cases x with
  | non=>cases rx;exact SeqAt.EqAt.same _
  | bl b=>cases rx;exact SeqAt.EqAt.none_bool b
  | int b=>obtain ⟨t,rfl⟩:=rx;exact SeqAt.EqAt.none_int b t
  | str b=>obtain ⟨t,rfl⟩:=rx;exact SeqAt.EqAt.none_str b t
  | _=>exact absurd (show false=true from fx) Bool.false_ne_true
 | bl a=>
  cases ry
  cases x with
  | non=>cases rx;exact SeqAt.EqAt.bool_none a
  | bl b=>cases rx;exact SeqAt.EqAt.bool_bool a b
  | int b=>obtain ⟨t,rfl⟩:=rx;exact SeqAt.EqAt.bool_int a b t
  | str b=>obtain ⟨t,rfl⟩:=rx;exact SeqAt.EqAt.bool_str a b t
  | _=>exact absurd (show false=true from fx) Bool.false_ne_true
 | int a=>
  obtain ⟨t',rfl⟩:=ry
  cases x with
  | non=>cases rx;exact SeqAt.EqAt.int_none a t'
  | bl b=>cases rx;exact SeqAt.EqAt.int_bool a t' b
  | int b=>obtain ⟨t,rfl⟩:=rx;exact SeqAt.EqAt.int_int a t' b t
  | str b=>obtain ⟨t,rfl⟩:=rx;exact SeqAt.EqAt.int_str a t' b t
  | _=>exact absurd (show false=true from fx) Bool.false_ne_true
 | str a=>
  obtain ⟨t',rfl⟩:=ry
  cases x with
  | non=>cases rx;exact SeqAt.EqAt.str_none a t'
  | bl b=>cases rx;exact SeqAt.EqAt.str_bool a t' b
  | int b=>obtain ⟨t,rfl⟩:=rx;exact SeqAt.EqAt.str_int a t' b t
  | str b=>obtain ⟨t,rfl⟩:=rx;exact SeqAt.EqAt.str_str a t' b t
  | _=>exact absurd (show false=true from fx) Bool.false_ne_true
 | _=>exact absurd (show false=true from fy) Bool.false_ne_true
def eqU (x:V) (u:Value):Bool:=match u with
 | .none=>eqV .non x
 | .bool b=>eqV (.bl b) x
 | .int i _=>eqV (.int i) x
 | .str z _=>eqV (.str z) x
 | _=>false
theorem eqU_of {x y:V}{u:Value} (r:RelV y u) (f:flatV y=true):eqU x u=eqV y x:=by
 cases y with
 | non=>cases r;rfl
 | bl b=>cases r;rfl
 | int i=>obtain ⟨t,rfl⟩:=r;rfl
 | str z=>obtain ⟨t,rfl⟩:=r;rfl
 | _=>exact absurd (show false=true from f) Bool.false_ne_true
theorem any_eqU {x:V}:∀ {xs:List V}{us:List Value},Vals xs us->xs.all flatV=true->us.any (eqU x)=xs.any λy=>eqV y x
 | _,_,.nil,_=>rfl
 | y::xs,u::us,.cons r t,f=>by
  rw [List.all_cons,Bool.and_eq_true] at f
  rw [List.any_cons,List.any_cons,eqU_of r f.1,any_eqU t f.2]
theorem mem_eqAt {A:Around}{s:Shared}{x:V}{v:Value} (rx:RelV x v) (fx:flatV x=true):∀ {xs:List V}{us:List Value},Vals xs us->xs.all flatV=true->∀ u∈us,SeqAt.EqAt A s u v (eqU x u)
 | _,_,.nil,_=>λu hu=>by cases hu
 | y::xs,u::us,.cons r t,f=>λu' hu=>by
  rw [List.all_cons,Bool.and_eq_true] at f
  rcases List.mem_cons.mp hu with rfl | hu
  ·rw [eqU_of r f.1];exact eqAt_V r rx f.1 fx
  ·exact mem_eqAt rx fx t f.2 u' hu
def inV (x:V) (xs:List V):Bool:=xs.any λy=>eqV y x
def rIn (K:PySem.W.Frag) (neg:Bool):R2:=λx y H Q=>∃ p xs,y = .ref p/\(SqL K H p xs\/SqT K H p xs)/\flatV x=true/\xs.all flatV=true/\Q (.bl (if neg then !inV x xs else inV x xs)) H
theorem op_in_seq:OpR X (compareOp .In) (rIn X.K false):=by
 intro pins s σ H x y v u Q I rx ry h
 obtain ⟨p,xs,rfl,hq,fx,fs,q⟩:=h
 cases ry
 rcases hq with hq | hq
 ·obtain ⟨its,r,pl,hz⟩:=I.list hq
  refine SeqAt.in_listAt (eqU x) pl.isList (λw hw=>mem_eqAt rx fx r fs w (by simpa using hw)) ⟨.bl _,H,I,rfl,?_⟩
  rw [show its.toArray.any (eqU x)=its.any (eqU x) by simp,any_eqU r fs]
  exact q
 ·obtain ⟨its,r,pl,hz⟩:=I.tuple hq
  refine SeqAt.in_tupleAt (eqU x) pl (λw hw=>mem_eqAt rx fx r fs w (by simpa using hw)) ⟨.bl _,H,I,rfl,?_⟩
  rw [show its.toArray.any (eqU x)=its.any (eqU x) by simp,any_eqU r fs]
  exact q
theorem op_notIn_seq:OpR X (compareOp .NotIn) (rIn X.K true):=by
 intro pins s σ H x y v u Q I rx ry h
 obtain ⟨p,xs,rfl,hq,fx,fs,q⟩:=h
 cases ry
 rcases hq with hq | hq
 ·obtain ⟨its,r,pl,hz⟩:=I.list hq
  refine SeqAt.notIn_listAt (eqU x) pl.isList (λw hw=>mem_eqAt rx fx r fs w (by simpa using hw)) ⟨.bl _,H,I,rfl,?_⟩
  rw [show its.toArray.any (eqU x)=its.any (eqU x) by simp,any_eqU r fs]
  exact q
 ·obtain ⟨its,r,pl,hz⟩:=I.tuple hq
  refine SeqAt.notIn_tupleAt (eqU x) pl (λw hw=>mem_eqAt rx fx r fs w (by simpa using hw)) ⟨.bl _,H,I,rfl,?_⟩
  rw [show its.toArray.any (eqU x)=its.any (eqU x) by simp,any_eqU r fs]
  exact q
theorem call_len_seq:CallR X (.builtin "len") (λxs H Q=>∃ p ys,xs=[.ref p]/\(SqL X.K H p ys\/SqT X.K H p ys)/\Q (.int ys.length) H):=by
 intro pins s σ H xs us Q I r h
 obtain ⟨p,ys,rfl,hq,q⟩:=h
 obtain ⟨u,rfl,rx⟩:=vals1 r
 cases rx
 have hn:=line63
 rcases hq with hq | hq
 ·obtain ⟨its,r',pl,hz⟩:=I.list hq
  have hlen:=r'.length
  exact Calls.call_len_list pl.isList (by simp only [List.size_toArray] <;> lia) ⟨.int ys.length,H,I.tok _,⟨s.toks+1,by rw [List.size_toArray,hlen]⟩,q⟩
 ·obtain ⟨its,r',pl,hz⟩:=I.tuple hq
  have hlen:=r'.length
  exact len_tuple pl (by simp only [List.size_toArray] <;> lia) ⟨.int ys.length,H,I.tok _,⟨s.toks+1,by rw [List.size_toArray,hlen]⟩,q⟩
theorem call_len_str:CallR X (.builtin "len") (λxs H Q=>∃ z,xs=[.str z]/\z.length<=sizeLine/\Q (.int z.length) H):=by
 intro pins s σ H xs us Q I r h
 obtain ⟨z,rfl,hz,q⟩:=h
 obtain ⟨u,rfl,t,rfl⟩:=vals1 r
 have hn:=line63
 exact len_str (by lia) ⟨.int z.length,H,I.tok _,⟨_,rfl⟩,q⟩
theorem call_list_of:CallR X (.type "list") (λxs H Q=>∃ p ys,xs=[.ref p]/\(SqL X.K H p ys\/SqT X.K H p ys)/\∀ l,H l=none->Q (.ref l) (upd H l (.lst ys))):=by
 intro pins s σ H xs us Q I r h
 obtain ⟨p,ys,rfl,hq,q⟩:=h
 obtain ⟨u,rfl,rx⟩:=vals1 r
 cases rx
 have fin:∀ (its:List Value),Vals ys its->ys.length<=sizeLine->∀ (h':Heap) (c':Nat),(∀ b o',s.heap.get? b=some o'->h'.get? b=some o') ->
   h'.get? s.heap.objs.size=some { cls:=.type "list",dict:=none,data:=.seq its.toArray c',slots:=#[] }->EP X pins σ Q (.ref s.heap.objs.size) { s with heap:=h' }:=λits r' hz h' c' kp e=>
  ⟨.ref s.heap.objs.size,_,I.laid (t':=s.toks) kp (Nat.le_refl _) (show ObjOk X.prog X.w _ h' _ (.lst ys) from ⟨hz,its,c',r',e⟩),rfl,q _ (I.hok.fresh (Nat.le_refl _))⟩
 rcases hq with hq | hq
 ·obtain ⟨its,r',pl,hz⟩:=I.list hq
  have hlen:=r'.length
  obtain ⟨o,ho,hc,n,hd⟩:=pl.isList
  exact call_list_seq p (.inl rfl) ho hc hd (λh' c' kp e=>fin its r' hz h' c' kp e) (by simp only [List.size_toArray] <;> lia)
 ·obtain ⟨its,r',pl,hz⟩:=I.tuple hq
  have hlen:=r'.length
  obtain ⟨o,ho,hc,n,hd⟩:=pl
  exact call_list_seq p (.inr rfl) ho hc hd (λh' c' kp e=>fin its r' hz h' c' kp e) (by simp only [List.size_toArray] <;> lia)
def tyV (K:PySem.W.Frag) (T:String) (x:V) (H:Hp):Prop:=match x with
 | .str _=>T = "str"
 | .int _=>T = "int"
 | .ref p=>(T = "list" /\ ∃ xs,SqL K H p xs)\/(T = "tuple" /\ ∃ o,K.lookup p=some o/\o.cls = .type "tuple" /\ o.dict=none) \/
   (T = "dict" /\ ((∃ kvs,H p=some (.dK kvs))\/∃ kvs,H p=some (.dT kvs)))\/(T = "set" /\ ∃ S n,H p=some (.set S n))
 | _=>False
theorem tyV_is {pins:List (Addr×Obj)}{σ:St}{H:Hp}{s:Shared}{T:String}{x:V}{v:Value} (I:Inv X pins σ H s) (r:RelV x v) (ty:tyV X.K T x H) :
  s.TypeIs v T/\∀ a,v = .ref a->∃ ob,s.heap.get? a=some ob/\ob.dict=none:=by
 cases x with
 | str z=>
  obtain ⟨t,rfl⟩:=r
  cases (show T = "str" from ty)
  exact ⟨typeIs_str s z t,λ_ e=>nomatch e⟩
 | int i=>
  obtain ⟨t,rfl⟩:=r
  cases (show T = "int" from ty)
  exact ⟨typeIs_int s i t,λ_ e=>nomatch e⟩
 | ref p=>
  cases r
  rcases ty with ⟨rfl,xs,hq⟩ | ⟨rfl,o,hk,hc,hd⟩ | ⟨rfl,hk⟩ | ⟨rfl,S,n,hk⟩
  ·obtain ⟨its,_,pl,_⟩:=I.list hq
   refine ⟨pl.isList.typeIs,λa e=>?_⟩
   cases e
   obtain ⟨o,n,e,c,hd,_⟩:=pl
   exact ⟨o,e,hd⟩
  ·refine ⟨⟨o,I.kIn p o hk,hc⟩,λa e=>?_⟩
   cases e
   exact ⟨o,I.kIn _ o hk,hd⟩
  ·have z:∃ o,s.heap.get? p=some o/\o.ExactDict:=by
    rcases hk with ⟨kvs,hk⟩ | ⟨kvs,hk⟩
    ·obtain ⟨_,_,_,_,o,_,_,e,ex,_⟩:=I.hok p _ hk
     exact ⟨o,e,ex⟩
    ·obtain ⟨_,_,_,_,o,_,_,e,ex,_⟩:=I.hok p _ hk
     exact ⟨o,e,ex⟩
   obtain ⟨o,e,ex⟩:=z
   refine ⟨⟨o,e,ex.1⟩,λa e2=>?_⟩
   cases e2
   exact ⟨o,e,ex.2.1⟩
  ·obtain ⟨o,_,_,_,e,ex,_⟩:=I.hok p _ hk
   refine ⟨⟨o,e,ex.1⟩,λa e2=>?_⟩
   cases e2
   exact ⟨o,e,ex.2.1⟩
 | _=>exact False.elim ty
def tBM (K:PySem.W.Frag) (T:String) (r:V->List V->Hp->VK->Prop) (to:TE) (t:TA):TE:=λσ H Q=>to σ H λx H1=>tyV K T x H1/\t σ H1 λxs H2=>r x xs H2 Q
variable {o e:Expr}{es:List Expr}{to:TE}{t:TA}{name:Str}{apos cpos:Pos}{T id:String}{r:V->List V->Hp->VK->Prop}
theorem pe_bm (pa:PlainAttrs T) (slot:Slot T name id) (hty:typeOf (.builtin id)=pure (.type "method_descriptor")) (hm:MtR X id r) (ho:PE X o to) (ha:PA X (e::es) t)
  (hbase:attributeBase o name X.env (eval o X.env)=eval o X.env:=by rfl)
  (hfew:((backTo cpos (starEach (e::es) X.env)).all (λx=>!x.1) && (backToKw cpos (keywordEach [] X.env)).all (λx=>x.1.isSome)
   && decide ((e::es).length+([]:List Keyword).length+(if ([]:List Keyword).isEmpty then 0 else 1)<30))=true:=by rfl)
  (hline:(apos.endLine == cpos.line)=true:=by rfl) (hs:starEach (e::es) X.env=(false,eval e X.env)::starEach es X.env:=by rfl) (hplain:(backTo cpos (starEach es X.env)).any (·.1)=false:=by rfl) :
  PE X (.Call (.Attribute o name apos) (e::es) [] cpos) (tBM X.K T r to t):=by
 intro pins s σ H Q I h
 refine wpAny_Call_method_late hbase hfew hline rfl (thn (ho pins s σ H _ I h) λv s1 ⟨x,H1,I1,r1,ty,q1⟩=>?_)
 obtain ⟨h1,h2⟩:=tyV_is I1 r1 ty
 refine ⟨T,id,pa,slot,hty,h1,h2,?_⟩
 have hA:=ha cpos pins s1 σ H1 _ I1 q1
 rw [hs] at hA ⊢
 refine Calls.callWith_builtin (by show (false || (backTo cpos (starEach es X.env)).any (·.1))=false;rw [hplain] <;> rfl) (Calls.evalArgs_plain ?_)
 exact thn hA λus s2 ⟨vs,H2,I2,r2,q2⟩=>hm pins s2 σ H2 x vs v us Q I2 r1 r2 q2
end
end L2
namespace L2
open PySem PySem.Spec PyProof.Rows
def MtM (X:Cx) (id:String) (r:V->List V->Hp->VK->Prop):Prop:=
 ∀ (pins:List (Addr×Obj)) (s:Shared) (σ:St) (H:Hp) (x:V) (xs:List V) (v:Value) (us:List Value) (Q:VK),Inv X pins σ H s->RelV x v->Vals xs us->r x xs H Q ->
  wpAny (model X.prog X.w) X.A (call (.builtin id) (v::us)) (EP X pins σ Q) X.xe s
theorem Vals.one:∀ {x:V}{us:List Value},Vals [x] us->∃ u,us=[u]/\RelV x u
 | _,_,.cons r .nil=>⟨_,rfl,r⟩
theorem Vals.rep {xs:List V}{us:List Value} (h:Vals xs us):∀ k:Nat,Vals (List.replicate k xs).flatten (List.replicate k us).flatten
 | 0=>.nil
 | k+1=>by
  rw [List.replicate_succ,List.replicate_succ,List.flatten_cons,List.flatten_cons]
  exact Vals.append h (Vals.rep h k)
theorem foldl_rep (its:List Value):∀ (k:Nat) (acc:List Value),
  List.foldl (λx1 x2=>x1++x2) acc.toArray (List.replicate k its.toArray)=(acc++(List.replicate k its).flatten).toArray
 | 0,acc=>by simp
 | k+1,acc=>by
  have e:acc.toArray++its.toArray=(acc++its).toArray:=by simp
  have e2:(acc++its)++(List.replicate k its).flatten=acc++(List.replicate (k+1) its).flatten:=by
   rw [List.replicate_succ,List.flatten_cons,List.append_assoc]
  rw [<-e2,<-foldl_rep its k (acc++its),<-e,List.replicate_succ,List.foldl_cons]
section
variable {X:Cx}{pins:List (Addr×Obj)}{σ:St}{H:Hp}{s:Shared}{l b:Addr}{xs ys zs:List V}
theorem Inv.lset {its its':List Value}{n:Nat}{f:Array Value->Array Value}{t':Nat} (I:Inv X pins σ H s) (hH:H l=some (.lst xs))
  (e:s.heap.get? l=some { cls:=.type "list",data:=.seq its.toArray n }) (hf:f its.toArray=its'.toArray) (hv:Vals ys its') (hz:ys.length<=sizeLine) :
  Inv X pins σ (upd H l (.lst ys)) { s with heap:=s.heap.update l (Obj.mapSeq f),toks:=t' }:=by
 have q:=PySem.IsL.update e f
 rw [hf] at q
 refine I.write (x:=l) (e:=l) (by rw [hH];exact trivial) (.inl rfl) (λb' u hb hu=>(Heap.get?_update_other s.heap (Obj.mapSeq f) (Ne.symm hb)).trans hu) ⟨_,q⟩ ?_
 exact ⟨hz,its',_,hv,q⟩
theorem Inv.lnew {its:List Value}{t':Nat} (I:Inv X pins σ H s) (hv:Vals ys its) (hz:ys.length<=sizeLine) :
  Inv X pins σ (upd H s.heap.objs.size (.lst ys)) { s with heap:=s.heap.push { cls:=.type "list",data:=.seq its.toArray },toks:=t' }:=
 I.laid (λ_ _ q=>Heap.get?_push_of_some _ q) (Nat.le_refl _) ⟨hz,its,0,hv,Heap.get?_push_size _ rfl⟩
theorem Inv.fresh (I:Inv X pins σ H s):H s.heap.objs.size=none:=I.hok.fresh (Nat.le_refl _)
theorem Inv.lstM (I:Inv X pins σ H s) (hH:H l=some (.lst xs)):xs.length<=sizeLine/\∃ (its:List Value) (n:Nat),Vals xs its/\xs.length=its.length/\s.heap.get? l=some { cls:=.type "list",data:=.seq its.toArray n }:=by
 obtain ⟨z,its,n,r,e⟩:=I.hok l _ hH
 exact ⟨z,its,n,r,r.length,e⟩
theorem notLongL {n:Nat} (h:n<=sizeLine):Builtin.List.listTooLong n=false:=by
 unfold Builtin.List.listTooLong
 exact decide_eq_false (by lia)
end
section
variable {X:Cx}
def rAppend:V->List V->Hp->VK->Prop:=λx vs H Q=>∃ l xs y,x = .ref l/\vs=[y]/\H l=some (.lst xs)/\xs.length<sizeLine/\Q .non (upd H l (.lst (xs++[y])))
theorem mt_append:MtM X "list.append" rAppend:=by
 intro pins s σ H x vs v us Q I rx rv h
 obtain ⟨l,xs,y,rfl,rfl,hH,hz,q⟩:=h
 cases rx
 obtain ⟨u,rfl,ru⟩:=rv.one
 obtain ⟨z,its,n,r,hl,e⟩:=I.lstM hH
 refine call_meets F.slot_list_append ⟨_,e,rfl⟩ F.entry_list_append (F.args_list_append_2 _ _) (PySem.list_append l its.toArray n u (by rw [List.size_toArray];lia)) ⟨e,?_⟩
 refine ⟨.non,_,I.lset (its':=its++[u]) hH e (by simp) (r.append (.cons ru .nil)) ?_,rfl,q⟩
 rw [List.length_append,List.length_singleton]
 lia
def rRep:R2:=λx y H Q=>∃ l k xs,x = .ref l/\y = .int k/\H l=some (.lst xs) /\ -(2 ^ 63)<=k/\k<2 ^ 63/\xs.length * k.toNat<=sizeLine /\
 ∀ p,H p=none->Q (.ref p) (upd H p (.lst (List.replicate k.toNat xs).flatten))
theorem len_rep {α:Type} (xs:List α) (k:Nat):(List.replicate k xs).flatten.length=k * xs.length:=by
 induction k with
 | zero=>simp
 | succ k ih=>rw [List.replicate_succ,List.flatten_cons,List.length_append,ih,Nat.succ_mul,Nat.add_comm]
theorem op_rep:OpR X (binaryOp .Mult) rRep:=by
 intro pins s σ H x y v u Q I rx ry h
 obtain ⟨l,k,xs,rfl,rfl,hH,h1,h2,hz,q⟩:=h
 cases rx
 obtain ⟨t,rfl⟩:=ry
 obtain ⟨z,its,n,r,hl,e⟩:=I.lstM hH
 have hlen:its.toArray.size * k.toNat<=sizeLine:=by rw [List.size_toArray,<-hl];exact hz
 have hcap:¬ its.toArray.size * k.toNat > (2 ^ 63 - 1) / 8:=by
  have:(sizeLine:Nat)<=(2 ^ 63 - 1) / 8:=by decide
  lia
 have hfit:¬ (!Builtin.List.listFitsIndex k)=true:=by
  rw [fitsIndex_both h1 h2]
  exact Bool.false_ne_true
 have hlong:¬ Builtin.List.listTooLong (its.toArray.size * k.toNat)=true:=by
  rw [notLongL hlen]
  exact Bool.false_ne_true
 have hnew:List.foldl (λx1 x2=>x1++x2) #[] (List.replicate (if its.toArray.isEmpty=true then 0 else k.toNat) its.toArray)=(List.replicate k.toNat its).flatten.toArray:=by
  have f0:∀ m:Nat,List.foldl (λx1 x2=>x1++x2) #[] (List.replicate m its.toArray)=(List.replicate m its).flatten.toArray:=λm=>by
   have:=foldl_rep its m []
   rw [List.nil_append] at this
   exact this
  rw [f0]
  cases its with
  | nil=>simp
  | cons a r'=>rw [if_neg (by simp)]
 refine wpAny_binaryOp_repeat_ref (T:= "list") (U:= "int") (by decide) ⟨_,e,rfl⟩ (λs'=>typeIs_int s' k t) noFill_list_mul F.fills_int_mul F.slot_int_rmul repeat_list F.slot_int_index.lookup
  (call_meets F.slot_int_rmul (typeIs_int s k t) F.entry_int_rmul (F.args_int_rmul_2 _ _) (int___rmul___int_list k t l its.toArray n)
   ⟨e,rfl,⟨_,e,rfl⟩,call_meets F.slot_list_mul ⟨_,e,rfl⟩ F.entry_list_mul (F.args_list_mul_2 _ _) (AutoListH.list___mul___list_int_3 l its.toArray n k t hfit hcap hlong) ⟨e,?_⟩⟩)
 rw [hnew]
 exact ⟨.ref _,_,I.lnew (t':=s.toks) (r.rep k.toNat) (by rw [len_rep,Nat.mul_comm];exact hz),rfl,q _ I.fresh⟩
end
section
variable {prog:Program}{w:World}{A:Around}{E:Value->Shared->Prop}{s:Shared}
end
section
variable {X:Cx}
end
end L2
namespace Att
open PySem PySem.W PySem.Calls PyProof.Rows
theorem ints_of_wellAll {P:Params}{h:Heap}:∀ (ns:List Int) (vs:List Value),WellAll P h vs (ns.map WData.int)->IntsAre vs ns:=by
 intro ns
 induction ns with
 | nil=>
  intro vs w
  rw [List.map_nil] at w
  cases w
  exact .nil
 | cons n ns ih=>
  intro vs w
  rw [List.map_cons] at w
  cases w with
  | cons a b=>
   cases a
   exact .cons _ _ (ih _ b)
theorem script_of {l:OpenLaw}{n:Nat} (hn:l.most=some n) {P:Params}{h:Heap}{args:List WData}{vals:List Value}
  (hpre:l.row.toRowW.claim.pre args=true) (hwl:WellAll P h vals args) :
  ∃ a vs ns,vals=[Value.ref a]/\args=[WData.list (ns.map WData.int)]/\h.get? a=some { cls:=.type "list",data:=.seq vs.toArray }/\IntsAre vs ns/\ns.length<=n:=by
 have hsh:WShape.hasAll [] args [.list .int]=true:=(pre_splitW hpre).1
 have hc:l.pre.holds [] { args:=args }=true:=(pre_splitW hpre).2
 obtain ⟨d,r,rfl,h1,h2⟩:=hasAllW_cons hsh
 obtain rfl:=hasAllW_nil h2
 obtain ⟨xs,rfl,h3⟩:=hasW_list h1
 obtain ⟨ns,rfl⟩:=items_int h3
 have hlen:ns.length<=n:=by
  unfold OpenLaw.pre at hc
  have h4:(WTm.not (.lt (.lit (.int (n:Int))) (.len (.arg 0)))).holds [] { args:=[.list (ns.map .int)] }=true:=by
   have h4:=(holds_andW hc).1
   rw [hn] at h4
   exact h4
  have h5:=condW_of h4 (w_not (w_lt w_lit (w_len_list (w_arg rfl))))
  rw [List.length_map] at h5
  refine Nat.le_of_not_lt λq=>?_
  have q':(n:Int)<((ns.length:Nat):Int):=by lia
  first
   | (rw [decide_eq_true q'] at h5;exact absurd h5 (by decide))
   | (simp at h5;lia)
 cases hwl with
 | cons w1 w2=>
  cases w2
  cases w1 with
  | list ho hall=>exact ⟨_,_,ns,rfl,rfl,ho,ints_of_wellAll ns _ hall,hlen⟩
theorem post_true (l:OpenLaw) (args:List WData):l.row.toRowW.claim.post args (.bool true) args=true:=
 postW_of (r:=l.row.toRowW) (X:=(true == true))
  (show WShape.has [] (.bool true) .bool=true by first | rfl | decide | simp [WShape.has,WShape.arms,WShape.armsAll])
  (show (WTm.eq .res (.lit (.bool true))).value [] { args:=args,res:=some (.bool true),after:=args }=some (.bool (true == true)) from w_eq_bool (w_res rfl) w_lit) rfl
theorem attach_call {l:OpenLaw}{n:Nat}{q:Program}{loose:List Str}{XP:(Str->Option Value)->Heap->Prop}{YP:World->Heap->Prop}{d:DefRec}
  (hn:l.most=some n) (hdf:d.params.defaults=[])
  (call:∀ (w:World) (s₀ s₁:Shared) (mg mb:Str->Option Value) (fa:Addr) (o:Obj) (pm cd doc:Value) (a:Addr) (vs:List Value) (ns:List Int),
   Ground q loose [] XP w s₀ mg mb s₁.heap->YP w s₁.heap ->
   s₁.heap.get? fa=some o->o.data = .func (docDef d.name d.params d.body d.scope pm cd doc)->s₁.heap.CodeRec cd d.name->mg d.name=some (.ref fa) ->
   s₁.heap.get? a=some { cls:=.type "list",data:=.seq vs.toArray }->IntsAre vs ns->ns.length<=n->s₁.gens = #[] ->
   codeAny (model l.prog w) callerA (.call (.ref fa) ⟨[.ref a],[]⟩) (λr s'=>r = .ok (.ret (.bool true))/\OldK s₁.heap s'.heap/\s'.os=s₁.os/\AllBare s'.gens) s₁) :
  WalkO q loose XP YP l.row.toRowW d [] (λf vs=>PySem.call f vs):=by
 intro w s₀ s₁ mg mb G Y fa o pm cd doc dV kV ho hd hcd hD hmg hg args vals as hpre hlay hrd hwl hlo
 obtain rfl:dV = .none:=Dflts.none hD hdf
 obtain rfl:kV = .none:=Dflts.noKw hD
 obtain ⟨a,vs,ns,rfl,rfl,hobj,hints,hlen⟩:=script_of hn hpre hwl
 refine enter_call (codeAny_mono (call w s₀ s₁ mg mb fa o pm cd doc a vs ns G Y ho (fd_plain hd) hcd hmg hobj hints hlen hg) λr s' hq=>?_)
 obtain ⟨rfl,h2,h3,h4⟩:=hq
 exact ⟨.inl ⟨.bool true,.bool true,[],rfl,λ_=>rfl,.bool true,post_true l _,λ_=>⟨List.Pairwise.nil,λ_ hm=>(nomatch hm)⟩⟩,h2,h3,h4⟩
section
variable {prog:Program}{w:World}{A:Around}{E:Value->Shared->Prop}{s:Shared}{K:Frag}
end
end Att
namespace L2
open PySem PySem.Spec PyProof.Rows
theorem vals_ints:∀ {vs:List Value}{ns:List Int},IntsAre vs ns->Vals (ns.map V.int) vs
 | _,_,.nil=>.nil
 | _,_,.cons n t h=>.cons ⟨t,rfl⟩ (vals_ints h)
def Only (H:Hp):Prop:=∀ b,H b=none\/∃ o xs,H b=some (.frz o (.lst xs))
theorem law_call {P:Program}{w:World}{K:PySem.W.Frag}{mg mb:Str->Option Value}{CX:CXT}{k:Nat}{fa a:Addr}{fd:FuncData}{x:Str}{sp:Sp}{s₁:Shared}{vs:List Value}{ns:List Int}
  (KX:K.In s₁.heap) (hns:s₁.heap.Ns mainGlobals mg) (hb:s₁.heap.Ns builtinsNs mb) (hbb:∀ x:Str,x ≠ "__name__" -> mb x=bootBuiltins x) (hlim:s₁.heap.NoLimit) (hg:s₁.gens = #[])
  (ha:s₁.heap.get? a=some { cls:=.type "list",data:=.seq vs.toArray }) (hi:IntsAre vs ns) (hl:ns.length<=sizeLine) (hr:Room k callerA)
  (F:∀ base:Heap,K.In base->base.Ns mainGlobals mg->FnOk P w K mg base CX k fa fd [x] sp) (hbind:∀ (s:Shared) (u:Value),BindsTo s fd ⟨[u],[]⟩ [(x,u)])
  (hsp:∀ H:Hp,Only H->SqL K H a (ns.map V.int)->sp [.ref a] H (λv _=>v = .bl true) λ_ _ _=>False)
  (hCX:∀ H e s',CX [] H s₁ (λ_ _ _=>False) e s'->False) :
  codeAny (model P w) callerA (.call (.ref fa) ⟨[.ref a],[]⟩) (λr s'=>r = .ok (.ret (.bool true))/\OldK s₁.heap s'.heap/\s'.os=s₁.os/\AllBare s'.gens) s₁:=by
 have rv:=vals_ints hi
 have lenV:=hi.length
 have core:∀ H:Hp,Only H->SqL K H a (ns.map V.int)->HOk P w H s₁.heap->(∀ b,H b≠none->b=a)->(H a≠none->K.lookup a=none) ->
   codeAny (model P w) callerA (.call (.ref fa) ⟨[.ref a],[]⟩) (λr s'=>r = .ok (.ret (.bool true))/\OldK s₁.heap s'.heap/\s'.os=s₁.os/\AllBare s'.gens) s₁:=by
  intro H hO hS hok hA hK
  have base_of:∀ {b:Addr}{o:Obj},s₁.heap.get? b=some o->H b=none->(hidT s₁.heap H).get? b=some o:=λe n=>hidT_get e n
  have noA:∀ {b:Addr}{o:Obj}{es:Array DictEntry}{ep:Nat},s₁.heap.get? b=some o->o.data = .dict es ep->H b=none:=λ{b o es ep} e d=>by
   cases q:H b with
   | none=>rfl
   | some u=>
    have e':b=a:=hA b (by rw [q];simp)
    subst e'
    rw [ha] at e;cases e
    have d':Data.seq vs.toArray _=Data.dict es ep:=d
    cases d'
  have nsK:∀ {b:Addr}{m:Str->Option Value},s₁.heap.Ns b m->(hidT s₁.heap H).Ns b m:=λ{b m} ⟨o,es,ep,e,d,r⟩=>⟨o,es,ep,base_of e (noA e d),d,r⟩
  have hKb:K.In (hidT s₁.heap H):=λb o e=>base_of (KX b o e) (by
   cases q:H b with
   | none=>rfl
   | some u=>
    have e':b=a:=hA b (by rw [q];simp)
    subst e'
    rw [hK (by rw [q];simp)] at e;cases e)
  have hM:Mod K mg (hidT s₁.heap H):=⟨hKb,nsK hns,⟨mb,nsK hb,hbb⟩,let ⟨mc,h1,h2⟩:=hlim;⟨mc,nsK h1,h2⟩⟩
  have e0:Env0 P w K mg (hidT s₁.heap H) callerA [] s₁ H:=⟨rfl,hM,λb o e=>of_hidT e,Nat.le_of_eq (hidT_size _ _),trivial,λb hb=>absurd (show b∈([]:List Addr) from hb) (by simp),hok,.of_eq hg⟩
  refine codeAny_mono ((F _ hKb (nsK hns)).run callerA [] s₁ H ⟨[.ref a],[]⟩ [.ref a] [.ref a] _ _ hr e0 (hbind s₁ (.ref a)) (.cons rfl .nil) (hsp H hO hS)) λr s' h=>?_
  cases r with
  | error e=>exact (hCX H e s' h).elim
  | ok fl=>
   cases fl with
   | next=>exact False.elim h
   | brk=>exact False.elim h
   | cont=>exact False.elim h
   | ret u=>
    obtain ⟨v,H',os,bare,un,hok',r',q⟩:=h
    have q':v = .bl true:=q
    subst q'
    obtain rfl:u=Value.bool true:=r'
    refine ⟨rfl,OldK.of_keep λb o e=>?_,os,bare⟩
    cases q:H b with
    | none=>exact un.keep b o e q (by intro z;exact absurd (show b∈([]:List Addr) from z) (by simp)) (by simp)
    | some u=>
     rcases hO b with z | ⟨ob,xs,z⟩
     ·rw [q] at z;cases z
     ·have z2:=un.frzs b ob _ z
      obtain ⟨e1,_⟩:=hok b _ z
      obtain ⟨e2,_⟩:=hok' b _ z2
      rw [e] at e1;cases e1
      exact e2
 cases hk:K.lookup a with
 | some o=>
  have e:=KX a o hk
  rw [ha] at e
  cases e
  refine core (λ_=>none) (λ_=>.inl rfl) (.inr ⟨_,vs.toArray,_,hk,rfl,rfl,rfl,by rw [List.size_toArray,lenV];exact hl,by simpa using rv⟩) (λb u z=>by have z':(none:Option HO)=some u:=z;cases z') (λb z=>absurd rfl z) λz=>absurd rfl z
 | none=>
  refine core (λb=>if b=a then some (.frz { cls:=.type "list",data:=.seq vs.toArray } (.lst (ns.map V.int))) else none) (λb=>?_) (.inl (.inr ⟨{ cls:=.type "list",data:=.seq vs.toArray },if_pos rfl⟩)) (λb u z=>?_) (λb z=>?_) λ_=>hk
  ·by_cases hb:b=a
   ·exact .inr ⟨_,_,if_pos hb⟩
   ·exact .inl (if_neg hb)
  ·by_cases hb:b=a
   ·have z':=(if_pos hb).symm.trans z
    cases z'
    subst hb
    exact ⟨ha,by rw [List.length_map];exact hl,vs,_,rv,ha⟩
   ·have z':=(if_neg hb).symm.trans z
    cases z'
  ·by_cases hb:b=a
   ·exact hb
   ·exact absurd (if_neg hb) z
end L2
namespace L2
open PySem PySem.Spec PyProof.Rows
theorem walk_of {l:PySem.W.OpenLaw}{n k:Nat}{q:Program}{loose:List Str}{XP:(Str->Option Value)->Heap->Prop}{YP:World->Heap->Prop}{d:DefRec}{K:Params->PySem.W.Frag}{CX:World->CXT}{sp:World->Sp}{x:Str}
  (hn:l.most=some n) (hn2:n<=sizeLine) (hdf:d.params.defaults=[]) (hr:Room k callerA)
  (hY:∀ (w:World) (h:Heap),YP w h->(K w.params).In h)
  (F:∀ (w:World) (mg:Str->Option Value) (fa:Addr) (h:Heap),(K w.params).In h->h.Ns mainGlobals mg->mg d.name=some (.ref fa) ->
   ∃ fd:FuncData,(∀ (s:Shared) (u:Value),BindsTo s fd ⟨[u],[]⟩ [(x,u)]) /\
    ∀ base:Heap,(K w.params).In base->base.Ns mainGlobals mg->FnOk l.prog w (K w.params) mg base (CX w) k fa fd [x] (sp w))
  (hsp:∀ (w:World) (H:Hp) (a:Addr) (ns:List Int),ns.length<=n->Only H->SqL (K w.params) H a (ns.map V.int)->sp w [.ref a] H (λv _=>v = .bl true) λ_ _ _=>False)
  (hCX:∀ (w:World) (H:Hp) (s:Shared) (e:Value) (s':Shared),CX w [] H s (λ_ _ _=>False) e s'->False) :
  PySem.W.WalkO q loose XP YP l.row.toRowW d [] (λf vs=>PySem.call f vs):=by
 refine Att.attach_call hn hdf λw s₀ s₁ mg mb fa o pm cd doc a vs ns G Y ho hd hcd hmg hobj hints hlen hg=>?_
 have KX:=hY w _ Y
 obtain ⟨fd,hb,hF⟩:=F w mg fa _ KX G.T.g hmg
 exact law_call KX G.T.g G.T.b G.T.builtins G.T.nolimit hg hobj hints (Nat.le_trans hlen hn2) hr hF hb (λH hO hS=>hsp w H a ns hlen hO hS) λH e s'=>hCX w H s₁ e s'
end L2
namespace L2
open PySem PySem.Spec PyProof.Rows
abbrev CX0:CXT:=λ_ _ _ _ _ _=>False
abbrev E0:XK:=λ_ _ _=>False
theorem pass0 {X:Cx}:Passes CX0 X E0:=λ_ _ _ _ _ _ _ h=>h.elim
structure Fun (K:PySem.W.Frag) (x qual:Str) (st:Stmt) (f:Addr) (fd:FuncData):Prop where
 ex:∃ (oc:Value) (od:Option Addr) (kV doc pm:Value) (an:Option Addr) (cdv ct:Value) (osl:Array (Option Value)),
  fd=PySem.W.fnOf x qual (defArgs st) (defBody st) (defScope st) .none kV doc pm an cdv ct/\K.lookup f=some ⟨oc,od,.func fd,osl⟩/\PySem.W.codeIn K cdv qual=true
 kp:PySem.W.keepIn K (.ref f)=true
section
variable {P:Program}{w:World}{K:PySem.W.Frag}{mg:Str->Option Value}{base:Heap}
theorem Fun.ok {x qual:Str}{st:Stmt}{f:Addr}{fd:FuncData}{N ps:List Str}{k:Nat}{sp:Sp} (F:Fun K x qual st f fd) (S:FnScope N ps (defScope st)) (len:∀ vs H Q E,sp vs H Q E->vs.length=ps.length)
  (hbody:∀ (cdv:Value) (A:Around) (outer:List Env) (s:Shared) (H:Hp) (vs:List V) (Q:VK) (E:XK),Room k (A.deeper (envOfC qual (defScope st) s.heap.objs.size f cdv))->sp vs H Q E ->
   ∃ t,PSs (cxOf CX0 P w K mg base N qual (defScope st) f cdv A outer s H E).nox (defBody st) t/\t { nx:=λ_ H'=>Q .non H',rt:=Q } (start N vs) H):FnOk P w K mg base CX0 (k+1) f fd ps sp:=by
 obtain ⟨oc,od,kV,doc,pm,an,cdv,ct,osl,rfl,lk,hcd⟩:=F.ex
 refine fn_of lk hcd S len λA outer s H vs Q E hr hsp=>?_
 obtain ⟨t,h,q⟩:=hbody cdv A outer s H vs Q E hr hsp
 exact ⟨t,h.nox,q⟩
theorem Fun.binds {x qual:Str}{st:Stmt}{f:Addr}{fd:FuncData}{ps:List Str} (F:Fun K x qual st f fd)
  (h:∀ (kV doc pm:Value) (an:Option Addr) (cdv ct:Value) (us:List Value),us.length=ps.length->bindArgs (PySem.W.fnOf x qual (defArgs st) (defBody st) (defScope st) .none kV doc pm an cdv ct) ⟨us,[]⟩=pure (ps.zip us)):Binds K fd ps []:=by
 obtain ⟨oc,od,kV,doc,pm,an,cdv,ct,osl,rfl,lk,hcd⟩:=F.ex
 exact .all (h kV doc pm an cdv ct)
theorem fun_mk {x qual:Str}{st:Stmt}{f:Addr}{oc:Value}{od an:Option Addr}{osl:Array (Option Value)}{kV doc pm cdv ct:Value} (l:K.lookup f=some ⟨oc,od,.func (PySem.W.fnOf x qual (defArgs st) (defBody st) (defScope st) .none kV doc pm an cdv ct),osl⟩)
  (c:PySem.W.codeIn K cdv qual=true) (k:PySem.W.keepIn K (.ref f)=true):Fun K x qual st f (PySem.W.fnOf x qual (defArgs st) (defBody st) (defScope st) .none kV doc pm an cdv ct):=⟨⟨oc,od,kV,doc,pm,an,cdv,ct,osl,rfl,l,c⟩,k⟩
end
section
variable {X:Cx}
theorem pv (i:Nat) {x:Str}{pos:Pos} (hN:X.N[i]? = some x:=by rfl) (hv:Vis X.env.scope x:=by first | exact Or.inl rfl | exact Or.inr (Or.inl rfl) | exact Or.inr (Or.inr rfl)) (hd:(x == ("__debug__" : Str))=false:=by decide)
  (hcd:(x == ("__classdict__" : Str))=false:=by decide):PE X (.Name x pos) (tVar i):=pe_var hN hv hd hcd
end
theorem iteF {A B:Prop} (h:B):if false=true then A else B:=by
 rw [if_neg Bool.false_ne_true]
 exact h
theorem iteT {A B:Prop} (h:A):if true=true then A else B:=by
 rw [if_pos rfl]
 exact h
theorem ite2 {c A B:Prop} [Decidable c] (h1:c->A) (h2:¬ c->B):if c then A else B:=by
 by_cases h:c
 ·rw [if_pos h]
  exact h1 h
 ·rw [if_neg h]
  exact h2 h
def Same (H H':Hp):Prop:=∀ b o,H b=some o->H' b=some o
theorem Same.refl (H:Hp):Same H H:=λ_ _ h=>h
theorem Same.trans {H H1 H2:Hp} (a:Same H H1) (b:Same H1 H2):Same H H2:=λc o h=>b c o (a c o h)
theorem Same.free {H H':Hp} (e:Same H H') {l:Addr} (h:H' l=Option.none):H l=Option.none:=by
 cases q:H l with
 | none=>rfl
 | some o=>
  rw [e l o q] at h
  cases h
theorem Same.seq {K:PySem.W.Frag}{H H':Hp}{a:Addr}{xs:List V} (e:Same H H') (h:SqL K H a xs):SqL K H' a xs:=by
 rcases h with (h | ⟨o,h⟩) | h
 ·exact .inl (.inl (e _ _ h))
 ·exact .inl (.inr ⟨o,e _ _ h⟩)
 ·exact .inr h
end L2
namespace L2
open PySem PySem.Spec PyProof.Rows
section
variable {κ:Type} [DecidableEq κ]
end
section
variable {P:Program}{w:World}{H:Hp}{h:Heap}{a:Addr}
end
section
variable {X:Cx}{pins:List (Addr×Obj)}{σ:St}{H:Hp}{s:Shared}{a:Addr}{y v:V}{u r:Value}{o:Option V}{A:Around}{E:Value->Shared->Prop}
end
section
variable {X:Cx}{pins:List (Addr×Obj)}{σ:St}{H:Hp}{s:Shared}{a:Addr}{kvs:List (Key×V)}{k:Key}{u:Value}{A:Around}{E:Value->Shared->Prop}
end
section
variable {X:Cx}{o i e value:Expr}{pos pos' tpos:Pos}{td ty tv:TE}
end
section
variable {X:Cx}{pos:Pos}
end
structure M1 (X:Cx) (o:Expr) (m:Str) (apos:Pos) (e:Expr) (cpos:Pos):Prop where
 base:attributeBase o m X.env (eval o X.env)=eval o X.env
 few:((backTo cpos (starEach [e] X.env)).all (λx=>!x.1) && (backToKw cpos (keywordEach [] X.env)).all (λx=>x.1.isSome)
  && decide (([e]:List Expr).length+([]:List Keyword).length+(if ([]:List Keyword).isEmpty then 0 else 1)<30))=true
 line:(apos.endLine == cpos.line)=true
 trees:backTo cpos (starEach [e] X.env)=[(false,eval e X.env)]
structure M2 (X:Cx) (o:Expr) (m:Str) (apos:Pos) (e f:Expr) (cpos:Pos):Prop where
 base:attributeBase o m X.env (eval o X.env)=eval o X.env
 few:((backTo cpos (starEach [e,f] X.env)).all (λx=>!x.1) && (backToKw cpos (keywordEach [] X.env)).all (λx=>x.1.isSome)
  && decide (([e,f]:List Expr).length+([]:List Keyword).length+(if ([]:List Keyword).isEmpty then 0 else 1)<30))=true
 line:(apos.endLine == cpos.line)=true
 trees:backTo cpos (starEach [e,f] X.env)=[(false,eval e X.env),(false,eval f X.env)]
section
variable {X:Cx}{pins:List (Addr×Obj)}{σ:St}{H:Hp}{s:Shared}{a:Addr}{y d:V}{u r:Value}{o:Option V}{A:Around}{E:Value->Shared->Prop}
end
section
variable {X:Cx}{o e f:Expr}{apos cpos:Pos}{td ty tx:TE}
end
section
variable {X:Cx}{pins:List (Addr×Obj)}{σ:St}{H:Hp}{s:Shared}{a:Addr}{kvs:List (Key×V)}{A:Around}{E:Value->Shared->Prop}
end
section
variable {X:Cx}{pins:List (Addr×Obj)}{σ:St}{H:Hp}{s:Shared}{a:Addr}{y:V}{u:Value}{A:Around}{E:Value->Shared->Prop}
end
end L2
namespace L2
open PySem PySem.Spec PyProof.Rows
def clos (cells:List (Str×Addr)):List (Str×NameKind)->List (Str×Addr)->List (Str×Addr)
 | [],acc=>acc
 | (n,k)::r,acc=>clos cells r (if (k == NameKind.free)=true then (match cells.lookup n with | some c=>(n,c)::acc | none=>acc) else acc)
theorem closureFor_clos {env:Env}:∀ (names:List (Str×NameKind)) (acc:List (Str×Addr)),(∀ y∈names,y.2 = .free->∃ c,env.cells.lookup y.1=some c) ->
  (forIn (m:=Sem) names acc λ(x:Str×NameKind) r=>(match x with | (name,kind)=>if (kind == NameKind.free)=true then (do let a <-cellOf env name;pure (ForInStep.yield ((name,a)::r))) else pure (ForInStep.yield r)))=pure (clos env.cells names acc)
 | [],acc,_=>rfl
 | (n,k)::r,acc,h=>by
  rw [List.forIn_cons]
  unfold clos
  by_cases hk:(k == NameKind.free)=true
  ·obtain ⟨c,e⟩:=h (n,k) List.mem_cons_self (by simpa using hk)
   simp only [hk,if_true]
   have e1:cellOf env n=pure c:=by unfold cellOf;rw [show env.cells.lookup n=some c from e]
   rw [e1,show env.cells.lookup n=some c from e]
   simp only [pure_bind]
   exact closureFor_clos r _ λy hy=>h y (List.mem_cons_of_mem _ hy)
  ·have hk':(k == NameKind.free)=false:=by simpa using hk
   simp only [hk',Bool.false_eq_true,if_false,pure_bind]
   exact closureFor_clos r _ λy hy=>h y (List.mem_cons_of_mem _ hy)
theorem closure_of {env:Env}{scope:Scope} (h:∀ y∈scope.names,y.2 = .free->∃ c,env.cells.lookup y.1=some c):closureFor scope env=pure (clos env.cells scope.names []):=by
 have e:=closureFor_clos (env:=env) scope.names [] h
 unfold closureFor
 simp only [bind_pure]
 exact e
theorem clos_sub {cells:List (Str×Addr)}{x:Str}{c:Addr}:∀ (names:List (Str×NameKind)) (acc:List (Str×Addr)),(∀ y d,acc.lookup y=some d->cells.lookup y=some d)->(clos cells names acc).lookup x=some c->cells.lookup x=some c
 | [],acc,ha,h=>ha _ _ h
 | (n,k)::r,acc,ha,h=>by
  unfold clos at h
  refine clos_sub r _ (λy d hy=>?_) h
  split at hy
  ·split at hy
   ·rename_i c' e'
    rw [List.lookup_cons] at hy
    cases hb:y == n with
    | true=>rw [hb] at hy;cases hy;rw [beq_iff_eq.mp hb];exact e'
    | false=>rw [hb] at hy;exact ha _ _ hy
   ·exact ha _ _ hy
  ·exact ha _ _ hy
theorem lookup_cons_some {x n:Str}{c:Addr}{acc:List (Str×Addr)} (h:∃ d,acc.lookup x=some d):∃ d,((n,c)::acc).lookup x=some d:=by
 rw [List.lookup_cons]
 cases x == n with
 | true=>exact ⟨_,rfl⟩
 | false=>exact h
theorem clos_has {cells:List (Str×Addr)}{x:Str}:∀ (names:List (Str×NameKind)) (acc:List (Str×Addr)),((∃ d,acc.lookup x=some d)\/((x,NameKind.free)∈names/\∃ d,cells.lookup x=some d))->∃ d,(clos cells names acc).lookup x=some d
 | [],acc,h=>by
  rcases h with h | ⟨h,_⟩
  ·exact h
  ·cases h
 | (n,k)::r,acc,h=>by
  unfold clos
  refine clos_has r _ ?_
  rcases h with h | ⟨h,d,hd⟩
  ·refine .inl ?_
   split
   ·split
    ·exact lookup_cons_some h
    ·exact h
   ·exact h
  ·rcases List.mem_cons.mp h with e | h
   ·cases e
    refine .inl ?_
    rw [if_pos (by decide),hd]
    exact ⟨d,by rw [List.lookup_cons];simp⟩
   ·exact .inr ⟨h,d,hd⟩
theorem cellsFrom_app:∀ (names:List (Str×NameKind)) (n:Nat) (acc:List (Str×Addr)),cellsFrom n names acc=cellsFrom n names []++acc
 | [],n,acc=>rfl
 | (x,k)::r,n,acc=>by
  unfold cellsFrom
  split
  ·rw [cellsFrom_app r _ ((x,n)::acc),cellsFrom_app r _ [(x,n)]];simp
  ·exact cellsFrom_app r n acc
theorem lookup_app {x:Str}{c:Addr}:∀ {l l':List (Str×Addr)},(l++l').lookup x=some c->l.lookup x=some c\/l'.lookup x=some c
 | [],_,h=>.inr h
 | (n,d)::r,l',h=>by
  rw [List.cons_append,List.lookup_cons] at h
  rw [List.lookup_cons]
  cases hb:x == n with
  | true=>rw [hb] at h;exact .inl h
  | false=>rw [hb] at h;exact lookup_app h
theorem cellsFrom_has {x:Str}:∀ (names:List (Str×NameKind)) (n:Nat) (acc:List (Str×Addr)),((∃ d,acc.lookup x=some d)\/(x,NameKind.cell)∈names)->∃ d,(cellsFrom n names acc).lookup x=some d
 | [],n,acc,h=>by
  rcases h with h | h
  ·exact h
  ·cases h
 | (y,k)::r,n,acc,h=>
  by
  unfold cellsFrom
  rcases h with h | h
  ·split
   ·exact cellsFrom_has r _ _ (.inl (lookup_cons_some h))
   ·exact cellsFrom_has r _ _ (.inl h)
  ·rcases List.mem_cons.mp h with e | h
   ·cases e
    rw [if_pos (by decide)]
    exact cellsFrom_has r _ _ (.inl ⟨n,by rw [List.lookup_cons];simp⟩)
   ·split
    ·exact cellsFrom_has r _ _ (.inr h)
    ·exact cellsFrom_has r _ _ (.inr h)
def cenv (scope:Scope) (C:Addr) (env:Env):Env:=
 { scope:=relabel scope env,locals:=C,globals:=env.globals,cells:=cellsFrom (C+1) scope.names (clos env.cells scope.names []),qual:=env.qual,func:=none,code:=env.code,frame:=env.frame,builtins:=env.builtins }
theorem relabel_mem {scope:Scope}{env:Env}{x:Str}{k:NameKind} (h:(relabel scope env).names.lookup x=some k):∃ k',(x,k')∈scope.names/\(k' = k\/(k' = .free/\k = .cell/\env.kindOf x=some .cell)):=by
 have h':=List.mem_map.mp (mem_of_lookup h)
 obtain ⟨⟨n,q⟩,hm,e⟩:=h'
 dsimp only at e
 split at e
 ·rename_i hc
  injection e with e1 e2
  subst e1
  refine ⟨q,hm,.inr ?_⟩
  simp only [Bool.and_eq_true,beq_iff_eq] at hc
  exact ⟨hc.1.1,e2.symm,hc.2⟩
 ·injection e with e1 e2
  subst e1
  exact ⟨q,hm,.inl e2⟩
def compCx (X:Cx) (scope:Scope) (N':List Str) (s:Shared) (H:Hp) (fp:List Addr):Cx where
 prog:=X.prog
 w:=X.w
 K:=X.K
 mg:=X.mg
 base:=X.base
 A:=X.A
 N:=N'
 s₀:=s
 H₀:=H
 env:=cenv scope s.heap.objs.size X.env
 outer:=X.stack
 stack:=X.stack
 ex:=fp
 calm:=X.calm
 fn:=λx=>decide ((x,NameKind.cell)∈scope.names/\(x,NameKind.free)∉scope.names)
 pn:=[]
 xe:=λ_ _=>False
def sub (n:Nat) (fi:List Nat) (σ:St):St:=List.replicate n none++fi.map λk=>(σ[k]?).join
theorem sub_len (n:Nat) (fi:List Nat) (σ:St):(sub n fi σ).length=n+fi.length:=by simp [sub]
structure CScope (X:Cx) (scope:Scope) (N':List Str) (n:Nat) (fi:List Nat):Prop where
 kind:scope.kind = .function
 names:∀ y∈scope.names,y.2 = .local->scope.names.lookup y.1=some .local
 free:∀ y∈scope.names,y.2 = .free->X.env.kindOf y.1=some .cell\/X.env.kindOf y.1=some .free
 len:N'.length=n+fi.length
 at':∀ (j:Nat) (k:Nat),fi[j]? = some k->∃ x,N'[n+j]? = some x/\X.N[k]? = some x/\scope.names.lookup x=some .free/\(x,NameKind.cell)∉scope.names
theorem newEnvC {M:Model}{A:Around}{E:Value->Shared->Prop}{s:Shared}{scope:Scope}{globals:Addr}{cl:List (Str×Addr)}{qual:Str}{env:Env}{Q:Env->Shared->Prop}
  (h:∀ h',h'.Ns s.heap.objs.size (λ_=>none)->(∀ b o,s.heap.get? b=some o->h'.get? b=some o)->CellsOk h' (s.heap.objs.size+1) (cellsFrom (s.heap.objs.size+1) scope.names []) ->
   Q { scope,locals:=s.heap.objs.size,globals,cells:=cellsFrom (s.heap.objs.size+1) scope.names cl,qual,func:=none,code:=env.code,frame:=env.frame,builtins:=env.builtins } { s with heap:=h' }) :
  wpAny M A (newFunctionEnv scope globals cl [] qual none .none (some env)) Q E s:=by
 have size:(s.heap.push { cls:=.type "dict",data:=.dict #[] }).objs.size=s.heap.objs.size+1:=Heap.size_push ..
 have before:∀ b o,s.heap.get? b=some o->(s.heap.push { cls:=.type "dict",data:=.dict #[] }).get? b=some o:=λb o e=>Heap.get?_push_of_some _ e
 have names:=Heap.Ns.new s.heap (.type "dict")
 simp only [newFunctionEnv,if_true,Option.isSome_some]
 refine wpAny_bind (wpAny_alloc ?_)
 generalize s.heap.push { cls:=.type "dict",data:=.dict #[] }=h1 at size before names
 have none':CellsOk h1 (s.heap.objs.size+1) []:=⟨(λ_ _ z=>by cases z),List.Pairwise.nil⟩
 have laid:=cellsFrom_ok scope.names h1 _ [] none' (Nat.le_of_eq size.symm)
 have more:=pushCells_keeps scope.names h1
 rw [size] at laid
 refine wpAny_bind (wpAny_layCells _ (λ_ kind _=>?_) scope.names cl { s with heap:=h1 } _ (wpAny_bind (wpAny_pure (wpAny_pure ?_))))
 ·cases e:kind == NameKind.cell <;> simp [e]
 ·show Q { scope,locals:=s.heap.objs.size,globals,cells:=cellsFrom h1.objs.size scope.names cl,qual,func:=none,code:=env.code,frame:=env.frame,builtins:=env.builtins } _
  rw [size]
  exact h _ (names.keeps more) (λb o e=>more b o (before b o e)) laid
section
variable {X:Cx}{pins:List (Addr×Obj)}{σ:St}{H:Hp}{s:Shared}{scope:Scope}{N':List Str}{n:Nat}{fi:List Nat}{fp:List Addr}{h':Heap}
theorem CScope.clHas (S:CScope X scope N' n fi) (ok:X.Ok):∀ y∈scope.names,y.2 = .free->∃ c,X.env.cells.lookup y.1=some c:=λy hy hk=>ok.has _ (S.free y hy hk)
theorem cenv_cell {C:Addr}{x:Str}{c:Addr} (h:(cenv scope C X.env).cells.lookup x=some c):(cellsFrom (C+1) scope.names []).lookup x=some c\/X.env.cells.lookup x=some c:=by
 have h1:(cellsFrom (C+1) scope.names (clos X.env.cells scope.names [])).lookup x=some c:=h
 rw [cellsFrom_app] at h1
 rcases lookup_app h1 with z | z
 ·exact .inl z
 ·exact .inr (clos_sub _ _ (λ_ _ q=>by cases q) z)
theorem cellsFrom_names {x:Str}{c:Addr}:∀ (names:List (Str×NameKind)) (k:Nat) (acc:List (Str×Addr)),(x,c)∈cellsFrom k names acc->(x,NameKind.cell)∈names\/(x,c)∈acc
 | [],_,_,h=>.inr h
 | (y,q)::r,k,acc,h=>by
  unfold cellsFrom at h
  split at h
  ·rename_i hq
   have hq':q = .cell:=by simpa using hq
   subst hq'
   rcases cellsFrom_names r _ _ h with z | z
   ·exact .inl (List.mem_cons_of_mem _ z)
   ·rcases List.mem_cons.mp z with e | z
    ·cases e;exact .inl List.mem_cons_self
    ·exact .inr z
  ·rcases cellsFrom_names r _ _ h with z | z
   ·exact .inl (List.mem_cons_of_mem _ z)
   ·exact .inr z
theorem inv_block (I:Inv X pins σ H s) (S:CScope X scope N' n fi) (hf:∀ b∈fp,FpOk X pins H b) (ho:∀ b∈fp,∃ o,s.heap.get? b=some o)
  (hns:h'.Ns s.heap.objs.size (λ_=>none)) (hk:∀ b o,s.heap.get? b=some o->h'.get? b=some o) (hc:CellsOk h' (s.heap.objs.size+1) (cellsFrom (s.heap.objs.size+1) scope.names [])) :
  Inv (compCx X scope N' s H fp) [] (sub n fi σ) H { s with heap:=h' }:=by
 have ltC:∀ {b:Addr}{o:Obj},s.heap.get? b=some o->b<s.heap.objs.size:=λe=>Heap.lt_size e
 have oldcell:∀ {x:Str}{c:Addr},X.env.cells.lookup x=some c->c<s.heap.objs.size:=λ{x c} e=>by
  obtain ⟨v,q⟩:=I.cell x c e
  exact q.lt
 have newcell:∀ {x:Str}{c:Addr},(cellsFrom (s.heap.objs.size+1) scope.names []).lookup x=some c->h'.IsCell c none/\s.heap.objs.size+1<=c:=λ{x c} e=>hc.empty x c (PySem.mem_of_lookup e)
 refine ⟨⟨I.ok.mod,S.kind,I.ok.glob,I.ok.blt,Nat.le_refl _,λx y c h1 h2=>?_,λx hx=>?_,λx c hx h=>?_,I.ok.hd,I.ok.frames,.inl rfl,λb hb=>?_,λb o e=>?_,?_,λb o e hb=>?_,λb hb hz=>?_,I.stack,I.stkFree⟩,
  rfl,I.bare,Un.kept hk,⟨_,hns,λi x v h1 h2 h3=>?_⟩,λx c h=>?_,I.hok.fresh (Nat.le_refl _),λx c h=>?_,λp hp=>absurd (show p∈([]:List (Addr×Obj)) from hp) (by simp),I.hok.kept hk,?_⟩
 ·rcases cenv_cell h1 with z1 | z1 <;> rcases cenv_cell h2 with z2 | z2
  ·exact name_of_addr hc.apart (PySem.mem_of_lookup z1) (PySem.mem_of_lookup z2)
  ·exact absurd (Nat.lt_trans (oldcell z2) (newcell z1).2) (Nat.lt_irrefl _)
  ·exact absurd (Nat.lt_trans (oldcell z1) (newcell z2).2) (Nat.lt_irrefl _)
  ·exact I.ok.inj x y c z1 z2
 ·have hx:(relabel scope X.env).names.lookup x=some .cell\/(relabel scope X.env).names.lookup x=some .free:=hx
  have go:∀ k,(relabel scope X.env).names.lookup x=some k->(k = .cell\/k = .free)->∃ c,(cellsFrom (s.heap.objs.size+1) scope.names (clos X.env.cells scope.names [])).lookup x=some c:=λk e hk=>by
   obtain ⟨k',hm,hkk⟩:=relabel_mem e
   have:k' = .cell\/k' = .free:=by
    rcases hkk with z | z
    ·rw [z];exact hk
    ·exact .inr z.1
   rcases this with z | z
   ·exact cellsFrom_has _ _ _ (.inr (z ▸ hm))
   ·exact cellsFrom_has _ _ _ (.inl (clos_has _ _ (.inr ⟨z ▸ hm,S.clHas I.ok (x,k') hm z⟩)))
  rcases hx with z | z
  ·exact go _ z (.inl rfl)
  ·exact go _ z (.inr rfl)
 ·have hx':(x,NameKind.cell)∈scope.names/\(x,NameKind.free)∉scope.names:=of_decide_eq_true hx
  have h1:(cellsFrom (s.heap.objs.size+1) scope.names (clos X.env.cells scope.names [])).lookup x=some c:=h
  rw [cellsFrom_app] at h1
  obtain ⟨d,hd⟩:=cellsFrom_has (x:=x) scope.names (s.heap.objs.size+1) [] (.inr hx'.1)
  have e2:(cellsFrom (s.heap.objs.size+1) scope.names []++clos X.env.cells scope.names []).lookup x=some d:=by
   have lk:∀ (l l':List (Str×Addr)),l.lookup x=some d->(l++l').lookup x=some d:=by
    intro l
    induction l with
    | nil=>intro l' q;cases q
    | cons p r ih=>
     obtain ⟨n,q⟩:=p
     intro l' e
     rw [List.cons_append,List.lookup_cons]
     rw [List.lookup_cons] at e
     cases hb:x == n with
     | true=>rw [hb] at e;exact e
     | false=>rw [hb] at e;exact ih l' e
   exact lk _ _ hd
  rw [h1] at e2
  cases e2
  exact Nat.le_of_lt (newcell hd).2
 ·refine ⟨?_,λx c e z=>?_⟩
  ·obtain ⟨o,e⟩:=ho b hb
   exact Nat.ne_of_lt (ltC e)
  ·obtain ⟨o,eo⟩:=ho b hb
   rcases cenv_cell e with q | q
   ·have h1:=(newcell q).2
    have h2:=ltC eo
    rw [z] at h1
    exact Nat.lt_irrefl _ (Nat.lt_trans h2 h1)
   ·exact (hf b hb).2.2.2.2.1 x c q z
 ·exact I.bs b o e
 ·exact Nat.le_trans I.ok.bsz I.sz
 ·rcases (hf b hb).2.2.2.1 with z | z
  ·exact I.ok.noex b o e z
  ·exact absurd (Nat.lt_of_lt_of_le (Heap.lt_size (I.ok.bs b o e).1) z) (Nat.lt_irrefl _)
 ·rcases List.mem_cons.mp (I.stkSub b hz) with z | z
  ·exact (hf b hb).2.1 z
  ·exact (hf b hb).2.2.1 z
 ·have hi:n<=i:=by
   by_cases hi:n<=i
   ·exact hi
   ·unfold sub at h2
    rw [List.getElem?_append_left (by simp;lia),List.getElem?_replicate] at h2
    split at h2 <;> cases h2
  have h2':(fi.map λk=>(σ[k]?).join)[i - n]? = some (some v):=by
   unfold sub at h2
   rw [List.getElem?_append_right (by simpa using hi)] at h2
   simpa using h2
  rw [List.getElem?_map] at h2'
  cases ek:fi[i - n]? with
  | none=>rw [ek] at h2';cases h2'
  | some k=>
   rw [ek] at h2'
   have h2'':(σ[k]?).join=some v:=Option.some.inj h2'
   have hσ:σ[k]? = some (some v):=by
    cases q:σ[k]? with
    | none=>rw [q] at h2'';cases h2''
    | some w'=>rw [q] at h2'';exact congrArg some h2''
   obtain ⟨x',e1,e2,e3,e4⟩:=S.at' (i - n) k ek
   have e1':N'[i]? = some x':=by rw [<-e1];congr 1;lia
   have h1':N'[i]? = some x:=h1
   rw [e1'] at h1'
   cases h1'
   have hm:(x,NameKind.free)∈scope.names:=by
    generalize scope.names=l at e3
    induction l with
    | nil=>cases e3
    | cons p r ih=>
     obtain ⟨n',q⟩:=p
     rw [List.lookup_cons] at e3
     cases hb:x == n' with
     | true=>rw [hb] at e3;cases e3;rw [beq_iff_eq.mp hb];exact List.mem_cons_self
     | false=>rw [hb] at e3;exact List.mem_cons_of_mem _ (ih e3)
   have kx:=S.free _ hm rfl
   have vis:Vis X.env.scope x:=kx.elim (λz=>.inr (.inl z)) λz=>.inr (.inr z)
   obtain ⟨m0,hn0,hl0⟩:=I.loc
   obtain ⟨u,ru,lk⟩:=hl0 k x v e2 hσ vis
   refine ⟨u,ru,.inr ⟨?_,?_⟩⟩
   ·have h3:Vis (relabel scope X.env) x:=h3
    rcases h3 with z | z | z
    ·obtain ⟨k',hm',hk'⟩:=relabel_mem z
     rcases hk' with q | q
     ·exfalso
      have:=S.names (x,k') hm' (by rw [q])
      rw [show scope.names.lookup x=some .free from e3] at this
      cases this
     ·cases q.2.1
    ·exact .inl z
    ·exact .inr z
   ·rcases lk with ⟨kl,_⟩ | ⟨_,c,ec,hcell⟩
    ·rcases kx with z | z <;> (rw [show X.env.kindOf x=_ from kl] at z;cases z)
    ·refine ⟨c,?_,hcell.keeps hk⟩
     show (cellsFrom (s.heap.objs.size+1) scope.names (clos X.env.cells scope.names [])).lookup x=some c
     obtain ⟨d,hd⟩:=cellsFrom_has (x:=x) scope.names (s.heap.objs.size+1) (clos X.env.cells scope.names []) (.inl (clos_has _ _ (.inr ⟨hm,c,ec⟩)))
     rw [hd]
     have hd':=hd
     rw [cellsFrom_app] at hd'
     rcases lookup_app hd' with z | z
     ·rcases cellsFrom_names _ _ _ (PySem.mem_of_lookup z) with q | q
      ·exact absurd q e4
      ·cases q
     ·have:=clos_sub _ _ (λ_ _ q=>by cases q) z
      rw [ec] at this
      exact this.symm
 ·rcases cenv_cell h with z | z
  ·exact ⟨none,(newcell z).1⟩
  ·obtain ⟨v,q⟩:=I.cell x c z
   exact ⟨v,q.keeps hk⟩
 ·rcases cenv_cell h with z | z
  ·exact I.hok.fresh (Nat.le_of_lt (newcell z).2)
  ·exact I.freeC x c z
 ·show (sub n fi σ).length=N'.length
  rw [sub_len,S.len]
end
end L2
namespace L2
open PySem PySem.Spec PyProof.Rows
def PIfs (X:Cx) (ifs:List Expr) (t:TT):Prop:=
 ∀ (pins:List (Addr×Obj)) (s:Shared) (σ:St) (H:Hp) (Q:Bool->Hp->Prop),Inv X pins σ H s->t σ H Q ->
  wpAny (model X.prog X.w) X.A (forIn ifs true λc r=>if r=true then do let ok <-isTrue c X.env (eval c X.env);pure (ForInStep.yield ok) else pure (ForInStep.yield r)) (TP X pins σ Q) X.xe s
def tYes:TT:=λ_ H Q=>Q true H
theorem pifs_nil {X:Cx}:PIfs X [] tYes:=λ_ _ _ H _ I h=>wpAny_tests_nil ⟨H,I,h⟩
theorem pifs_one {X:Cx}{c:Expr}{t:TT} (h:PT X c t):PIfs X [c] t:=λpins s σ H Q I q=>wpAny_tests_one (h pins s σ H Q I q)
def CompW (g:TG) (tt:TT) (te:TE) (J:It) (D:Addr) (Q:VK) (σ:St) (H:Hp):Prop:=
 ∃ W:Nat->Nat->St->Hp->Prop,(∃ m,W 0 m σ H)/\∀ i m σ H,W i m σ H ->
  (J.stop i H/\Q (.ref D) H)\/(J.go i H/\∃ N:St->Hp->Prop,(∀ σ' H',N σ' H'->∃ m',m' < m/\W (i+1) m' σ' H') /\
   ∀ x H',J.yld i H x H'->g x σ H' λσ2 H2=>tt σ2 H2 λb H3=>if b=true then te σ2 H3 λv H4=>∃ xs,H4 D=some (.lst xs)/\xs.length<sizeLine/\N σ2 (upd H4 D (.lst (xs++[v]))) else N σ2 H3)
def tComp (wi:TI) (g:TG) (tt:TT) (te:TE) (n:Nat) (fi:List Nat):TE:=λσ H Q=>
 wi σ H λJ H1=>∀ D,H1 D=none->CompW g tt te J D Q (sub n fi σ) (upd H1 D (.lst []))
section
variable {X:Cx}{elt tg iter:Expr}{ifs:List Expr}{scope:Scope}{pos:Pos}
theorem comp_loop {Y:Cx}{g:TG}{tt:TT}{te:TE}{J:It}{D it:Addr}{fp:List Addr}{tn:Nat->Heap->Prop}{Qr:VK}{σ:St}{H:Hp}{s:Shared} (hc:Y.calm=true) (hxe:∀ e s,¬ Y.xe e s)
  (hg:PG Y tg g) (hi:PIfs Y ifs tt) (he:PE Y elt te) (T:Turn Y.prog Y.w Y.K tg J fp it tn) (I:Inv Y [] σ H s) (st:tn 0 s.heap) (hf:∀ b∈fp,FpOk Y [] H b) (hw:CompW g tt te J D Qr σ H) :
  codeAny (model Y.prog Y.w) Y.A (.compLoop (.ListComp elt [⟨tg,iter,ifs,0⟩] scope pos) 0 (.ref it) (.ref D) Y.env) (λr s'=>r = .ok .next/\∃ σ' H',Inv Y [] σ' H' s'/\Qr (.ref D) H') s:=by
 obtain ⟨W,⟨m0,w0⟩,turn⟩:=hw
 have stat:∀ {H':Hp},(∀ b∈fp,H' b=none)->∀ b∈fp,FpOk Y [] H' b:=λhn b hb=>⟨hn b hb,(hf b hb).2⟩
 refine codeAny_loop rfl (λn s'=>∃ i σ' H',Inv Y [] σ' H' s'/\tn i s'.heap/\(∀ b∈fp,H' b=none)/\W i n σ' H') ?_ m0 ⟨0,σ,H,I,st,λb hb=>(hf b hb).1,w0⟩
 rintro n s3 ⟨i,σ3,H3,I3,st3,fr3,w3⟩
 show wpAny _ Y.A ((compTurn (.ListComp elt [⟨tg,iter,ifs,0⟩] scope pos) 0 (.ref it) (.ref D) Y.env).onRaise (λx=>do noteFrame x Y.env;theTreesLotGoes x)) _ _ s3
 refine wpAny_noted ?_
 rw [compTurn_list]
 (refine wpAny_bind (wpAny_standAt (wpAny_bind ?_)))
 rcases turn i n σ3 H3 w3 with ⟨stop,qn⟩ | ⟨go,N,hN,step⟩
 ·refine thn (T.done Y rfl rfl rfl hc i [] s3 σ3 H3 _ I3 (stat fr3) st3 stop) λr s4 ⟨hr,I4⟩=>?_
  subst hr
  exact wpAny_pure ⟨rfl,σ3,H3,I4,qn⟩
 ·refine thn (T.item Y rfl rfl rfl hc i [] s3 σ3 H3 _ I3 (stat fr3) st3 go) λr s4 ⟨u,hr,h4⟩=>?_
  subst hr
  refine wpAny_bind (thn h4 λ_ s5 ⟨x,H5,I5,r5,y5,st5,fr5⟩=>?_)
  have I5':=I5.pinned (stat fr5) (T.obj _ _ st5)
  have again':∀ {σ7:St}{H7:Hp}{s7:Shared},Inv Y ([]++pinsAt fp s5.heap) σ7 H7 s7->N σ7 H7->∃ m,m<n/\∃ i σ' H',Inv Y [] σ' H' s7/\tn i s7.heap/\(∀ b∈fp,H' b=none)/\W i m σ' H':=λ{σ7 H7 s7} I7 n7=>by
   obtain ⟨m',hm,w7⟩:=hN σ7 H7 n7
   refine ⟨m',hm,i+1,σ7,H7,I7.unpinned,T.keep _ _ _ st5 λb hb o e=>(I7.pin (b,o) (List.mem_append_right _ (List.mem_append_right _ (mem_pinsAt hb e)))).1,λb hb=>?_,w7⟩
   obtain ⟨o,e,d⟩:=T.obj _ _ st5 b hb
   exact (I7.pin (b,o) (List.mem_append_right _ (List.mem_append_right _ (mem_pinsAt hb e)))).2.1
  refine wpAny_bind (wpAny_mono (hg _ s5 σ3 H5 x u _ I5' r5 (step x H5 y5)) (λ_ s6 ⟨σ6,H6,I6,q6⟩=>?_) λe s' z=>(hxe e s' z).elim)
  refine wpAny_bind (wpAny_mono (hi _ s6 σ6 H6 _ I6 q6) (λok s7 ⟨H7,I7,q7⟩=>?_) λe s' z=>(hxe e s' z).elim)
  cases ok with
  | false=>
   exact wpAny_pure ⟨rfl,again' I7 q7⟩
  | true=>
   refine wpAny_bind (wpAny_bind (wpAny_mono (he _ s7 σ6 H7 _ I7 q7) (λu8 s8 ⟨v8,H8,I8,r8,xs,e8,z8,n8⟩=>?_) λe s' z=>(hxe e s' z).elim))
   refine wpAny_bind (wpAny_mono (mt_append (X:=Y) _ s8 σ6 H8 (.ref D) [v8] (.ref D) [u8] (λ_ H9=>N σ6 H9) I8 rfl (.cons r8 .nil) ⟨D,xs,v8,rfl,rfl,e8,z8,n8⟩) (λu9 s9 h9=>?_) λe s' z=>(hxe e s' z).elim)
   obtain ⟨v9,H9,I9,_,n9⟩:=h9
   exact wpAny_pure (wpAny_pure ⟨rfl,again' I9 n9⟩)
theorem Inv.letGo {pins:List (Addr×Obj)}{σ:St}{H:Hp}{s:Shared}{C:Addr}{h':Heap} (I:Inv X pins σ H s) (hs:Heap.SameBut C s.heap h') (hn:H C=none) (hC:X.s₀.heap.objs.size<=C) (hL:C≠X.env.locals)
  (h2:∀ x c,X.env.cells.lookup x=some c->c≠C) (h3:∀ p∈X.pn++pins,p.1≠C):Inv X pins σ H { s with heap:=h' }:=
 I.turned (t':=s.toks) (λb o hb e=>hs.extBut b o hb e) hn hL (.inr hC) h2 h3
theorem comp_core {N':List Str}{n:Nat}{fi:List Nat}{wi:TI}{g:TG}{tt:TT}{te:TE}{use:Option (Value->Sem Unit)}{Q:Value->Shared->Prop}{Qr:VK}{epos:Pos}{pins:List (Addr×Obj)}{σ:St}{H:Hp}{s:Shared}
  (hcalm:X.calm=true) (S:CScope X scope N' n fi) (hit:∀ R,wi σ H R->wpAny (model X.prog X.w) X.A (eval iter X.env) (λv s1=>wpAny (model X.prog X.w) X.A (pyIter v) (PIE X pins σ tg R) X.xe s1) X.xe s)
  (hg:∀ s H fp,PG (compCx X scope N' s H fp) tg g) (hi:∀ s H fp,PIfs (compCx X scope N' s H fp) ifs tt) (he:∀ s H fp,PE (compCx X scope N' s H fp) elt te)
  (I:Inv X pins σ H s) (hw:tComp wi g tt te n fi σ H Qr) (hs:∀ x,foldedSetIterable iter X.env x=pure x)
  (post:∀ (D C:Addr) (s':Shared) (H':Hp) (m:Str->Option Value),Inv X pins σ H' s'->s'.heap.Ns C m->H' C=none->X.s₀.heap.objs.size<=C->C≠X.env.locals->(∀ x c,X.env.cells.lookup x=some c->c≠C)->(∀ p∈X.pn++pins,p.1≠C)->Qr (.ref D) H' ->
   compPost (model X.prog X.w) X.A X.xe use Q (.ref D) C (.ok .next) s') :
  wpAny (model X.prog X.w) X.A (comprehension (.ListComp elt [⟨tg,iter,ifs,0⟩] scope pos) scope X.env epos (newList []) false (eval iter X.env) use) Q X.xe s:=by
 refine wpAny_comprehension_free (use:=use) (g:=⟨tg,iter,ifs,0⟩) (gs:=[]) rfl hs (closure_of (S.clHas I.ok)) S.kind S.names ?_
 refine thn (hit _ hw) λv s1 h1=>thn h1 λitv s2 h2=>?_
 obtain ⟨it,fp,tn,J,H2,e,I2,T,st2,f2,hw2⟩:=h2
 subst e
 refine wpAny_newList ?_ (Nat.zero_le _)
 have hD:H2 s2.heap.objs.size=none:=I2.hok.fresh (Nat.le_refl _)
 have I3:Inv X pins σ (upd H2 s2.heap.objs.size (.lst [])) { s2 with heap:=s2.heap.push { cls:=.type "list",data:=.seq ([]:List Value).toArray } }:=
  I2.laid (t':=s2.toks) (λb u e=>Heap.get?_push_of_some _ e) (Nat.le_refl _) ⟨Nat.zero_le _,[],0,.nil,Heap.get?_push_size _ rfl⟩
 have hw3:=hw2 _ hD
 have u23:Un (frs X.stack) fp H2 (upd H2 s2.heap.objs.size (.lst [])) s2.heap (s2.heap.push { cls:=.type "list",data:=.seq ([]:List Value).toArray }):=
  Un.laid (λb u e=>Heap.get?_push_of_some _ e) (Nat.le_refl _) hD
 generalize hs3:({ s2 with heap:=s2.heap.push { cls:=.type "list",data:=.seq ([]:List Value).toArray } }:Shared)=s3 at I3 ⊢
 have hh3:s3.heap=s2.heap.push { cls:=.type "list",data:=.seq ([]:List Value).toArray }:=by rw [<-hs3]
 have ho3:s3.os=s2.os:=by rw [<-hs3]
 have hz3:s3.heap.objs.size=s2.heap.objs.size+1:=by rw [hh3,Heap.size_push]
 rw [<-hh3] at u23
 have hH3:∀ b,b≠s2.heap.objs.size->upd H2 s2.heap.objs.size (.lst []) b=H2 b:=λb hb=>upd_ne hb
 generalize upd H2 s2.heap.objs.size (.lst [])=H3 at *
 have fpold:∀ b∈fp,∃ o,s2.heap.get? b=some o:=λb hb=>let ⟨o,e,_⟩:=T.obj _ _ st2 b hb;⟨o,e⟩
 have k23:∀ b u,s2.heap.get? b=some u->s3.heap.get? b=some u:=λb u e=>by rw [hh3];exact Heap.get?_push_of_some _ e
 have hfp3:∀ b∈fp,FpOk X pins H3 b:=λb hb=>by
  obtain ⟨o,e⟩:=fpold b hb
  exact ⟨(hH3 b (Nat.ne_of_lt (Heap.lt_size e))).trans (f2 b hb).1,(f2 b hb).2⟩
 refine newEnvC λh4 hns hk hc=>?_
 show codeAny _ _ (.compStart _ 0 _ _ (cenv scope s3.heap.objs.size X.env)) _ _
 have I4:=inv_block I3 S hfp3 (λb hb=>let ⟨o,e⟩:=fpold b hb;⟨o,k23 b o e⟩) hns hk hc
 have hfY:∀ b∈fp,FpOk (compCx X scope N' s3 H3 fp) [] H3 b:=λb hb=>⟨(hfp3 b hb).1,(I4.ok.exf b hb).1,I4.ok.exfs b hb,.inl hb,(I4.ok.exf b hb).2,λp hp=>absurd (show p∈([]:List (Addr×Obj)) from hp) (by simp)⟩
 have st4:tn 0 h4:=T.keep _ _ _ st2 λb hb o e=>hk b o (k23 b o e)
 have loop:=comp_loop (Y:=compCx X scope N' s3 H3 fp) (elt:=elt) (tg:=tg) (iter:=iter) (ifs:=ifs) (scope:=scope) (pos:=pos) hcalm (λ_ _ z=>z) (hg s3 H3 fp) (hi s3 H3 fp) (he s3 H3 fp) T I4 st4 hfY hw3
 have fin:codeAny (model X.prog X.w) X.A (.compLoop (.ListComp elt [⟨tg,iter,ifs,0⟩] scope pos) 0 (.ref it) (.ref s2.heap.objs.size) (cenv scope s3.heap.objs.size X.env)) (compPost (model X.prog X.w) X.A X.xe use Q (.ref s2.heap.objs.size) s3.heap.objs.size) { s3 with heap:=h4 }:=by
  refine codeAny_mono loop λr s' ⟨hr,σ',H',J5,q5⟩=>?_
  subst hr
  have u5:Un (frs X.stack) fp H3 H' s3.heap s'.heap:=J5.base
  have I5:Inv X pins σ H' s':=I2.call' (ch:=fp) (J5.os.trans ho3) (u23.trans u5) J5.hok J5.bare λb hb=>⟨(f2 b hb).2.2.2.1,(f2 b hb).2.1,(f2 b hb).2.2.2.2.1,(f2 b hb).2.2.2.2.2⟩
  obtain ⟨m,hm,_⟩:=J5.loc
  refine post _ _ s' H' m I5 hm J5.free I3.sz (Nat.ne_of_gt I3.lt) (λx c e=>?_) (λp hp=>?_) q5
  ·obtain ⟨v,q⟩:=I3.cell x c e
   exact Nat.ne_of_lt q.lt
  ·exact Nat.ne_of_lt (Heap.lt_size (I3.pin p hp).1)
 exact codeAny_compStart_list fin (T.self _ 0 _ _ _ st4 fin)
theorem pe_comp {N':List Str}{n:Nat}{fi:List Nat}{wi:TI}{g:TG}{tt:TT}{te:TE} (hcalm:X.calm=true) (S:CScope X scope N' n fi) (hit:PI X tg iter wi)
  (hg:∀ s H fp,PG (compCx X scope N' s H fp) tg g) (hi:∀ s H fp,PIfs (compCx X scope N' s H fp) ifs tt) (he:∀ s H fp,PE (compCx X scope N' s H fp) elt te)
  (hs:∀ x,foldedSetIterable iter X.env x=pure x:=by intro _;rfl):PE X (.ListComp elt [⟨tg,iter,ifs,0⟩] scope pos) (tComp wi g tt te n fi):=by
 intro pins s σ H Q I h
 rw [eval_ListComp]
 refine comp_core (use:=none) hcalm S (λR z=>hit pins s σ H R I z) hg hi he I h hs λD C s' H' m I' hm hn hC hL h2 h3 q=>⟨m,hm,λh' hs'=>?_⟩
 exact ⟨.ref D,H',I'.letGo hs' hn hC hL h2 h3,rfl,q⟩
theorem ps_comp {N':List Str}{n i:Nat}{fi:List Nat}{wi:TI}{g:TG}{tt:TT}{te:TE}{x:Str}{pos' spos:Pos} (hN:X.N.Nodup) (hxi:X.N[i]? = some x) (hx:Loc X.env.scope x) (hcalm:X.calm=true) (S:CScope X scope N' n fi) (hit:PI X tg iter wi)
  (hg:∀ s H fp,PG (compCx X scope N' s H fp) tg g) (hi:∀ s H fp,PIfs (compCx X scope N' s H fp) ifs tt) (he:∀ s H fp,PE (compCx X scope N' s H fp) elt te)
  (hsw:swapsWith (.ListComp elt [⟨tg,iter,ifs,0⟩] scope pos) (some (.Name x pos')) spos.line X.env=pure true:=by rfl)
  (hs:∀ x,foldedSetIterable iter X.env x=pure x:=by intro _;rfl) (hf:X.fn x=true\/X.env.scope.names.lookup x=some .local:=by first | exact .inl rfl | exact .inr rfl | assumption) :
  PS X (.Assign [.Name x pos'] (.ListComp elt [⟨tg,iter,ifs,0⟩] scope pos) spos) (tAsg (tComp wi g tt te n fi) (gName i)):=by
 intro pins s σ H D I h
 (rw [exec_Assign_Name_used _ _ _ _ hsw])
 (refine wpAny_bind (wpAny_standAt (wpAny_bind ?_)))
 show wpAny _ X.A (do let _ <-comprehension (.ListComp elt [⟨tg,iter,ifs,0⟩] scope pos) scope X.env _ (newList []) false (eval iter X.env) (some (assign (.Name x pos') X.env))) _ _ s
 refine wpAny_bind (thn (comp_core (use:=some (assign (.Name x pos') X.env)) (Q:=λ_ s'=>SP X pins D .next s') hcalm S (λR z=>hit pins s σ H R I z) hg hi he I h hs λDa C s' H' m I' hm hn hC hL h2 h3 q=>?_) λ_ s' q=>wpAny_pure (wpAny_pure q))
 show wpAny _ _ (assign (.Name x pos') X.env (.ref Da)) _ _ s'
 refine wpAny_assign_Name (store_ok2 (v:=.ref Da) I' hN hxi hx rfl (λs2 I2 ⟨a,hsb,ha⟩=>?_) hf)
 have hCa:C≠a:=by
  rcases ha with z | z
  ·rw [z];exact hL
  ·exact (h2 x a z).symm
 exact ⟨m,hm.sameBut hsb hCa,λh' hs'=>⟨_,H',I2.letGo hs' hn hC hL h2 h3,q⟩⟩
end
end L2
namespace L2
open PySem PySem.Spec PyProof.Rows
section
variable {X:Cx}
theorem Inv.turnedL {pins:List (Addr×Obj)}{σ:St}{H:Hp}{s:Shared}{h':Heap}{t':Nat}{wr:List Addr} (I:Inv X pins σ H s) (hf:∀ b∈wr,FpOk X pins H b) (k:∀ b o,b∉wr->s.heap.get? b=some o->h'.get? b=some o) :
  Inv X pins σ H { s with heap:=h',toks:=t' }:=by
 have nit:∀ b u,H b=some u->b∉wr:=λb u e z=>by rw [(hf b z).1] at e;cases e
 refine I.step (g':=s.gens) (d':=s.drawn) (ch:=wr) (λb hb=>⟨(hf b hb).2.2.2.1,(hf b hb).2.1,(hf b hb).2.2.2.2.1,(hf b hb).2.2.2.2.2⟩) (λb o _ _ hc e _=>k b o hc e) (λb o _ _ hc e _=>⟨o.slots,k b o hc e⟩) (λ_ _ _ _ n=>n)
  (λb o hc e=>⟨o,k b o hc e⟩) (λ_ _ e=>e) (λ_ _ _ e=>e) (λb ps e=>⟨#[],by rw [e];simp⟩) (λm hm=>?_) (λb u e=>?_) I.bare
 ·obtain ⟨o,es,ep,ho,r⟩:=hm
  exact ⟨o,es,ep,k _ o (λz=>(hf _ z).2.1 rfl) ho,r⟩
 ·refine (I.hok b u e).stay (λc v hc q=>k c v ?_ q) (λ_ q=>q) λ_ _ q=>q
  rcases hc with z | z
  ·rw [z];exact nit b u e
  ·exact nit c _ z
theorem Inv.turnedLay {pins:List (Addr×Obj)}{σ:St}{H:Hp}{s:Shared}{h':Heap}{t':Nat}{wr:List Addr}{a:Addr}{o:HO} (I:Inv X pins σ H s) (hf:∀ b∈wr,FpOk X pins H b) (k:∀ b o,b∉wr->s.heap.get? b=some o->h'.get? b=some o)
  (ha:s.heap.objs.size<=a) (new:ObjOk X.prog X.w (upd H a o) h' a o):Inv X pins σ (upd H a o) { s with heap:=h',toks:=t' }:=by
 have nit:∀ b u,H b=some u->b∉wr:=λb u e z=>by rw [(hf b z).1] at e;cases e
 have hfr:H a=none:=I.hok.fresh ha
 refine I.step (g':=s.gens) (d':=s.drawn) (ch:=wr) (λb hb=>⟨(hf b hb).2.2.2.1,(hf b hb).2.1,(hf b hb).2.2.2.2.1,(hf b hb).2.2.2.2.2⟩) (λb o _ _ hc e _=>k b o hc e) (λb o _ _ hc e _=>⟨o.slots,k b o hc e⟩)
  (λb ob _ e n=>by rw [upd_ne (Nat.ne_of_lt (Nat.lt_of_lt_of_le (Heap.lt_size e) ha))];exact n)
  (λb o hc e=>⟨o,k b o hc e⟩) (λb xs e=>by rw [upd_ne (ne_of_none e hfr)];exact e) (λb ob u e=>by rw [upd_ne (ne_of_none e hfr)];exact e) (λb ps e=>⟨#[],by rw [upd_ne (ne_of_none e hfr),e];simp⟩) (λm hm=>?_) (λb u e=>?_) I.bare
 ·obtain ⟨o,es,ep,ho,r⟩:=hm
  exact ⟨o,es,ep,k _ o (λz=>(hf _ z).2.1 rfl) ho,r⟩
 ·by_cases hb:b=a
  ·subst hb;rw [upd_same] at e;cases e;exact new
  ·rw [upd_ne hb] at e
   refine (I.hok b u e).stay (λc v hc q=>k c v ?_ q) (λc q=>by rw [upd_ne (ne_of_none q hfr)];exact q) λc xs q=>by rw [upd_ne (ne_of_none q hfr)];exact q
   rcases hc with z | z
   ·rw [z];exact nit b u e
   ·exact nit c _ z
def Its (z:Str):It:=⟨λi _=>i<z.length,λi H x H'=>H' = H/\∃ c,z.cps[i]? = some c/\x = .str ⟨#[c]⟩,λi _=>z.length<=i⟩
theorem turn_str {P:Program}{w:World}{K:PySem.W.Frag}{tg:Expr}{ty:String} (it:Addr) (z:Str) (t:Tok)
  (hW:∀ A:Around,A.handled=none->Walks P w A it [it] [it] z.cps.size (SignAt z) (λi h=>h.IsStrIter it ty z t i))
  (hty:["enumerate","zip","dict_itemiterator","dict_reverseitemiterator","odict_iterator","itertools.zip_longest","itertools.pairwise"].contains ty=false)
  (hself:∀ (A:Around) (i:Nat) (s:Shared) (Q:Value->Shared->Prop) (E:Value->Shared->Prop),s.heap.IsStrIter it ty z t i->Q (.ref it) s->wpAny (model P w) A (pyIter (.ref it)) Q E s) :
  Turn P w K tg (Its z) [it] it (λi h=>i<=z.length/\h.IsStrIter it ty z t i) where
 mem:=by simp
 obj:=λi h st b hb=>by
  have e:b=it:=by simpa using hb
  subst e
  obtain ⟨_,o,e,c,d⟩:=st
  exact ⟨o,e,λv z=>by rw [d] at z;cases z⟩
 keep:=λi h h' st k=>by
  obtain ⟨hi,o,e,c,d⟩:=st
  exact ⟨hi,o,k it (by simp) o e,c,d⟩
 item:=by
  intro X hP hw hK hc i pins s σ H E I hf st hg
  subst hP hw hK
  refine (hW X.A (I.ok.hd hc)).item i s _ _ hg st.2 λv h' tk hv st' kk=>?_
  obtain ⟨c,u,ec,rfl⟩:=hv
  have I1:Inv X pins σ H { s with heap:=h',toks:=tk }:=I.turnedL hf kk
  obtain ⟨o,e,cl,d⟩:=id st'
  exact ⟨_,rfl,go_of (s:={ s with heap:=h',toks:=tk }) e cl d hty ⟨.str ⟨#[c]⟩,H,I1,⟨u,rfl⟩,⟨rfl,c,ec,rfl⟩,⟨hg,st'⟩,λb hb=>(hf b hb).1⟩⟩
 done:=by
  intro X hP hw hK hc i pins s σ H E I hf st hg
  subst hP hw hK
  have e:i=z.cps.size:=Nat.le_antisymm st.1 hg
  subst e
  exact (hW X.A (I.ok.hd hc)).done s _ _ st.2 λh' tk kk=>⟨rfl,I.turnedL hf kk⟩
 self:=λA i s Q E st h=>hself A i s Q E st.2 h
def iStr (tl:TE):TI:=λσ H R=>tl σ H λx H1=>∃ z,x = .str z/\R (Its z) H1
theorem iter_str {tg:Expr}{z:Str}{t:Tok}{pins:List (Addr×Obj)}{s:Shared}{σ:St}{H:Hp}{R:It->Hp->Prop} (I:Inv X pins σ H s) (q:R (Its z) H):wpAny (model X.prog X.w) X.A (pyIter (.str z t)) (PIE X pins σ tg R) X.xe s:=by
 have fp:∀ b∈[s.heap.objs.size],FpOk X pins H b:=λb hb=>by
  have e:b=s.heap.objs.size:=by simpa using hb
  subst e
  exact I.fpOk (Nat.le_refl _) (I.hok.fresh (Nat.le_refl _))
 cases ha:z.cps.all (· < 128) with
 | false=>
  refine wpAny_pyIter_wide ha ?_
  exact ⟨s.heap.objs.size,[s.heap.objs.size],_,_,H,rfl,I.kept (t':=s.toks) λb o e=>Heap.get?_push_of_some _ e,turn_str (ty:= "str_iterator") _ z t (λA hA=>Walks.strWide hA _ z t) (by decide) (λA i s Q E st h=>wpAny_pyIter_striter_wide st h),
   ⟨Nat.zero_le _,_,Heap.get?_push_size _ rfl,rfl,rfl⟩,fp,q⟩
 | true=>
  refine wpAny_pyIter_ascii ha ?_
  exact ⟨s.heap.objs.size,[s.heap.objs.size],_,_,H,rfl,I.kept (t':=s.toks) λb o e=>Heap.get?_push_of_some _ e,turn_str (ty:= "str_ascii_iterator") _ z t (λA hA=>Walks.strAscii hA _ z t) (by decide) (λA i s Q E st h=>wpAny_pyIter_striter_ascii st h),
   ⟨Nat.zero_le _,_,Heap.get?_push_size _ rfl,rfl,rfl⟩,fp,q⟩
theorem pi_str {tg l:Expr}{tl:TE} (hl:PE X l tl):PI X tg l (iStr tl):=by
 intro pins s σ H R I h
 refine thn (hl pins s σ H _ I h) λv s1 ⟨x,H1,I1,r1,z,e,q⟩=>?_
 subst e
 obtain ⟨t,rfl⟩:=r1
 exact iter_str I1 q
end
end L2
namespace L2
open PySem PySem.Spec PyProof.Rows
mutual
inductive Den (K:PySem.W.Frag) (H:Hp):V->PyData->Prop
 | non:Den K H .non .none
 | bl (b:Bool):Den K H (.bl b) (.bool b)
 | int (i:Int):Den K H (.int i) (.int i)
 | str {x:Str} (h:PyData.strOk x=true):Den K H (.str x) (.str x)
 | lst {a:Addr}{xs:List V}{ds:List PyData} (h:SqL K H a xs) (t:Dens K H xs ds):Den K H (.ref a) (.list ds)
 | tup {a:Addr}{xs:List V}{ds:List PyData} (h:SqT K H a xs) (t:Dens K H xs ds):Den K H (.ref a) (.tuple ds)
inductive Dens (K:PySem.W.Frag) (H:Hp):List V->List PyData->Prop
 | nil:Dens K H [] []
 | cons {x:V}{xs:List V}{d:PyData}{ds:List PyData} (h:Den K H x d) (t:Dens K H xs ds):Dens K H (x::xs) (d::ds)
end
section
variable {K:PySem.W.Frag}{H H':Hp}
theorem Dens.length:∀ {xs:List V}{ds:List PyData},Dens K H xs ds->xs.length=ds.length
 | _,_,.nil=>rfl
 | _,_,.cons _ t=>by rw [List.length_cons,List.length_cons,t.length]
theorem Dens.append:∀ {xs ys:List V}{ds es:List PyData},Dens K H xs ds->Dens K H ys es->Dens K H (xs++ys) (ds++es)
 | _,_,_,_,.nil,s=>s
 | _,_,_,_,.cons r t,s=>.cons r (t.append s)
theorem Dens.get:∀ {xs:List V}{ds:List PyData}{i:Nat}{x:V},Dens K H xs ds->xs[i]? = some x->∃ d,ds[i]? = some d/\Den K H x d
 | _,_,_,_,.nil,e=>by simp at e
 | _,_,0,_,.cons r _,e=>by simp at e;subst e;exact ⟨_,rfl,r⟩
 | _,_,i+1,x,.cons _ t,e=>by
  obtain ⟨u,h1,h2⟩:=Dens.get (i:=i) (x:=x) t (by simpa using e)
  exact ⟨u,by simpa using h1,h2⟩
theorem Dens.getD:∀ {xs:List V}{ds:List PyData}{i:Nat}{d:PyData},Dens K H xs ds->ds[i]? = some d->∃ x,xs[i]? = some x/\Den K H x d
 | _,_,_,_,.nil,e=>by simp at e
 | _,_,0,_,.cons r _,e=>by simp at e;subst e;exact ⟨_,rfl,r⟩
 | _,_,i+1,x,.cons _ t,e=>by
  obtain ⟨u,h1,h2⟩:=Dens.getD (i:=i) t (by simpa using e)
  exact ⟨u,by simpa using h1,h2⟩
mutual
theorem Den.keep (h1:∀ a xs,SqL K H a xs->SqL K H' a xs) (h2:∀ a xs,SqT K H a xs->SqT K H' a xs):∀ {v:V}{d:PyData},Den K H v d->Den K H' v d
 | _,_,.non=>.non
 | _,_,.bl b=>.bl b
 | _,_,.int i=>.int i
 | _,_,.str h=>.str h
 | _,_,.lst h t=>.lst (h1 _ _ h) (Dens.keep h1 h2 t)
 | _,_,.tup h t=>.tup (h2 _ _ h) (Dens.keep h1 h2 t)
theorem Dens.keep (h1:∀ a xs,SqL K H a xs->SqL K H' a xs) (h2:∀ a xs,SqT K H a xs->SqT K H' a xs):∀ {v:List V}{d:List PyData},Dens K H v d->Dens K H' v d
 | _,_,.nil=>.nil
 | _,_,.cons r t=>.cons (Den.keep h1 h2 r) (Dens.keep h1 h2 t)
end
theorem Same.seqT {a:Addr}{xs:List V} (e:Same H H') (h:SqT K H a xs):SqT K H' a xs:=by
 rcases h with (h | ⟨o,h⟩) | h
 ·exact .inl (.inl (e _ _ h))
 ·exact .inl (.inr ⟨o,e _ _ h⟩)
 ·exact .inr h
theorem Den.same {v:V}{d:PyData} (e:Same H H') (h:Den K H v d):Den K H' v d:=h.keep (λ_ _ q=>e.seq q) λ_ _ q=>e.seqT q
theorem Dens.same {v:List V}{d:List PyData} (e:Same H H') (h:Dens K H v d):Dens K H' v d:=h.keep (λ_ _ q=>e.seq q) λ_ _ q=>e.seqT q
mutual
theorem Den.lay:∀ {v:V}{d:PyData},Den K H v d->d.canLay0=true
 | _,_,.non=>rfl
 | _,_,.bl b=>rfl
 | _,_,.int i=>rfl
 | _,_,.str h=>h
 | _,_,.lst h t=>Dens.lay t
 | _,_,.tup h t=>Dens.lay t
theorem Dens.lay:∀ {v:List V}{d:List PyData},Dens K H v d->PyData.canLayAll0 d=true
 | _,_,.nil=>rfl
 | _,_,.cons r t=>by rw [PyData.canLayAll0,Den.lay r,Dens.lay t];rfl
end
end
section
variable {X:Cx}{pins:List (Addr×Obj)}{σ:St}{H:Hp}{s:Shared}
mutual
theorem Inv.reads (I:Inv X pins σ H s):∀ {v:V}{d:PyData}{u:Value},Den X.K H v d->RelV v u->∃ as,Reads s.heap u d as
 | _,_,_,.non,r=>by cases r;exact ⟨_,.none⟩
 | _,_,_,.bl b,r=>by cases r;exact ⟨_,.bool b⟩
 | _,_,_,.int i,r=>by obtain ⟨t,rfl⟩:=r;exact ⟨_,.int i t⟩
 | _,_,_,.str (x:=x) h,r=>by obtain ⟨t,rfl⟩:=r;exact ⟨_,.str x t⟩
 | _,_,_,.lst h t,r=>by
  cases r
  obtain ⟨its,rv,⟨o,n,e,c,_,d⟩,_⟩:=I.list h
  obtain ⟨as,ra⟩:=I.readsAll t rv
  exact ⟨_,.list e c d (by simpa using ra)⟩
 | _,_,_,.tup h t,r=>by
  cases r
  obtain ⟨its,rv,⟨o,e,c,n,d⟩,_⟩:=I.tuple h
  obtain ⟨as,ra⟩:=I.readsAll t rv
  exact ⟨_,.tuple e c d (by simpa using ra)⟩
theorem Inv.readsAll (I:Inv X pins σ H s):∀ {vs:List V}{ds:List PyData}{us:List Value},Dens X.K H vs ds->Vals vs us->∃ as,ReadsAll s.heap us ds as
 | _,_,_,.nil,.nil=>⟨_,.nil⟩
 | _,_,_,.cons h t,.cons r rr=>by
  obtain ⟨as,ra⟩:=I.reads h r
  obtain ⟨bs,rb⟩:=I.readsAll t rr
  exact ⟨_,.cons ra rb⟩
end
def rEqD (K:PySem.W.Frag):R2:=λx y H Q=>∃ d e,Den K H x d/\Den K H y e/\d.depth<=100/\Q (.bl (PyData.eqv d e)) H
def rNeD (K:PySem.W.Frag):R2:=λx y H Q=>∃ d e,Den K H x d/\Den K H y e/\d.depth<=100/\Q (.bl (!PyData.eqv d e)) H
theorem units_depth {k a b:Nat}{A:Around} (hr:Room k A) (h:a<=100):A.units+min a b<cLine:=by
 have:=hr.un
 have:min a b<=a:=Nat.min_le_left _ _
 lia
theorem op_eqD {k:Nat} (hr:Room k X.A):OpR X (compareOp .Eq) (rEqD X.K):=by
 intro pins s σ H x y v u Q I rx ry h
 obtain ⟨d,e,hd,he,hl,q⟩:=h
 obtain ⟨as,ra⟩:=I.reads hd rx
 obtain ⟨bs,rb⟩:=I.reads he ry
 exact SeqAt.compareEq_reads ra rb hd.lay he.lay (units_depth hr hl) ⟨.bl _,H,I,rfl,q⟩
theorem op_neD {k:Nat} (hr:Room k X.A):OpR X (compareOp .NotEq) (rNeD X.K):=by
 intro pins s σ H x y v u Q I rx ry h
 obtain ⟨d,e,hd,he,hl,q⟩:=h
 obtain ⟨as,ra⟩:=I.reads hd rx
 obtain ⟨bs,rb⟩:=I.reads he ry
 exact SeqAt.compareNe_reads ra rb hd.lay he.lay (units_depth hr hl) ⟨.bl _,H,I,rfl,q⟩
theorem op_le_str:OpR X (compareOp .LtE) (λx y H Q=>∃ i j,x = .str i/\y = .str j/\Q (.bl (!decide (j.cps.toList<i.cps.toList))) H):=by
 intro pins s σ H x y v u Q I rx ry h
 obtain ⟨i,j,rfl,rfl,q⟩:=h
 obtain ⟨t,rfl⟩:=rx
 obtain ⟨t',rfl⟩:=ry
 exact PySem.P.le_str ⟨.bl _,H,I,rfl,q⟩
def rSlS:V->Option Int->Option Int->Hp->VK->Prop:=λx lo hi H Q=>∃ z,x = .str z/\z.length<=sizeLine/\Q (.str (Txt.slice z lo hi)) H
theorem sl_str:SlR X rSlS:=by
 intro pins s σ H x v vl vu lo hi sl Q I rx hs pl pu h
 obtain ⟨z,rfl,hz,q⟩:=h
 obtain ⟨t,rfl⟩:=rx
 refine ⟨"str",_,F.slot_str_getitem.lookup,typeIs_str _ _ _,?_⟩
 have fin:∀ t' k,EP X pins σ Q (.str (Txt.slice z lo hi) t') { s with toks:=k }:=λt' k=>⟨.str _,H,I.tok _,⟨_,rfl⟩,q⟩
 cases pl with
 | none=>
  cases pu with
  | none=>exact wpAny_getItem_str_slice (l:=none) (u:=none) (st:=none) hs rfl (post_val_or_str ⟨Nat.le_trans (Txt.slice_le z _ _) hz,fin⟩)
  | int j u=>exact wpAny_getItem_str_slice (l:=none) (u:=some (j,u)) (st:=none) hs rfl (post_val_or_str ⟨Nat.le_trans (Txt.slice_le z _ _) hz,fin⟩)
 | int i t1=>
  cases pu with
  | none=>exact wpAny_getItem_str_slice (l:=some (i,t1)) (u:=none) (st:=none) hs rfl (post_val_or_str ⟨Nat.le_trans (Txt.slice_le z _ _) hz,fin⟩)
  | int j u=>exact wpAny_getItem_str_slice (l:=some (i,t1)) (u:=some (j,u)) (st:=none) hs rfl (post_val_or_str ⟨Nat.le_trans (Txt.slice_le z _ _) hz,fin⟩)
theorem vals_strs:∀ (l:List (Str×Tok)),Vals ((l.map (·.1)).map V.str) (strValues l)
 | []=>.nil
 | p::r=>.cons ⟨p.2,rfl⟩ (vals_strs r)
def rSplit:V->List V->Hp->VK->Prop:=λx vs H Q=>∃ z y,x = .str z/\vs=[.str y]/\y.length≠0/\z.length+2<=sizeLine/\∀ l,H l=none->Q (.ref l) (upd H l (.lst ((Txt.split z y).map V.str)))
theorem split_len (z y:Str) (hz:z.length+2<=sizeLine):(Builtin.Str.partsBetween z (Builtin.Str.occurrences z y 0 z.length (z.length+1)) y.length).length<=sizeLine:=by
 have e1:=StrLaws.occ_length_le z y 0 z.length (z.length+1)
 (rw [length_partsBetween];lia)
theorem mt_split:MtR X "str.split" rSplit:=by
 intro pins s σ H x vs v us Q I rx rv h
 obtain ⟨z,y,rfl,rfl,hy,hz,q⟩:=h
 obtain ⟨t,rfl⟩:=rx
 obtain ⟨u,rfl,ru⟩:=rv.one
 obtain ⟨t',rfl⟩:=ru
 have hn:=split_len z y hz
 have fin:∀ (l:List (Str×Tok)) (tk:Nat),l.map (·.1)=Txt.split z y->EP X pins σ Q (.ref s.heap.objs.size) { s with heap:=s.heap.push { cls:=.type "list",data:=.seq (strValues l).toArray },toks:=tk }:=λl tk e=>by
  have hl:((Txt.split z y).map V.str).length<=sizeLine:=by
   rw [List.length_map]
   unfold Txt.split
   split
   ·show 1<=sizeLine;lia
   ·split
    ·show 1<=sizeLine;lia
    ·exact hn
  refine ⟨.ref s.heap.objs.size,_,I.laid (o:=.lst ((Txt.split z y).map V.str)) (λb ob e=>Heap.get?_push_of_some _ e) (Nat.le_refl _) ⟨hl,strValues l,0,?_,Heap.get?_push_size _ rfl⟩,rfl,q _ (I.hok.fresh (Nat.le_refl _))⟩
  rw [<-e]
  exact vals_strs l
 have hy':(y.length == 0)=false:=by simpa using hy
 cases h1:(decide (z.length<y.length) || decide (Builtin.Str.strKind z<Builtin.Str.strKind y))
 ·cases hf:(Builtin.Str.occurrences z y 0 z.length (z.length+1)).isEmpty
  ·refine call_meets F.slot_str_split (typeIs_str _ _ _) F.entry_str_split (F.args_str_split_2 _ _) (meets_str_split_sep z y t t' h1 hy' hf (by lia) hn) ?_
   show wants (EP X pins σ Q) X.xe _ { s with toks:=_,heap:=s.heap.push { cls:=.type "list",data:=.seq (strsFrom s.toks (Builtin.Str.partsBetween z (Builtin.Str.occurrences z y 0 z.length (z.length+1)) y.length)).toArray } }
   rw [strsFrom_eq]
   exact fin (numbered s.toks _) _ ((numbered_texts _ _).trans ((if_neg (ne_true_of_eq_false h1)).trans (if_neg (ne_true_of_eq_false hf))).symm)
  ·exact call_meets F.slot_str_split (typeIs_str _ _ _) F.entry_str_split (F.args_str_split_2 _ _) (meets_str_split_not_found z y t t' h1 hy' hf)
    (fin [(z,t)] s.toks ((if_neg (ne_true_of_eq_false h1)).trans (if_pos hf)).symm)
 ·exact call_meets F.slot_str_split (typeIs_str _ _ _) F.entry_str_split (F.args_str_split_2 _ _) (meets_str_split_cannot_occur z y t t' h1)
   (fin [(z,t)] s.toks (if_pos h1).symm)
theorem strs_of:∀ {ys:List Str}{us:List Value},Vals (ys.map V.str) us->∃ l:List (Str×Tok),us=strValues l/\l.map (·.1)=ys
 | [],_,.nil=>⟨[],rfl,rfl⟩
 | y::ys,_,.cons r t=>by
  obtain ⟨tk,rfl⟩:=r
  obtain ⟨l,rfl,rfl⟩:=strs_of t
  exact ⟨(y,tk)::l,rfl,rfl⟩
def rJoin (K:PySem.W.Frag):V->List V->Hp->VK->Prop:=λx vs H Q=>∃ z l ys,x = .str z/\vs=[.ref l]/\SqL K H l (ys.map V.str)/\JoinOk z ys=true/\Q (.str (Txt.join z ys)) H
theorem mt_join:MtR X "str.join" (rJoin X.K):=by
 intro pins s σ H x vs v us Q I rx rv h
 obtain ⟨z,l,ys,rfl,rfl,hl,hok,q⟩:=h
 obtain ⟨t,rfl⟩:=rx
 obtain ⟨u,rfl,ru⟩:=rv.one
 cases ru
 obtain ⟨its,r,pl,_⟩:=I.list hl
 obtain ⟨l',rfl,e⟩:=strs_of r
 exact SC.join pl.isList e hok λt' k=>⟨.str _,H,I.tok _,⟨_,rfl⟩,q⟩
end
end L2
namespace L2
open PySem PySem.Spec PyProof.Rows
mutual
def ltv:PyData->PyData->Bool
 | .int a,.int b=>decide (a<b)
 | .str x,.str y=>decide (x.cps.toList<y.cps.toList)
 | .list xs,.list ys=>ltvAll xs ys
 | .tuple xs,.tuple ys=>ltvAll xs ys
 | _,_=>false
def ltvAll:List PyData->List PyData->Bool
 | [],[]=>false
 | [],_::_=>true
 | _::_,[]=>false
 | x::xs,y::ys=>if PyData.eqv x y=true then ltvAll xs ys else ltv x y
end
mutual
def cmpb:PyData->PyData->Bool
 | .int _,.int _=>true
 | .str _,.str _=>true
 | .list xs,.list ys=>cmpAll xs ys
 | .tuple xs,.tuple ys=>cmpAll xs ys
 | _,_=>false
def cmpAll:List PyData->List PyData->Bool
 | [],_=>true
 | _::_,[]=>true
 | x::xs,y::ys=>if PyData.eqv x y=true then cmpAll xs ys else cmpb x y
end
theorem ltvAll_cons (x y:PyData) (xs ys:List PyData):ltvAll (x::xs) (y::ys)=if PyData.eqv x y=true then ltvAll xs ys else ltv x y:=by rw [ltvAll]
theorem cmpAll_cons (x y:PyData) (xs ys:List PyData):cmpAll (x::xs) (y::ys)=if PyData.eqv x y=true then cmpAll xs ys else cmpb x y:=by rw [cmpAll]
def LtAt (A:Around) (s:Shared) (y x:Value) (b:Bool):Prop:=
 ∀ (prog:Program) (w:World) (E:Value->Shared->Prop) (Q:Value->Shared->Prop),Q (.bool b) s->wpAny (model prog w) A (richCompare .Lt y x) Q E s
def LtAll (xs ys:List PyData):Prop:=∀ x y,x∈xs->y∈ys->cmpb x y=true->∀ (A:Around) (s:Shared) (a b:Value) (as bs:List Addr),Reads s.heap a x as->Reads s.heap b y bs->x.canLay0=true->y.canLay0=true->A.units+x.depth<cLine->LtAt A s a b (ltv x y)
theorem LtAll.tail {x y:PyData}{xs ys:List PyData} (h:LtAll (x::xs) (y::ys)):LtAll xs ys:=λa b ha hb=>h a b (List.mem_cons_of_mem _ ha) (List.mem_cons_of_mem _ hb)
section
open PySem.SeqAt
open PySem.AutoSeq1 (wpAny_loadPart')
open PySem.MeetsSeq PySem.MeetsSeq2 PySem.MeetsSeq3
structure Sqs (hp:Heap) (i:Nat) (its its2:Array Value) (xs ys:List PyData):Prop where
 in1:i<=its.size
 in2:i<=its2.size
 r1:∃ as,ReadsAll hp (its.toList.drop i) xs as
 r2:∃ bs,ReadsAll hp (its2.toList.drop i) ys bs
theorem Sqs.next {hp:Heap}{i:Nat}{its its2:Array Value}{xs ys:List PyData} (q:Sqs hp i its its2 xs ys) (h1:i<its.size) (h2:i<its2.size):∃ x xs' y ys',xs=x::xs'/\ys=y::ys'/\(∃ as,Reads hp its[i] x as)/\(∃ bs,Reads hp its2[i] y bs)/\Sqs hp (i+1) its its2 xs' ys':=by
 obtain ⟨_,_,⟨as,ra⟩,bs,rb⟩:=q
 rw [List.drop_eq_getElem_cons (by rw [Array.length_toList];exact h1),Array.getElem_toList] at ra
 rw [List.drop_eq_getElem_cons (by rw [Array.length_toList];exact h2),Array.getElem_toList] at rb
 cases ra with
 | cons r1 t1=>
  cases rb with
  | cons r2 t2=>exact ⟨_,_,_,_,rfl,rfl,⟨_,r1⟩,⟨_,r2⟩,h1,h2,⟨_,t1⟩,⟨_,t2⟩⟩
end
end L2
namespace L2
open PySem PySem.Spec PyProof.Rows
section
open PySem.SeqAt
open PySem.MeetsSeq PySem.MeetsSeq2 PySem.MeetsSeq3
variable {prog:Program}{w:World}{A:Around}{E:Value->Shared->Prop}{s:Shared}
end
end L2
namespace L2
open PySem PySem.Spec PyProof.Rows PySem.W
structure Weak (n:Nat) (lt:Nat->Nat->Bool):Prop where
 irrefl:∀ a,a<n->lt a a=false
 negTrans:∀ a b c,a<n->b<n->c<n->lt a c=true->lt a b=true\/lt b c=true
 asymm:∀ a b,a<n->b<n->lt a b=true->lt b a=false
section
variable {n:Nat}{lt:Nat->Nat->Bool}{cmp:Nat->Nat->(Bool->Shared->Prop)->Shared->Prop}{P:Shared->Prop}
end
end L2
namespace L2
open PySem PySem.Spec PyProof.Rows PySem.W
inductive Sh where
 | int | str | list (e:Sh) | tnil | tcons (a r:Sh)
def Sh.has:Sh->PyData->Prop
 | .int,d=>∃ i,d = .int i
 | .str,d=>∃ x,d = .str x
 | .list e,d=>∃ ds,d = .list ds/\∀ x∈ds,Sh.has e x
 | .tnil,d=>d = .tuple []
 | .tcons a r,d=>∃ x ds,d = .tuple (x::ds)/\Sh.has a x/\Sh.has r (.tuple ds)
structure ShOk (S:PyData->Prop):Prop where
 cmp:∀ d e,S d->S e->cmpb d e=true
 eqv:∀ d e,S d->S e->(PyData.eqv d e=true↔d=e)
 irr:∀ d,S d->ltv d d=false
 tot:∀ d e,S d->S e->ltv d e=false->ltv e d=false->d=e
 trans:∀ d e f,S d->S e->S f->ltv d e=true->ltv e f=true->ltv d f=true
theorem ShOk.asymm {S:PyData->Prop} (o:ShOk S) {d e:PyData} (hd:S d) (he:S e) (h:ltv d e=true):ltv e d=false:=by
 cases q:ltv e d with
 | false=>rfl
 | true=>
  have:=o.trans d e d hd he hd h q
  rw [o.irr d hd] at this;cases this
theorem ShOk.neg {S:PyData->Prop} (o:ShOk S) {a b c:PyData} (ha:S a) (hb:S b) (hc:S c) (h:ltv a c=true):ltv a b=true\/ltv b c=true:=by
 cases q:ltv a b with
 | true=>exact .inl rfl
 | false=>
  cases q2:ltv b a with
  | true=>exact .inr (o.trans b a c hb ha hc q2 h)
  | false=>
   have:=o.tot a b ha hb q q2
   subst this
   exact .inr h
structure ShAll (S:PyData->Prop) (L:List PyData->Prop):Prop where
 cmp:∀ d e,L d->L e->cmpAll d e=true
 eqv:∀ d e,L d->L e->(PyData.eqvAll d e=true↔d=e)
 irr:∀ d,L d->ltvAll d d=false
 tot:∀ d e,L d->L e->ltvAll d e=false->ltvAll e d=false->d=e
 trans:∀ d e f,L d->L e->L f->ltvAll d e=true->ltvAll e f=true->ltvAll d f=true
theorem list_lex {a b:PyData}{S:PyData->Prop} (o:ShOk S):ShAll S (λl=>∀ x∈l,S x) where
 cmp:=by
  intro d
  induction d with
  | nil=>intro e _ _;rw [cmpAll]
  | cons x xs ih=>
   intro e hd he
   cases e with
   | nil=>rw [cmpAll]
   | cons y ys=>
    rw [cmpAll_cons]
    split
    ·exact ih ys (λz hz=>hd z (List.mem_cons_of_mem _ hz)) λz hz=>he z (List.mem_cons_of_mem _ hz)
    ·exact o.cmp x y (hd x List.mem_cons_self) (he y List.mem_cons_self)
 eqv:=by
  intro d
  induction d with
  | nil=>
   intro e _ _
   cases e with
   | nil=>simp [PyData.eqvAll]
   | cons y ys=>simp [PyData.eqvAll]
  | cons x xs ih=>
   intro e hd he
   cases e with
   | nil=>simp [PyData.eqvAll]
   | cons y ys=>
    rw [PyData.eqvAll,Bool.and_eq_true,o.eqv x y (hd x List.mem_cons_self) (he y List.mem_cons_self),ih ys (λz hz=>hd z (List.mem_cons_of_mem _ hz)) λz hz=>he z (List.mem_cons_of_mem _ hz)]
    simp
 irr:=by
  intro d
  induction d with
  | nil=>intro _;rw [ltvAll]
  | cons x xs ih=>
   intro hd
   rw [ltvAll_cons,if_pos ((o.eqv x x (hd x List.mem_cons_self) (hd x List.mem_cons_self)).mpr rfl)]
   exact ih λz hz=>hd z (List.mem_cons_of_mem _ hz)
 tot:=by
  intro d
  induction d with
  | nil=>
   intro e _ _ h1 h2
   cases e with
   | nil=>rfl
   | cons y ys=>rw [ltvAll] at h1;cases h1
  | cons x xs ih=>
   intro e hd he h1 h2
   cases e with
   | nil=>rw [ltvAll] at h2;cases h2
   | cons y ys=>
    have sx:=hd x List.mem_cons_self
    have sy:=he y List.mem_cons_self
    rw [ltvAll_cons] at h1 h2
    by_cases e1:x=y
    ·subst e1
     rw [if_pos ((o.eqv x x sx sx).mpr rfl)] at h1 h2
     rw [ih ys (λz hz=>hd z (List.mem_cons_of_mem _ hz)) (λz hz=>he z (List.mem_cons_of_mem _ hz)) h1 h2]
    ·rw [if_neg (λz=>e1 ((o.eqv x y sx sy).mp z))] at h1
     rw [if_neg (λz=>e1 ((o.eqv y x sy sx).mp z).symm)] at h2
     exact absurd (o.tot x y sx sy h1 h2) e1
 trans:=by
  intro d
  induction d with
  | nil=>
   intro e f _ _ _ h1 h2
   cases f with
   | nil=>cases e <;> (rw [ltvAll] at h2;cases h2)
   | cons z zs=>rw [ltvAll]
  | cons x xs ih=>
   intro e f hd he hf h1 h2
   cases e with
   | nil=>rw [ltvAll] at h1;cases h1
   | cons y ys=>
    cases f with
    | nil=>rw [ltvAll] at h2;cases h2
    | cons z zs=>
     have sx:=hd x List.mem_cons_self
     have sy:=he y List.mem_cons_self
     have sz:=hf z List.mem_cons_self
     rw [ltvAll_cons] at h1 h2 ⊢
     by_cases e1:x=y
     ·subst e1
      rw [if_pos ((o.eqv x x sx sx).mpr rfl)] at h1
      by_cases e2:x=z
      ·subst e2
       rw [if_pos ((o.eqv x x sx sx).mpr rfl)] at h2 ⊢
       exact ih ys zs (λw hw=>hd w (List.mem_cons_of_mem _ hw)) (λw hw=>he w (List.mem_cons_of_mem _ hw)) (λw hw=>hf w (List.mem_cons_of_mem _ hw)) h1 h2
      ·rw [if_neg (λw=>e2 ((o.eqv x z sx sz).mp w))] at h2 ⊢
       exact h2
     ·rw [if_neg (λw=>e1 ((o.eqv x y sx sy).mp w))] at h1
      by_cases e2:y=z
      ·subst e2
       rw [if_neg (λw=>e1 ((o.eqv x y sx sy).mp w))]
       exact h1
      ·rw [if_neg (λw=>e2 ((o.eqv y z sy sz).mp w))] at h2
       by_cases e3:x=z
       ·subst e3
        have:=o.asymm sx sy h1
        rw [this] at h2;cases h2
       ·rw [if_neg (λw=>e3 ((o.eqv x z sx sz).mp w))]
        exact o.trans x y z sx sy sz h1 h2
theorem str_lt_tri {x y:Str} (h1:decide (x.cps.toList<y.cps.toList)=false) (h2:decide (y.cps.toList<x.cps.toList)=false):x=y:=by
 have e:x.cps.toList=y.cps.toList:=List.le_antisymm (by simpa using h2) (by simpa using h1)
 cases x;cases y
 simp only [Str.mk.injEq]
 exact Array.toList_inj.mp e
theorem Sh.ok:∀ sh:Sh,ShOk sh.has
 | .int=>by
  refine ⟨?_,?_,?_,?_,?_⟩
  ·rintro _ _ ⟨i,rfl⟩ ⟨j,rfl⟩;rw [cmpb]
  ·rintro _ _ ⟨i,rfl⟩ ⟨j,rfl⟩;simp [PyData.eqv]
  ·rintro _ ⟨i,rfl⟩;rw [ltv];simp
  ·rintro _ _ ⟨i,rfl⟩ ⟨j,rfl⟩ h1 h2
   rw [ltv] at h1 h2
   have:i=j:=by simp at h1 h2;lia
   rw [this]
  ·rintro _ _ _ ⟨i,rfl⟩ ⟨j,rfl⟩ ⟨k,rfl⟩ h1 h2
   rw [ltv] at h1 h2 ⊢
   simp at h1 h2 ⊢;lia
 | .str=>by
  refine ⟨?_,?_,?_,?_,?_⟩
  ·rintro _ _ ⟨i,rfl⟩ ⟨j,rfl⟩;rw [cmpb]
  ·rintro _ _ ⟨i,rfl⟩ ⟨j,rfl⟩;simp [PyData.eqv]
  ·rintro _ ⟨i,rfl⟩;rw [ltv];exact decide_eq_false (List.lt_irrefl _)
  ·rintro _ _ ⟨i,rfl⟩ ⟨j,rfl⟩ h1 h2
   rw [ltv] at h1 h2
   rw [str_lt_tri h1 h2]
  ·rintro _ _ _ ⟨i,rfl⟩ ⟨j,rfl⟩ ⟨k,rfl⟩ h1 h2
   rw [ltv] at h1 h2 ⊢
   exact decide_eq_true (List.lt_trans (of_decide_eq_true h1) (of_decide_eq_true h2))
 | .list e=>by
  have L:=list_lex (a:=.none) (b:=.none) (Sh.ok e)
  refine ⟨?_,?_,?_,?_,?_⟩
  ·rintro _ _ ⟨i,rfl,hi⟩ ⟨j,rfl,hj⟩;rw [cmpb];exact L.cmp i j hi hj
  ·rintro _ _ ⟨i,rfl,hi⟩ ⟨j,rfl,hj⟩;rw [PyData.eqv,L.eqv i j hi hj];simp
  ·rintro _ ⟨i,rfl,hi⟩;rw [ltv];exact L.irr i hi
  ·rintro _ _ ⟨i,rfl,hi⟩ ⟨j,rfl,hj⟩ h1 h2
   rw [ltv] at h1 h2
   rw [L.tot i j hi hj h1 h2]
  ·rintro _ _ _ ⟨i,rfl,hi⟩ ⟨j,rfl,hj⟩ ⟨k,rfl,hk⟩ h1 h2
   rw [ltv] at h1 h2 ⊢
   exact L.trans i j k hi hj hk h1 h2
 | .tnil=>by
  refine ⟨?_,?_,?_,?_,?_⟩
  ·rintro _ _ rfl rfl;rw [cmpb,cmpAll]
  ·rintro _ _ rfl rfl;simp [PyData.eqv,PyData.eqvAll]
  ·rintro _ rfl;rw [ltv,ltvAll]
  ·rintro _ _ rfl rfl _ _;rfl
  ·rintro _ _ _ rfl rfl rfl h1 h2;rw [ltv,ltvAll] at h1;cases h1
 | .tcons a r=>by
  have oa:=Sh.ok a
  have or:=Sh.ok r
  refine ⟨?_,?_,?_,?_,?_⟩
  ·rintro _ _ ⟨x,xs,rfl,hx,hxs⟩ ⟨y,ys,rfl,hy,hys⟩
   have:=or.cmp _ _ hxs hys
   rw [cmpb] at this ⊢
   rw [cmpAll_cons]
   split
   ·exact this
   ·exact oa.cmp x y hx hy
  ·rintro _ _ ⟨x,xs,rfl,hx,hxs⟩ ⟨y,ys,rfl,hy,hys⟩
   have:=or.eqv _ _ hxs hys
   rw [PyData.eqv] at this ⊢
   rw [PyData.eqvAll,Bool.and_eq_true,oa.eqv x y hx hy,this]
   simp
  ·rintro _ ⟨x,xs,rfl,hx,hxs⟩
   have:=or.irr _ hxs
   rw [ltv] at this ⊢
   rw [ltvAll_cons,if_pos ((oa.eqv x x hx hx).mpr rfl)]
   exact this
  ·rintro _ _ ⟨x,xs,rfl,hx,hxs⟩ ⟨y,ys,rfl,hy,hys⟩ h1 h2
   have ih:=or.tot _ _ hxs hys
   rw [ltv] at h1 h2 ih
   rw [ltv] at ih
   rw [ltvAll_cons] at h1 h2
   by_cases e1:x=y
   ·subst e1
    rw [if_pos ((oa.eqv x x hx hx).mpr rfl)] at h1 h2
    have:=ih h1 h2
    injection this with this
    rw [this]
   ·rw [if_neg (λw=>e1 ((oa.eqv x y hx hy).mp w))] at h1
    rw [if_neg (λw=>e1 ((oa.eqv y x hy hx).mp w).symm)] at h2
    exact absurd (oa.tot x y hx hy h1 h2) e1
  ·rintro _ _ _ ⟨x,xs,rfl,hx,hxs⟩ ⟨y,ys,rfl,hy,hys⟩ ⟨z,zs,rfl,hz,hzs⟩ h1 h2
   have ih:=or.trans _ _ _ hxs hys hzs
   rw [ltv,ltv,ltv] at ih
   rw [ltv] at h1 h2 ⊢
   rw [ltvAll_cons] at h1 h2 ⊢
   by_cases e1:x=y
   ·subst e1
    rw [if_pos ((oa.eqv x x hx hx).mpr rfl)] at h1
    by_cases e2:x=z
    ·subst e2
     rw [if_pos ((oa.eqv x x hx hx).mpr rfl)] at h2 ⊢
     exact ih h1 h2
    ·rw [if_neg (λw=>e2 ((oa.eqv x z hx hz).mp w))] at h2 ⊢
     exact h2
   ·rw [if_neg (λw=>e1 ((oa.eqv x y hx hy).mp w))] at h1
    by_cases e2:y=z
    ·subst e2
     rw [if_neg (λw=>e1 ((oa.eqv x y hx hy).mp w))]
     exact h1
    ·rw [if_neg (λw=>e2 ((oa.eqv y z hy hz).mp w))] at h2
     by_cases e3:x=z
     ·subst e3
      have:=oa.asymm hx hy h1
      rw [this] at h2;cases h2
     ·rw [if_neg (λw=>e3 ((oa.eqv x z hx hz).mp w))]
      exact oa.trans x y z hx hy hz h1 h2
end L2
namespace L2
open PySem PySem.Spec PyProof.Rows PySem.W
inductive FirstK:Sh->Bool->Prop
 | int:FirstK .int true
 | str:FirstK .str true
 | tnil:FirstK .tnil false
 | tcons (a r:Sh):FirstK (.tcons a r) false
section
variable {X:Cx}{pins:List (Addr×Obj)}{σ:St}{H:Hp}{s:Shared}
end
end L2
namespace L2
open PySem PySem.Spec PyProof.Rows PySem.W
section
variable {X:Cx}{pins:List (Addr×Obj)}{σ:St}{H:Hp}{s:Shared}
end
end L2
namespace L2
open PySem PySem.Spec PyProof.Rows PySem.W
section
open PySem.SeqAt
open PySem.AutoSeq1 (wpAny_loadPart')
open PySem.MeetsSeq PySem.MeetsSeq2 PySem.MeetsSeq3
end
section
variable {X:Cx}
def rIsi (K:PySem.W.Frag):List V->Hp->VK->Prop:=λvs H Q=>∃ x n t b,vs=[x,.ty n]/\TyOf K H x t/\kitOne K t (.type n)=some b/\Q (.bl b) H
theorem call_isi:CallR X (.builtin "isinstance") (rIsi X.K):=by
 intro pins s σ H xs us Q I rv h
 obtain ⟨x,n,t,b,rfl,ty,e,q⟩:=h
 obtain ⟨u,w',rfl,r1,r2⟩:=vals2 rv
 obtain rfl:w' = Value.type n:=r2
 exact isinst_ok I r1 ty e λtk=>⟨.bl b,H,I.tok _,rfl,q⟩
end
end L2
namespace L2
open PySem PySem.Spec PyProof.Rows
structure DefAt (K:PySem.W.Frag) (mg:Str->Option Value) (x:Str) (st:Stmt) (ps:List Str) (f:Addr) (fd:FuncData):Prop where
 fn:Fun K x x st f fd
 bd:Binds K fd ps []
 mg:mg x=some (.ref f)
theorem Same.new {H:Hp}{p:Addr}{o:HO} (h:H p=none):Same H (upd H p o):=λb u e=>by rw [upd_ne (ne_of_none e h)];exact e
def CN (D:Addr) (Pv:List V->St->Hp->Prop):St->Hp->Prop:=λσ H=>∃ acc,H D=some (.lst acc)/\Pv acc σ H
section
variable {K:PySem.W.Frag}{g:TG}{tt:TT}{te:TE}{D:Addr}{Q:VK}{σ:St}{H:Hp}
theorem comp_gen {J:It} (n:Nat) (Pv:Nat->List V->St->Hp->Prop) (hD:H D=some (.lst [])) (h0:Pv 0 [] σ H)
  (hgo:∀ i acc σ H,i<n->H D=some (.lst acc)->Pv i acc σ H->J.go i H) (hstop:∀ acc σ H,H D=some (.lst acc)->Pv n acc σ H->J.stop n H)
  (hs:∀ i acc σ H x H',i<n->H D=some (.lst acc)->Pv i acc σ H->J.yld i H x H'->g x σ H' λσ2 H2=>tt σ2 H2 λb H3=>if b=true then te σ2 H3 λv H4=>∃ ys,H4 D=some (.lst ys)/\ys.length<sizeLine/\CN D (Pv (i+1)) σ2 (upd H4 D (.lst (ys++[v]))) else CN D (Pv (i+1)) σ2 H3)
  (hd:∀ acc σ H,H D=some (.lst acc)->Pv n acc σ H->Q (.ref D) H):CompW g tt te J D Q σ H:=by
 refine ⟨λi m σ H=>m=n - i/\i<=n/\CN D (Pv i) σ H,⟨n,by simp,Nat.zero_le _,[],hD,h0⟩,?_⟩
 rintro i m σ H ⟨rfl,hi,acc,hacc,p⟩
 by_cases hlt:i<n
 ·exact .inr ⟨hgo i acc σ H hlt hacc p,CN D (Pv (i+1)),λσ' H' p'=>⟨n - (i+1),by lia,rfl,hlt,p'⟩,λx H' y=>hs i acc σ H x H' hlt hacc p y⟩
 ·have e:i=n:=by lia
  subst e
  exact .inl ⟨hstop acc σ H hacc p,hd acc σ H hacc p⟩
theorem comp_list {a:Addr}{xs:List V} (Pv:Nat->List V->St->Hp->Prop) (hD:H D=some (.lst [])) (h0:Pv 0 [] σ H) (hl:∀ i acc σ H,i<=xs.length->H D=some (.lst acc)->Pv i acc σ H->SqL K H a xs)
  (hs:∀ i x acc σ H,xs[i]? = some x->H D=some (.lst acc)->Pv i acc σ H->g x σ H λσ2 H2=>tt σ2 H2 λb H3=>if b=true then te σ2 H3 λv H4=>∃ ys,H4 D=some (.lst ys)/\ys.length<sizeLine/\CN D (Pv (i+1)) σ2 (upd H4 D (.lst (ys++[v]))) else CN D (Pv (i+1)) σ2 H3)
  (hd:∀ acc σ H,H D=some (.lst acc)->Pv xs.length acc σ H->Q (.ref D) H):CompW g tt te (Itl K a) D Q σ H:=by
 refine comp_gen xs.length Pv hD h0 (λi acc σ H hi hacc p=>⟨xs,xs[i],hl i acc σ H (Nat.le_of_lt hi) hacc p,by simp [hi]⟩) (λacc σ H hacc p=>⟨xs,hl _ acc σ H (Nat.le_refl _) hacc p,Nat.le_refl _⟩) (λi acc σ H x H' hi hacc p y=>?_) hd
 obtain ⟨e,y⟩:=y
 subst e
 exact hs i x acc σ _ (y xs (hl i acc σ _ (Nat.le_of_lt hi) hacc p)) hacc p
theorem comp_range {lo:Int}{n:Nat} (Pv:Nat->List V->St->Hp->Prop) (hD:H D=some (.lst [])) (h0:Pv 0 [] σ H)
  (hs:∀ i acc σ H,i<n->H D=some (.lst acc)->Pv i acc σ H->g (.int (lo+i)) σ H λσ2 H2=>tt σ2 H2 λb H3=>if b=true then te σ2 H3 λv H4=>∃ ys,H4 D=some (.lst ys)/\ys.length<sizeLine/\CN D (Pv (i+1)) σ2 (upd H4 D (.lst (ys++[v]))) else CN D (Pv (i+1)) σ2 H3)
  (hd:∀ acc σ H,H D=some (.lst acc)->Pv n acc σ H->Q (.ref D) H):CompW g tt te (Itr lo n) D Q σ H:=by
 refine comp_gen n Pv hD h0 (λi acc σ H hi hacc p=>hi) (λacc σ H hacc p=>Nat.le_refl _) (λi acc σ H x H' hi hacc p y=>?_) hd
 obtain ⟨e,y⟩:=y
 subst e y
 exact hs i acc σ _ hi hacc p
theorem comp_str {z:Str} (Pv:Nat->List V->St->Hp->Prop) (hD:H D=some (.lst [])) (h0:Pv 0 [] σ H)
  (hs:∀ i c acc σ H,z.cps[i]? = some c->H D=some (.lst acc)->Pv i acc σ H->g (.str ⟨#[c]⟩) σ H λσ2 H2=>tt σ2 H2 λb H3=>if b=true then te σ2 H3 λv H4=>∃ ys,H4 D=some (.lst ys)/\ys.length<sizeLine/\CN D (Pv (i+1)) σ2 (upd H4 D (.lst (ys++[v]))) else CN D (Pv (i+1)) σ2 H3)
  (hd:∀ acc σ H,H D=some (.lst acc)->Pv z.length acc σ H->Q (.ref D) H):CompW g tt te (Its z) D Q σ H:=by
 refine comp_gen z.length Pv hD h0 (λi acc σ H hi hacc p=>hi) (λacc σ H hacc p=>Nat.le_refl _) (λi acc σ H x H' hi hacc p y=>?_) hd
 obtain ⟨e,c,ec,y⟩:=y
 subst e y
 exact hs i c acc σ _ ec hacc p
end
end L2
namespace L2
open PySem PySem.Spec PyProof.Rows
def cscB (sc osc:Scope) (N N':List Str) (n:Nat) (fi:List Nat):Bool:=
 decide (sc.kind = .function) && decide (∀ y∈sc.names,y.2 = .local->sc.names.lookup y.1=some .local)
 && decide (∀ y∈sc.names,y.2 = .free->osc.names.lookup y.1=some .cell\/osc.names.lookup y.1=some .free)
 && decide (N'.length=n+fi.length)
 && (List.range fi.length).all λj=>match fi[j]? with
  | some k=>match N'[n+j]? with
   | some x=>decide (N[k]? = some x) && decide (sc.names.lookup x=some .free) && decide ((x,NameKind.cell)∉sc.names)
   | none=>false
  | none=>false
theorem cscope {X:Cx}{sc:Scope}{N':List Str}{n:Nat}{fi:List Nat} (osc:Scope) (N:List Str) (h:cscB sc osc N N' n fi=true) (e1:X.env.scope=osc:=by rfl) (e2:X.N=N:=by rfl):CScope X sc N' n fi:=by
 subst e1 e2
 simp only [cscB,Bool.and_eq_true,decide_eq_true_eq] at h
 obtain ⟨⟨⟨⟨h1,h2⟩,h3⟩,h4⟩,h5⟩:=h
 refine ⟨h1,h2,h3,h4,λj k hj=>?_⟩
 have hlt:j<fi.length:=by
  rcases Nat.lt_or_ge j fi.length with q | q
  ·exact q
  ·rw [List.getElem?_eq_none q] at hj;cases hj
 have h6:=List.all_eq_true.mp h5 j (List.mem_range.mpr hlt)
 rw [hj] at h6
 dsimp only at h6
 cases e:N'[n+j]? with
 | none=>rw [e] at h6;cases h6
 | some x=>
  rw [e] at h6
  simp only [Bool.and_eq_true,decide_eq_true_eq] at h6
  exact ⟨x,rfl,h6.1.1,h6.1.2,h6.2⟩
def lim (H H':Hp):Hp:=λb=>match H b with | some (.lst _)=>none | _=>H' b
def wo (D:Addr) (H:Hp):Hp:=λb=>if b=D then none else H b
section
variable {H H' H1 H2 H3:Hp}{D E p b:Addr}{o u:HO}{xs ys:List V}
theorem wo_at (h:b≠D):wo D H b=H b:=by simp [wo,h]
theorem wo_get (h:wo D H b=some o):b≠D/\H b=some o:=by
 unfold wo at h
 split at h
 ·cases h
 ·rename_i q;exact ⟨q,h⟩
theorem wo_same:Same (wo D H) H:=λb o e=>(wo_get e).2
theorem same_upd:Same (wo D H) (upd H D o):=λb u e=>by rw [upd_ne (wo_get e).1];exact (wo_get e).2
theorem wo_trans (h:Same (wo D H1) H2) (g:Same (wo D H2) H3):Same (wo D H1) H3:=λb o e=>g b o (by rw [wo_at (wo_get e).1];exact h b o e)
theorem same_wo (h:H D=none) (s:Same H H'):Same H (wo D H'):=λb o e=>by
 rw [wo_at (ne_of_none e h)];exact s b o e
theorem ge_len {α:Type}{xs:List α}{i:Nat}{x:α} (h:xs[i]? = some x):i<xs.length:=by
 rcases Nat.lt_or_ge i xs.length with q | q
 ·exact q
 ·rw [List.getElem?_eq_none q] at h;cases h
theorem snap_upd (h:H D=none) (s:Same H H'):Same H (upd H' D o):=λb u e=>by
 rw [upd_ne (ne_of_none e h)];exact s b u e
end
theorem compY {i:Nat}{x:V}{σ:St}{H:Hp}{F G:St->Hp->Prop} (h:F (σ.set i (some x)) H):gName i x σ H λσ2 H2=>tYes σ2 H2 λb H3=>if b=true then F σ2 H3 else G σ2 H3:=by
 show (if true=true then F (σ.set i (some x)) H else G (σ.set i (some x)) H);rw [if_pos rfl];exact h
theorem small {n:Nat} (h:n<10000000):n<sizeLine:=by rw [sizeLine_eq];exact Nat.lt_of_lt_of_le h (by decide)
end L2
namespace L2
open PySem PySem.Spec PyProof.Rows PySem.Builtin PySem.Builtin.Str
def rListOf (K:PySem.W.Frag):List V->Hp->VK->Prop:=λxs H Q=>∃ p ys,xs=[.ref p]/\(SqL K H p ys\/SqT K H p ys)/\∀ l,H l=none->Q (.ref l) (upd H l (.lst ys))
theorem call_listO {X:Cx}:CallR X (.type "list") (rListOf X.K):=call_list_of
theorem bt_list:bootBuiltins "list" = some (.type "list"):=by decide +kernel
theorem depthAll_le {n:Nat}:∀ (l:List PyData),(∀ d∈l,d.depth<=n)->PyData.depthAll l<=n
 | [],_=>Nat.zero_le _
 | d::r,h=>by
  have h1:=h d (List.mem_cons_self ..)
  have h2:=depthAll_le r λe he=>h e (List.mem_cons_of_mem _ he)
  unfold PyData.depthAll
  exact Nat.max_le.mpr ⟨h1,h2⟩
theorem ok_sign {z:Str}{i c:Nat} (hz:PyData.strOk z=true) (h:z.cps[i]? = some c):PyData.strOk ⟨#[c]⟩=true:=by
 unfold PyData.strOk at hz ⊢
 rw [Array.all_eq_true] at hz
 have hi:i<z.cps.size:=by
  rcases Nat.lt_or_ge i z.cps.size with q | q
  ·exact q
  ·rw [Array.getElem?_eq_none q] at h;cases h
 have h1:=hz i hi
 rw [Array.getElem?_eq_getElem hi] at h
 cases h
 simpa using h1
theorem ok_of_mem {z:Str} (h:∀ c∈z.cps,c<1114112):PyData.strOk z=true:=by
 unfold PyData.strOk
 rw [Array.all_eq_true]
 intro i hi
 simpa using h _ (Array.getElem_mem hi)
theorem mem_of_ok {z:Str} (h:PyData.strOk z=true):∀ c∈z.cps,c<1114112:=by
 unfold PyData.strOk at h
 intro c hc
 obtain ⟨i,hi,rfl⟩:=Array.mem_iff_getElem.mp hc
 rw [Array.all_eq_true] at h
 simpa using h i hi
theorem ok_slice {z:Str}{l u:Option Int} (hz:PyData.strOk z=true):PyData.strOk (Txt.slice z l u)=true/\(Txt.slice z l u).length<=z.length:=by
 unfold Txt.slice
 split
 ·exact ⟨hz,Nat.le_refl _⟩
 ·constructor
  ·refine ok_of_mem λc hc=>?_
   simp only [List.mem_toArray,List.mem_filterMap] at hc
   obtain ⟨i,_,e⟩:=hc
   refine mem_of_ok hz c ?_
   exact Array.mem_of_getElem? e
  ·show (List.toArray _).size<=z.cps.size
   simp only [List.size_toArray]
   exact Nat.le_trans (List.length_filterMap_le _ _) (sliceIndices_le l u _)
theorem ok_strSub {z:Str}{a b:Nat} (hz:PyData.strOk z=true):PyData.strOk (strSub z a b)=true/\(strSub z a b).length<=z.length:=by
 unfold strSub
 constructor
 ·refine ok_of_mem λc hc=>?_
  refine mem_of_ok hz c ?_
  obtain ⟨i,hi,rfl⟩:=Array.mem_iff_getElem.mp hc
  simp only [Array.getElem_extract]
  exact Array.getElem_mem _
 ·show (Array.extract _ _ _).size<=z.cps.size
  rw [Array.size_extract]
  lia
theorem ok_split {z y:Str} (hz:PyData.strOk z=true):∀ x∈Txt.split z y,PyData.strOk x=true/\x.length<=z.length:=by
 intro x hx
 have one:x∈[z]->PyData.strOk x=true/\x.length<=z.length:=λh=>by
  simp only [List.mem_singleton] at h
  subst h
  exact ⟨hz,Nat.le_refl _⟩
 unfold Txt.split at hx
 split at hx
 ·exact one hx
 ·split at hx
  ·exact one hx
  ·unfold partsBetween at hx
   simp only [List.mem_map] at hx
   obtain ⟨p,_,rfl⟩:=hx
   exact ok_strSub hz
theorem split_len1 {z y:Str}:1<=(Txt.split z y).length/\(Txt.split z y).length<=z.length+2:=by
 have h1:=StrLaws.occ_length_le z y 0 z.length (z.length+1)
 unfold Txt.split
 split
 ·simp
 ·split
  ·simp
  ·rw [length_partsBetween]
   lia
theorem glue_ok {y:Str} (hy:PyData.strOk y=true):∀ (xs:List Str) (acc:Array Nat),(∀ x∈xs,PyData.strOk x=true)->(∀ c∈acc,c<1114112)->∀ c∈xs.foldl (λacc p=>acc++y.cps++p.cps) acc,c<1114112
 | [],acc,_,h=>h
 | x::r,acc,hx,h=>by
  refine glue_ok hy r _ (λz hz=>hx z (List.mem_cons_of_mem _ hz)) λc hc=>?_
  rcases Array.mem_append.mp hc with hc | hc
  ·rcases Array.mem_append.mp hc with hc | hc
   ·exact h c hc
   ·exact mem_of_ok hy c hc
  ·exact mem_of_ok (hx x (List.mem_cons_self ..)) c hc
theorem glue_len {y:Str}{m:Nat}:∀ (xs:List Str) (acc:Array Nat),(∀ x∈xs,x.length<=m)->(xs.foldl (λacc p=>acc++y.cps++p.cps) acc).size<=acc.size+xs.length * (m+y.length)
 | [],acc,_=>by simp
 | x::r,acc,hx=>by
  have h1:=glue_len (y:=y) r (acc++y.cps++x.cps) λz hz=>hx z (List.mem_cons_of_mem _ hz)
  have h2:x.cps.size<=m:=hx x (List.mem_cons_self ..)
  have h3:(acc++y.cps++x.cps).size=acc.size+y.cps.size+x.cps.size:=by simp;lia
  have h4:y.length=y.cps.size:=rfl
  simp only [List.foldl_cons,List.length_cons,Nat.add_mul,Nat.one_mul] at h1 ⊢
  lia
theorem ok_join {y:Str}{m:Nat} (hy:PyData.strOk y=true) {xs:List Str} (h:∀ x∈xs,PyData.strOk x=true/\x.length<=m):PyData.strOk (Txt.join y xs)=true/\(Txt.join y xs).length<=xs.length * (m+y.length):=by
 cases xs with
 | nil=>exact ⟨by show PyData.strOk Str.empty=true;decide +kernel,Nat.zero_le _⟩
 | cons x r=>
  have hx:=h x (List.mem_cons_self ..)
  have hr:∀ z∈r,PyData.strOk z=true/\z.length<=m:=λz hz=>h z (List.mem_cons_of_mem _ hz)
  refine ⟨ok_of_mem (glue_ok hy r x.cps (λz hz=>(hr z hz).1) (mem_of_ok hx.1)),?_⟩
  have h1:=glue_len (y:=y) (m:=m) r x.cps λz hz=>(hr z hz).2
  have h2:x.cps.size<=m:=hx.2
  show (List.foldl (λ(acc:Array Nat) (p:Str)=>acc++y.cps++p.cps) x.cps r).size<=(x::r).length * (m+y.length)
  simp only [List.length_cons,Nat.add_mul,Nat.one_mul] at h1 ⊢
  lia
theorem sum_le {m:Nat}:∀ {xs:List Str},(∀ x∈xs,x.length<=m)->(xs.map (·.length)).sum<=xs.length * m
 | [],_=>by simp
 | x::r,h=>by
  have h1:=sum_le λz hz=>h z (List.mem_cons_of_mem x hz)
  have h2:=h x (List.mem_cons_self ..)
  simp only [List.map_cons,List.sum_cons,List.length_cons,Nat.add_mul,Nat.one_mul] at h1 ⊢
  lia
theorem join_fits {y:Str}{m:Nat}{xs:List Str} (h:∀ x∈xs,x.length<=m) (hb:xs.length * m+xs.length * y.length<=16777216):JoinOk y xs=true:=by
 have h1:=sum_le h
 exact joinOk_of (by lia)
section
variable {K:PySem.W.Frag}{tt:TT}{D:Addr}{Q:VK}{H:Hp}
theorem dens_strs {K:PySem.W.Frag}{H:Hp}:∀ {l:List Str},(∀ x∈l,PyData.strOk x=true)->Dens K H (l.map V.str) (l.map PyData.str)
 | [],_=>.nil
 | x::r,h=>.cons (.str (h x (List.mem_cons_self ..))) (dens_strs λy hy=>h y (List.mem_cons_of_mem _ hy))
end
end L2
namespace L2
open PySem PySem.Spec PyProof.Rows
def Itz (K:PySem.W.Frag) (a b:Addr):It:=
 ⟨λi H=>∃ xs ys x y,SqL K H a xs/\SqL K H b ys/\xs[i]? = some x/\ys[i]? = some y,
   λi H x H'=>∃ p u v,H p=none/\(∀ xs,SqL K H a xs->xs[i]? = some u)/\(∀ ys,SqL K H b ys->ys[i]? = some v)/\x = .ref p/\H' = upd H p (.tup [u,v]),
   λi H=>∃ xs ys,SqL K H a xs/\SqL K H b ys/\(xs.length<=i\/ys.length<=i)⟩
section
variable {X:Cx}
end
end L2
namespace L2
open PySem PySem.Spec PyProof.Rows
section
variable {K:PySem.W.Frag}{g:TG}{tt:TT}{te:TE}{D:Addr}{Q:VK}{σ:St}{H:Hp}
end
section
variable {X:Cx}
def rStripC:V->List V->Hp->VK->Prop:=λx vs H Q=>∃ z y,x = .str z/\vs=[.str y]/\z.length<=sizeLine/\Q (.str (Txt.stripChars z y)) H
theorem mt_stripC:MtR X "str.strip" rStripC:=by
 intro pins s σ H x vs v us Q I rx rv h
 obtain ⟨z,y,rfl,rfl,hz,q⟩:=h
 obtain ⟨t,rfl⟩:=rx
 obtain ⟨u,rfl,t',rfl⟩:=rv.one
 exact SC.stripChars (λt' k=>⟨.str _,H,I.tok _,⟨_,rfl⟩,q⟩) hz
def rRmPre:V->List V->Hp->VK->Prop:=λx vs H Q=>∃ z y,x = .str z/\vs=[.str y]/\z.length<=sizeLine/\Q (.str (Txt.removeprefix z y)) H
theorem mt_rmpre:MtR X "str.removeprefix" rRmPre:=by
 intro pins s σ H x vs v us Q I rx rv h
 obtain ⟨z,y,rfl,rfl,hz,q⟩:=h
 obtain ⟨t,rfl⟩:=rx
 obtain ⟨u,rfl,t',rfl⟩:=rv.one
 exact SC.removeprefix (λt' k=>⟨.str _,H,I.tok _,⟨_,rfl⟩,q⟩) hz
theorem vals_bools:∀ {bs:List Bool}{us:List Value},Vals (bs.map V.bl) us->us=bs.map Value.bool
 | [],_,h=>by cases h;rfl
 | b::r,_,h=>by
  cases h with
  | cons h1 t=>
   obtain rfl:=h1
   rw [vals_bools t]
   rfl
theorem range_all (bs:List Bool):(List.range bs.length).all (λi=>bs.getD i true)=bs.all id:=by
 (rw [Bool.eq_iff_iff,List.all_eq_true,List.all_eq_true])
 constructor
 ·intro h x hx
  obtain ⟨i,hi,rfl⟩:=List.mem_iff_getElem.mp hx
  (have:=h i (List.mem_range.mpr hi))
  simpa [List.getD,List.getElem?_eq_getElem hi] using this
 ·intro h i hi
  (have hi':=List.mem_range.mp hi)
  have:=h bs[i] (List.getElem_mem hi')
  simpa [List.getD,List.getElem?_eq_getElem hi'] using this
def rAll (K:PySem.W.Frag):List V->Hp->VK->Prop:=λxs H Q=>∃ (p:Addr) (bs:List Bool),xs=[.ref p]/\SqL K H p (bs.map V.bl)/\Q (.bl (bs.all id)) H
theorem truth_bools {P:Program}{w:World}{A:Around} (bs:List Bool):TruthOf P w A (λi v=>(bs.map Value.bool).toArray[i]? = some v) (λi=>bs.getD i true):=by
 intro i v s Q E hv hq
 have hv':(bs.map Value.bool)[i]? = some v:=by simpa using hv
 rw [List.getElem?_map] at hv'
 cases e:bs[i]? with
 | none=>rw [e] at hv';cases hv'
 | some b=>
  rw [e] at hv'
  cases hv'
  refine wpAny_truthy_bool ?_
  have:bs.getD i true=b:=by simp [List.getD,e]
  have hq':Q (bs.getD i true) s:=hq
  rwa [this] at hq'
theorem call_all (hc:X.calm=true):CallR X (.builtin "all") (rAll X.K):=by
 intro pins s σ H xs us Q I r h
 obtain ⟨p,bs,rfl,hq,q⟩:=h
 obtain ⟨u,rfl,rx⟩:=vals1 r
 cases rx
 obtain ⟨its,r',pl,hz⟩:=I.list hq
 have e:=vals_bools r'
 subst e
 have hp:p≠s.heap.objs.size:=by obtain ⟨_,e,_⟩:=pl.isList;exact Nat.ne_of_lt (Heap.lt_size e)
 refine call_all_walk (wpAny_pyIter_list pl.isList ?_)
 refine ⟨s.heap.objs.size,_,_,_,_,_,_,rfl,Walks.list (A:=X.A.in1) (show X.A.in1.handled=none from I.ok.hd hc) s.heap.objs.size p hp (bs.map Value.bool).toArray,⟨⟨_,Heap.get?_push_size _ rfl,rfl,rfl⟩,pl.isList.push _⟩,truth_bools bs,λh' tk hk=>?_⟩
 have hs:(bs.map Value.bool).toArray.size=bs.length:=by simp
 rw [hs,range_all]
 refine ⟨.bl _,H,I.kept (t':=tk) λb o e=>hk b o (λhb=>?_) (Heap.get?_push_of_some _ e),rfl,q⟩
 simp only [List.mem_singleton] at hb
 exact absurd (Heap.lt_size e) (by rw [hb];exact Nat.lt_irrefl _)
theorem bt_all:bootBuiltins "all" = some (.builtin "all"):=by decide +kernel
end
end L2
namespace L2
open PySem PySem.Spec PyProof.Rows PySem.W
section
variable {X:Cx}{pins:List (Addr×Obj)}{σ:St}{H:Hp}{s:Shared}
structure TwoLaid (X:Cx) (pins:List (Addr×Obj)) (σ:St) (H:Hp) (s:Shared) (l:Addr) (h0:Heap) (Ia Sa:Addr):Prop where
 gI:h0.get? Ia=some { cls:=.type "list_iterator",data:=.fields #[.ref l,.int 0 0] }
 gS:h0.get? Sa=some (seqObj "list" #[] 0)
 keep:∀ b o,s.heap.get? b=some o->h0.get? b=some o
 inv:Inv X pins σ H { s with heap:=h0 }
 fI:FpOk X pins H Ia
 fS:FpOk X pins H Sa
 ne:l≠Ia
 two:Sa≠Ia
end
section
variable {X:Cx}
end
def leastGo:PyData->Nat->Nat->List PyData->Nat
 | _,i,_,[]=>i
 | db,i,j,d::r=>if ltv d db=true then leastGo d j (j+1) r else leastGo db i (j+1) r
def leastIx:List PyData->Nat
 | []=>0
 | d::r=>leastGo d 0 1 r
end L2
namespace L2
open PySem PySem.Spec PyProof.Rows
section
variable {X:Cx}
def rLenS (K:PySem.W.Frag):List V->Hp->VK->Prop:=λxs H Q=>∃ p ys,xs=[.ref p]/\(SqL K H p ys\/SqT K H p ys)/\Q (.int ys.length) H
theorem call_lenS:CallR X (.builtin "len") (rLenS X.K):=call_len_seq
theorem bt_isinstance:bootBuiltins "isinstance" = some (.builtin "isinstance"):=by decide +kernel
theorem bt_str:bootBuiltins "str" = some (.type "str"):=by decide +kernel
theorem bt_int:bootBuiltins "int" = some (.type "int"):=by decide +kernel
theorem bt_tuple:bootBuiltins "tuple" = some (.type "tuple"):=by decide +kernel
end
end L2
namespace L2
open PySem PySem.Spec PyProof.Rows
section
variable {X:Cx}
end
end L2
namespace L2
open PySem PySem.Spec PyProof.Rows
section
open PySem.SeqAt
open PySem.AutoSeq1 (wpAny_loadPart')
open PySem.MeetsSeq PySem.MeetsSeq2 PySem.MeetsSeq3
end
section
open PySem.SeqAt
open PySem.MeetsSeq PySem.MeetsSeq2 PySem.MeetsSeq3
variable {X:Cx}
end
end L2
namespace L2
open PySem PySem.Spec PyProof.Rows
section
variable {X:Cx}
theorem in_room {k:Nat}{A:Around} (hr:Room k A) {a b:Nat} (h:b<=100):A.units+1+min a b<cLine:=by
 have h1:=hr.un
 have h2:=Nat.min_le_right a b
 lia
end
end L2
namespace L2
open PySem PySem.Spec PyProof.Rows PySem.MeetsSeq PySem.MeetsSeq2 PySem.MeetsSeq3
section
variable {X:Cx}
def rCatS (K:PySem.W.Frag):R2:=λx y H Q=>∃ l b xs zs,x = .ref l/\y = .ref b/\SqL K H l xs/\SqL K H b zs/\xs.length+zs.length<=sizeLine/\∀ p,H p=none->Q (.ref p) (upd H p (.lst (xs++zs)))
theorem op_catS:OpR X (binaryOp .Add) (rCatS X.K):=by
 intro pins s σ H x y v u Q I rx ry h
 obtain ⟨l,b,xs,zs,rfl,rfl,hl,hb,hz,q⟩:=h
 cases rx
 cases ry
 obtain ⟨its,r,pl,h1⟩:=I.list hl
 obtain ⟨jts,r2,pl2,h2⟩:=I.list hb
 have l1:=r.length
 have l2:=r2.length
 obtain ⟨⟨cls,dd,data,sl⟩,n,ho,hc,_,hd⟩:=pl
 obtain ⟨⟨cls2,dd2,data2,sl2⟩,n2,ho2,hc2,_,hd2⟩:=pl2
 simp only at hc hd hc2 hd2
 subst hc hd hc2 hd2
 have ea:its.toArray++jts.toArray=(its++jts).toArray:=by simp
 refine concat_meets ⟨_,ho,rfl⟩ ⟨_,ho2,rfl⟩ noFill_list_add seq_list_add PySem.F.slot_list_add PySem.F.entry_list_add (PySem.F.args_list_add_2 _ _) (list_addW l b its.toArray jts.toArray n n2 dd dd2 sl sl2 (by simp;lia)) ⟨ho,ho2,?_⟩
 rw [ea]
 exact ⟨.ref _,_,I.lnew (t':=s.toks) (r.append r2) (by rw [List.length_append];lia),rfl,q _ I.fresh⟩
end
end L2
namespace L2
open PySem PySem.Spec PyProof.Rows
section
variable {prog:Program}{w:World}{A:Around}{E:Value->Shared->Prop}{s:Shared}
end
section
variable {X:Cx}{tg:Expr}
end
end L2
namespace L2
open PySem PySem.Spec PyProof.Rows
section
variable {X:Cx}{elt tg iter tg2 iter2:Expr}{ifs ifs2:List Expr}{scope:Scope}{pos:Pos}
end
end L2
namespace L2
open PySem PySem.Spec PyProof.Rows PySem.W
section
variable {X:Cx}{pins:List (Addr×Obj)}{σ:St}{H:Hp}{s:Shared}
end
section
variable {X:Cx}
end
end L2
namespace L2
open PySem PySem.Spec PyProof.Rows PySem.W
section
variable {X:Cx}{tg:Expr}
end
section
variable {X:Cx}{pins:List (Addr×Obj)}{σ:St}{H:Hp}{s:Shared}
end
end L2
namespace L2
open PySem PySem.Spec PyProof.Rows
section
variable {X:Cx}
def rStarts:V->List V->Hp->VK->Prop:=λx vs H Q=>∃ z y,x = .str z/\vs=[.str y]/\Q (.bl (Txt.startswith z y)) H
theorem mt_starts:MtR X "str.startswith" rStarts:=by
 intro pins s σ H x vs v us Q I rx rv h
 obtain ⟨z,y,rfl,rfl,q⟩:=h
 obtain ⟨t,rfl⟩:=rx
 obtain ⟨u,rfl,t',rfl⟩:=rv.one
 exact SC.startswith ⟨.bl _,H,I,rfl,q⟩
def tFst (a b:Str) (te:TE):TE:=λσ H Q=>te σ H λx H1=>∃ z,x = .str z/\z.length<=100000/\Q (.str (a++z++b)) H1
def tFst1 (a:Str) (te:TE):TE:=λσ H Q=>te σ H λx H1=>∃ z,x = .str z/\z.length<=100000/\Q (.str (a++z)) H1
theorem fst_part {a:Str}{z:Str}{e:Expr}{te:TE}{fp:Pos}{rest:List (Sem Value)}{pins:List (Addr×Obj)}{s:Shared}{σ:St}{H:Hp}{Q:Value->Shared->Prop}{R:V->Hp->Prop} (he:PE X e te) (I:Inv X pins σ H s) (h:te σ H R)
  (k:∀ s1 H1 z,Inv X pins σ H1 s1->R (.str z) H1->(a++z).length<=sizeLine/\wpAny (model X.prog X.w) X.A (joinParts (a++z) rest) Q X.xe s1) (hz:∀ x H1,R x H1->∃ z,x = .str z/\z.length<=sizeLine) :
  wpAny (model X.prog X.w) X.A (joinParts a (eval (.FormattedValue e (-1) none fp) X.env::rest)) Q X.xe s:=by
 refine joinParts_cons (FormattedValue_plain (thn (he pins s σ H _ I h) λv s1 ⟨x,H1,I1,r1,q1⟩=>?_))
 obtain ⟨z,rfl,hl⟩:=hz x H1 q1
 obtain ⟨t,rfl⟩:=r1
 exact formatField_str (λt' tk=>k _ H1 z (I1.tok _) q1) hl
theorem pe_fst {a b:Str}{e:Expr}{te:TE}{p1 p2 p3 p4:Pos}{j1 j2:Nat} (he:PE X e te) (ha:a.length<=1000:=by decide) (hb:b.length<=1000:=by decide) (h0:(Str.empty++a)=a:=by rfl) :
  PE X (.JoinedStr [.Constant (.str a) j1 p1,.FormattedValue e (-1) none p2,.Constant (.str b) j2 p3] p4) (tFst a b te):=by
 intro pins s σ H Q I h
 have hs:=sizeLine_eq
 refine JoinedStr_many (joinParts_cons (Calls.Constant_str ?_))
 show _<=sizeLine/\_
 rw [h0]
 refine ⟨by lia,fst_part (z:=a) he (I.tok _) h (λs1 H1 z I1 q1=>?_) λx H1 q=>?_⟩
 ·obtain ⟨z',e,hl,q⟩:=q1
  cases e
  refine ⟨by rw [strLen_append];lia,joinParts_cons (Calls.Constant_str ?_)⟩
  show _<=sizeLine/\_
  exact ⟨by rw [strLen_append,strLen_append];lia,joinParts_nil ⟨.str _,H1,(I1.tok _).tok _,⟨_,rfl⟩,q⟩ (by rw [strLen_append,strLen_append];lia)⟩
 ·obtain ⟨z,e,hl,_⟩:=q
  exact ⟨z,e,by lia⟩
theorem pe_fst1 {a:Str}{e:Expr}{te:TE}{p1 p2 p4:Pos}{j1:Nat} (he:PE X e te) (ha:a.length<=1000:=by decide) (h0:(Str.empty++a)=a:=by rfl) :
  PE X (.JoinedStr [.Constant (.str a) j1 p1,.FormattedValue e (-1) none p2] p4) (tFst1 a te):=by
 intro pins s σ H Q I h
 have hs:=sizeLine_eq
 refine JoinedStr_many (joinParts_cons (Calls.Constant_str ?_))
 show _<=sizeLine/\_
 rw [h0]
 refine ⟨by lia,fst_part (z:=a) he (I.tok _) h (λs1 H1 z I1 q1=>?_) λx H1 q=>?_⟩
 ·obtain ⟨z',e,hl,q⟩:=q1
  cases e
  exact ⟨by rw [strLen_append];lia,joinParts_nil ⟨.str _,H1,I1.tok _,⟨_,rfl⟩,q⟩ (by rw [strLen_append];lia)⟩
 ·obtain ⟨z,e,hl,_⟩:=q
  exact ⟨z,e,by lia⟩
end
end L2
namespace L2
open PySem PySem.Spec PyProof.Rows
section
variable {P:Program}{w:World}
variable {s:Shared}{A:Around}{E:Value->Shared->Prop}
def dedS:List Str->List Str->List Str
 | us,[]=>us
 | us,x::r=>dedS (if x∈us then us else us++[x]) r
end
end L2
namespace L2
open PySem PySem.Spec PyProof.Rows PySem.W
namespace SF
end SF
section
variable {P:Program}{w:World}{A:Around}{E:Value->Shared->Prop}{s:Shared}
structure SAt (h:Heap) (a:Addr) (es:Array (Int×Value)) (ep:Nat) (t:SetTable):Prop where
 ob:∃ o,h.get? a=some o/\o.ExactSet/\o.data = .set es ep t
 ft:t.fits es.size=true
structure Handed (es:Array (Int×Value)) (vs:List Value):Prop where
 perm:vs.Perm (es.toList.map (·.2))
end
end L2
namespace L2
open PySem PySem.Spec PyProof.Rows PySem.W
section
variable {P:Program}{w:World}{A:Around}{E:Value->Shared->Prop}{s:Shared}
end
def UpS (ms:List Str):Prop:=ms.Pairwise λx y=>ltv (.str y) (.str x)=false
section
variable {X:Cx}{x y:Str}{p q pos pos2:Pos}{e:Expr}{t:TA}{id:String}{r:List Str->Hp->VK->Prop}
end
section
variable {X:Cx}
end
end L2
namespace L2
open PySem PySem.Spec PyProof.Rows PySem.W
structure PAi (X:Cx) (es:List Expr) (t:TA):Prop where
 go:PA X es t
structure PSi (X:Cx) (st:Stmt) (t:TS):Prop where
 go:PS X st t
structure PSsi (X:Cx) (st:List Stmt) (t:TS):Prop where
 go:PSs X st t
section
variable {X:Cx}
end
end L2
namespace L2
open PySem PySem.Spec PyProof.Rows
def ExcAt (h:Heap) (e:Addr) (cls tb:Value):Prop:=∃ oe vs,h.get? e=some oe/\(oe.cls=cls/\oe.dict=none)/\oe.data = .fields vs/\vs[1]? = some tb/\vs[2]? = some .none
theorem dict_mapFields (f:Array Value->Array Value) (o:Obj):(Obj.mapFields f o).dict=o.dict:=by
 unfold Obj.mapFields
 split <;> rfl
def TbAt (h:Heap) (T:Addr) (fl:Value):Prop:=∃ o ts,h.get? T=some o/\o.data = .fields ts/\ts[3]? = some fl
def Stays (fs:List Addr) (g h:Heap):Prop:=∀ b o,g.get? b=some o->(b∉fs->h.get? b=some o)/\(b∈fs->∃ sl,h.get? b=some { o with slots:=sl })
section
variable {fs:List Addr}{g h h1 h2 h':Heap}{e T:Addr}{cls tb fl:Value}
theorem Stays.keeps (k:∀ b o,h.get? b=some o->h'.get? b=some o):Stays fs h h':=λb o q=>⟨λ_=>k b o q,λ_=>⟨o.slots,k b o q⟩⟩
theorem Stays.refl:Stays fs h h:=Stays.keeps λ_ _ q=>q
theorem Stays.trans (a:Stays fs h h1) (b:Stays fs h1 h2):Stays fs h h2:=λc o q=>by
 by_cases hc:c∈fs
 ·refine ⟨λz=>absurd hc z,λ_=>?_⟩
  obtain ⟨sl,q1⟩:=(a c o q).2 hc
  exact (b c _ q1).2 hc
 ·exact ⟨λ_=>(b c o ((a c o q).1 hc)).1 hc,λz=>absurd z hc⟩
theorem Stays.upd_new {f:Obj->Obj} (st:Stays fs g h) (hT:g.get? T=none):Stays fs g (h.update T f):=λb o q=>by
 have ne:T≠b:=λz=>by rw [<-z,hT] at q;cases q
 refine ⟨λhb=>?_,λhb=>?_⟩
 ·rw [Heap.get?_update_other _ _ ne]
  exact (st b o q).1 hb
 ·rw [Heap.get?_update_other _ _ ne]
  exact (st b o q).2 hb
theorem Stays.size (st:Stays fs g h):∀ b o,g.get? b=some o->∃ o',h.get? b=some o':=λb o q=>by
 by_cases hc:b∈fs
 ·obtain ⟨sl,z⟩:=(st b o q).2 hc
  exact ⟨_,z⟩
 ·exact ⟨_,(st b o q).1 hc⟩
theorem Stays.funs {base:Heap}{l:List Env} (st:Stays fs g h) (hl:g.FunFrames base l):h.FunFrames base l:=by
 refine hl.of_keeps λb o hb _=>?_
 by_cases hc:b∈fs
 ·obtain ⟨sl,q⟩:=(st b o hb).2 hc
  exact ⟨_,q,rfl⟩
 ·exact ⟨o,(st b o hb).1 hc,rfl⟩
end
section
variable {M:Model}{A:Around}{E:Value->Shared->Prop}{s:Shared}{base g:Heap}{env:Env}{outer:List Env}{L e:Addr}{cls tb:Value}{Q:Unit->Shared->Prop}
theorem lay_entry {head:Value}{hadNext:Bool} (hfr:A.frames=some (env::outer)) (hl:g.FunFrames base (env::outer)) (st:Stays (frs (env::outer)) g s.heap) (hf:env.frame=some L) (he:ExcAt s.heap e cls tb) (hx:g.get? e=none)
  (h:∀ h' T',g.get? T' = none->T'≠e->ExcAt h' e cls (.ref T')->TbAt h' T' (rawInt L)->Stays (frs (env::outer)) g h'->Q () { s with heap:=h' }) :
  wpAny M A (do
   let a <-frameOf env
   let pl <-entryPlaceOf L hadNext
   let b <-EntryCells.newEntry head a .none (rawInt L) .none pl
   setField (.ref e) 1 b) Q E s:=by
 obtain ⟨oe,vs,ge,hc,hd,v1,v2⟩:=he
 have hls:=st.funs hl
 have hne:e∉(env::outer).filterMap (·.frame):=λz=>by
  obtain ⟨_,o,ho,nf⟩:=hls.mem z
  rw [ge] at ho
  cases ho
  exact nf vs hd
 refine wpAny_bind (wpAny_frameOf_fun hfr hls hf λg1 gs=>?_)
 refine wpAny_bind (wpAny_entryPlaceOf λpl hpl=>?_)
 unfold EntryCells.newEntry newFields
 refine wpAny_bind (wpAny_newObj_type ?_ (hpl.sizeOk5 _ _ _ _ _))
 have ge1:g1.get? e=some oe:=(gs.2.1 e hne).trans ge
 have sz1:1<vs.size:=(Array.getElem?_eq_some_iff.mp v1).1
 generalize hob:({ cls:=.type "traceback",dict:=none,data:=.fields ([head,.ref L,.none,rawInt L,.none]++(if pl.isEmpty then List.replicate 6 Value.none else pl)).toArray }:Obj)=ob
 have ge2:(g1.push ob).get? e=some oe:=Heap.get?_push_of_some _ ge1
 refine wpAny_setField ge2 hd sz1 ?_
 have nT:g1.objs.size≠e:=Nat.ne_of_gt (Heap.lt_size ge1)
 have hd3:=Obj.data_mapFields hd (·.setIfInBounds 1 (Value.ref g1.objs.size))
 refine h _ g1.objs.size ?_ nT ?_ ?_ ?_
 ·cases q:g.get? g1.objs.size with
  | none=>rfl
  | some o=>
   obtain ⟨o',z⟩:=st.size _ _ q
   have:=Heap.lt_size z
   rw [gs.1] at this
   exact absurd this (Nat.lt_irrefl _)
 ·exact ⟨_,_,Heap.get?_update_self _ ge2 (Obj.isFreed_of_fields hd3),⟨(Obj.cls_mapFields _ _).trans hc.1,(dict_mapFields _ _).trans hc.2⟩,hd3,by simp [sz1],by rw [Array.getElem?_setIfInBounds_ne (by decide)];exact v2⟩
 ·refine ⟨ob,_,(Heap.get?_update_other _ _ (Ne.symm nT)).trans (Heap.get?_push_size g1 (by rw [<-hob];rfl)),by rw [<-hob],?_⟩
  rcases hpl with rfl | ⟨_,_,_,_,_,_,_,rfl⟩ <;> simp
 ·refine Stays.upd_new (st.trans (Stays.trans (h1:=g1) (λb o q=>?_) (Stays.keeps λb o q=>Heap.get?_push_of_some _ q))) hx
  exact ⟨λz=>(gs.2.1 b z).trans q,λ_=>gs.2.2 b o q⟩
theorem note_exc (hfr:A.frames=some (env::outer)) (hl:g.FunFrames base (env::outer)) (st:Stays (frs (env::outer)) g s.heap) (hf:env.frame=some L) (he:ExcAt s.heap e cls tb) (hx:g.get? e=none)
  (ht:tb = .none\/∃ T,tb = .ref T/\T≠e/\g.get? T=none/\TbAt s.heap T .none)
  (h:∀ h' T',g.get? T' = none->T'≠e->ExcAt h' e cls (.ref T')->TbAt h' T' (rawInt L)->Stays (frs (env::outer)) g h'->Q () { s with heap:=h' }) :
  wpAny M A (noteFrame (.ref e) env) Q E s:=by
 obtain ⟨oe,vs,ge,hc,hd,v1,v2⟩:=id he
 unfold noteFrame
 simp only [hf]
 refine wpAny_bind (wpAny_field ge hd v1 ?_)
 rcases ht with rfl | ⟨T,rfl,ne,nT,oT,ts,gT,hdT,t3⟩
 ·rw [if_neg (by decide)]
  exact lay_entry hfr hl st hf he hx h
 ·rw [if_pos (by simp:(Value.ref T != Value.none)=true)]
  refine wpAny_bind (wpAny_field gT hdT t3 ?_)
  rw [if_neg (by simp [rawInt]:¬ (Value.none == rawInt L)=true)]
  refine wpAny_bind (wpAny_setField gT hdT (Array.getElem?_eq_some_iff.mp t3).1 ?_)
  refine lay_entry hfr hl (Stays.upd_new st nT) hf ⟨oe,vs,?_,hc,hd,v1,v2⟩ hx h
  exact (Heap.get?_update_other _ _ ne).trans ge
theorem fly_off {T:Addr}{fl:Value} (st:Stays (frs (env::outer)) g s.heap) (he:ExcAt s.heap e cls (.ref T)) (hT:TbAt s.heap T fl) (ne:T≠e) (nT:g.get? T=none)
  (h:∀ h',ExcAt h' e cls (.ref T)->TbAt h' T .none->Stays (frs (env::outer)) g h'->Q () { s with heap:=h' }):wpAny M A (setFlight (.ref e) none) Q E s:=by
 obtain ⟨oe,vs,ge,hc,hd,v1,v2⟩:=id he
 obtain ⟨oT,ts,gT,hdT,t3⟩:=hT
 have sz:=(Array.getElem?_eq_some_iff.mp t3).1
 unfold setFlight
 refine wpAny_bind (wpAny_field ge hd v1 ?_)
 rw [if_pos (by simp:(Value.ref T != Value.none)=true)]
 refine wpAny_setField gT hdT sz (h _ ⟨oe,vs,?_,hc,hd,v1,v2⟩ ?_ (Stays.upd_new st nT))
 ·exact (Heap.get?_update_other _ _ ne).trans ge
 ·have hd3:=Obj.data_mapFields hdT (·.setIfInBounds 3 ((none:Option Addr).elim Value.none λf=>rawInt f))
  exact ⟨_,_,Heap.get?_update_self _ gT (Obj.isFreed_of_fields hd3),hd3,by simp [sz]⟩
end
end L2
namespace L2
open PySem PySem.Spec PyProof.Rows
section
variable {P:Program}{w:World}{H H':Hp}{g h:Heap}{e C a:Addr}{o:HO}{tb:Value}{fs:List Addr}
theorem ObjOk.there (x:ObjOk P w H h a o):∃ u,h.get? a=some u:=by
 cases o with
 | lst xs=>obtain ⟨_,_,_,_,e⟩:=x;exact ⟨_,e⟩
 | tup xs=>obtain ⟨_,_,_,ob,e,_⟩:=x;exact ⟨_,e⟩
 | dK kvs=>obtain ⟨_,_,_,_,o,_,_,e,_⟩:=x;exact ⟨_,e⟩
 | dT kvs=>obtain ⟨_,_,_,_,o,_,_,e,_⟩:=x;exact ⟨_,e⟩
 | set S n=>obtain ⟨o,_,_,_,e,_⟩:=x;exact ⟨_,e⟩
 | ins C dx fs=>obtain ⟨_,_,_,e,_⟩:=x;exact ⟨_,e⟩
 | own y=>exact x
 | xd fs=>obtain ⟨_,⟨_,_,_,e,_⟩,_⟩:=x;exact ⟨_,e⟩
 | rng lo hi=>obtain ⟨_,_,_,e⟩:=x;exact ⟨_,e⟩
 | frz ob u=>obtain ⟨e,_⟩:=x;exact ⟨_,e⟩
 | tbl ps=>exact ⟨_,(show h.get? a=some _ from x)⟩
 | met f y=>exact ⟨_,(show h.get? a=some _ from x)⟩
 | ext φ=>obtain ⟨_,q,_⟩:=x;exact q
theorem HOk.new (x:HOk P w H h) (q:h.get? a=none):H a=none:=by
 cases z:H a with
 | none=>rfl
 | some u=>
  obtain ⟨ob,e⟩:=(x a u z).there
  rw [q] at e;cases e
theorem hok_stays (x:HOk P w H g) (st:Stays fs g h) (hfree:∀ b∈fs,H b=none):HOk P w H h:=λb u q=>by
 refine (x b u q).stay (λc u' hb gb=>?_) (λ_ q=>q) (λ_ _ q=>q)
 refine (st c u' gb).1 λz=>?_
 have n:=hfree _ z
 rcases hb with rfl | hb
 ·rw [n] at q;cases q
 ·rw [n] at hb;cases hb
theorem Un.stays {fs':List Addr}{H0:Hp}{g0:Heap} (u:Un fs [] H0 H g0 g) (st:Stays fs' g h) (sub:∀ b∈fs,b∈fs') (out:∀ b∈fs',b∉fs->g0.get? b=none):Un fs [] H0 H g0 h where
 keep:=λb ob q n nf ne=>(st b ob (u.keep b ob q n nf ne)).1 λz=>by rw [out b z nf] at q;cases q
 slot:=λb ob q n hf ne=>by
  obtain ⟨sl,q1⟩:=u.slot b ob q n hf ne
  exact (st b _ q1).2 (sub b hf)
 free:=u.free
 there:=λb ob q ne=>by
  obtain ⟨o',q1⟩:=u.there b ob q ne
  exact st.size b o' q1
 tups:=u.tups
 frzs:=u.frzs
 tbls:=u.tbls
end
def CXe (P:Program) (w:World):CXT:=λouter H s E e s'=>∃ (ea C T:Addr) (H':Hp),e = .ref ea/\s'.os=s.os/\AllBare s'.gens/\Un (frs outer) [] H H' s.heap s'.heap/\HOk P w H' s'.heap /\
 s.heap.get? ea=none/\s.heap.get? T=none/\T≠ea/\H' ea=none/\H' T=none/\ExcAt s'.heap ea (.ref C) (.ref T)/\TbAt s'.heap T .none/\E (.ref C) (some ea) H'
theorem exc_of_in {K:PySem.W.Frag}{h:Heap}{C:Addr}{bmB:List Value}{newId:String} (X:K.In h) (q:PySem.W.excIn K C bmB newId=true) :
  ∃ bm N nm qn bs hdct sn sub ab col dd k0 k1 k2 k3 k5 mN,h.get? C=some (excClassObj nm qn C N bs bm hdct sn sub ab col dd k0 k1 k2 k3 k5 newId)/\h.Ns N mN/\mN "__init__" = none/\OwnTail h bmB bm:=by
 unfold PySem.W.excIn at q
 split at q
 case h_2=>cases q
 case h_1 dd cd sl ho=>
  split at q
  case h_2=>cases q
  case h_1 C' bm k0 k1 k2 k3 n k5 hm hs=>
   simp only [Bool.and_eq_true,beq_iff_eq,Bool.not_eq_true'] at q
   obtain ⟨⟨⟨⟨⟨rfl,rfl⟩,hdel⟩,ht⟩,hok⟩,hni⟩:=q
   cases cd with
   | mk nm bs mro ns qn hd sn sub ab col del=>
    dsimp only at hm hdel hok hni
    subst hm hdel
    cases sl with
    | mk l=>
     simp only at hs
     subst hs
     exact ⟨bm,ns,nm,qn,bs,hd,sn,sub,ab,col,dd,k0,k1,k2,k3,k5,_,X _ _ ho,.of_isNs (PySem.W.isNs_of_in X hok),PySem.W.nsMap_none_of_in X hok hni,PySem.W.tail_of_in X ht⟩
section
variable {X:Cx}{E:XK}{C:Addr}{x:Str}{np cpos pos:Pos}{a:Expr}{ta:TA}{bmB:List Value}
theorem leave_made {pins:List (Addr×Obj)}{σ:St}{H:Hp}{s:Shared}{h':Heap}{e:Addr}{args:List Value}{Ex:Value->Shared->Prop} (I:Inv X pins σ H s) (hst:X.stack=X.env::X.outer) (hf:X.env.frame=some X.env.locals) (hex:X.ex=[])
  (hx:Heap.MadeExcOf s.heap h' e (.ref C) args) (hE:E (.ref C) (some e) H) :
  wpAny (model X.prog X.w) X.A (leaving X.env (.ref e)) (λ_ s''=>CXe X.prog X.w X.outer X.H₀ X.s₀ E (.ref e) s'') Ex { s with heap:=h' }:=by
 obtain ⟨t,ge,_,_⟩:=hx.there
 have hfr:X.A.frames=some (X.env::X.outer):=by rw [I.ok.frames,hst]
 have hl:s.heap.FunFrames X.base (X.env::X.outer):=by rw [<-hst];exact I.stack
 have st0:Stays (frs (X.env::X.outer)) s.heap h':=Stays.keeps hx.keeps
 have x0:ExcAt h' e (.ref C) .none:=⟨_,_,ge,⟨rfl,rfl⟩,rfl,rfl,rfl⟩
 unfold leaving
 refine wpAny_bind (note_exc hfr hl st0 hf x0 hx.new (.inl rfl) λh1 T nT ne x1 t1 st1=>?_)
 refine fly_off st1 x1 t1 ne nT λh2 x2 t2 st2=>?_
 have hfree:∀ b∈frs (X.env::X.outer),H b=none:=by rw [<-hst];exact I.stkFree
 have ub:Un (frs X.outer) [] X.H₀ H X.s₀.heap s.heap:=by have:=I.base;rw [hex] at this;exact this
 have n0:∀ b,s.heap.get? b=none->X.s₀.heap.get? b=none:=λb q=>by
  cases z:X.s₀.heap.get? b with
  | none=>rfl
  | some o=>
   obtain ⟨o',q1⟩:=ub.there b o z (by simp)
   rw [q] at q1;cases q1
 refine ⟨e,C,T,H,rfl,I.os,I.bare,?_,hok_stays I.hok st2 hfree,n0 e hx.new,n0 T nT,ne,I.hok.new hx.new,I.hok.new nT,x2,t2,hE⟩
 ·refine ub.stays st2 (λb hb=>?_) (λb hb nb=>?_)
  ·exact List.mem_filterMap.mpr (let ⟨v,hv,q⟩:=List.mem_filterMap.mp hb;⟨v,.tail _ hv,q⟩)
  ·obtain ⟨v,hv,q⟩:=List.mem_filterMap.mp hb
   rcases List.mem_cons.mp hv with rfl | hv
   ·rw [hf] at q
    cases q
    exact Heap.get?_none_of_le I.ok.above
   ·exact absurd (List.mem_filterMap.mpr ⟨v,hv,q⟩) nb
def tRaise (C:Addr) (E:XK) (ta:TA):TS:=λ_ σ H=>ta σ H λvs H1=>vs.length<=sizeLine/\∀ e,H1 e=none->E (.ref C) (some e) H1
theorem ps_raise (hxe:∀ e s',wpAny (model X.prog X.w) X.A (leaving X.env e) (λ_ s''=>CXe X.prog X.w X.outer X.H₀ X.s₀ E e s'') (λe' s''=>CXe X.prog X.w X.outer X.H₀ X.s₀ E e' s'') s'->X.xe e s')
  (hst:X.stack=X.env::X.outer) (hf:X.env.frame=some X.env.locals) (hex:X.ex=[]) (hc:X.calm=true) (hg:Gl X x) (hm:X.mg x=some (.ref C))
  (q:PySem.W.excIn X.K C [.type "ValueError",.type "Exception",.type "BaseException",.type "object"] "ValueError.__new__" = true) (ha:PA X [a] ta) (hdb:(x == ("__debug__" : Str))=false:=by decide)
  (he:starEach [a] X.env=(false,eval a X.env)::starEach [] X.env:=by rfl):PS X (.Raise (some (.Call (.Name x np) [a] [] cpos)) none pos) (tRaise C E ta):=by
 intro pins s σ H D I h
 obtain ⟨bm,N,nm,qn,bs,hdct,sn,sub,ab,col,dd,k0,k1,k2,k3,k5,mN,hC,hN,hni,TL⟩:=exc_of_in I.ok.mod.kin q
 have hbase:bm.contains (.type "BaseException")=true:=TL.hasType (by decide +kernel)
 refine wpAny_Raise_call_subT PySem.F.excBase_ValueError (C:=C) (nm:=nm) (q:=qn) (N:=N) (bs:=bs) (bm:=bm) (hdct:=hdct) (sn:=sn) (sub:=sub) (ab:=ab) (col:=col) (dd:=dd) (k0:=k0) (k1:=k1) (k2:=k2) (k3:=k3) (k5:=k5) (mN:=mN) hbase (I.ok.hd hc) (by rw [he];rfl) hni (ld_glob I hg hm ⟨rfl,?_⟩ hdb)
 have z0:=ha cpos pins s σ H _ I h
 rw [he] at z0 ⊢
 refine PySem.Calls.evalArgs_plain (thn z0 λus s1 z=>?_)
 obtain ⟨vs,H1,I1,r,hl,hE⟩:=z
 refine ⟨rfl,by rw [<-r.length];exact hl,I1.bk _ _ hC,hN.keeps I1.bk,TL.keeps I1.bk,λh' e hx=>hxe _ _ (leave_made I1 hst hf hex hx (hE e (I1.hok.new hx.new)))⟩
end
end L2
namespace L2
open PySem PySem.Spec PyProof.Rows
section
variable {X:Cx}{pins:List (Addr×Obj)}{σ:St}{H H':Hp}{s s':Shared}
theorem goes_ok {M:Model}{A:Around}{E:Value->Shared->Prop}{i:Nat}{x:Str}{pos:Pos}{Q:Unit->Shared->Prop} (I:Inv X pins σ H s) (hN:X.N.Nodup) (hi:X.N[i]? = some x) (hk:X.env.scope.names.lookup x=some .local)
  (h:∀ s',Inv X pins (σ.set i none) H s'->Q () s'):wpAny M A (do bindName X.env x .none;unbindBehindTheSuite X.env x pos) Q E s:=by
 obtain ⟨m,hn,hl⟩:=id I.loc
 have hcls:(X.env.scope.kind == .class || (X.env.scope.kind == .module && X.env.locals != X.env.globals))=false:=by rw [I.ok.kind];rfl
 have cne:=I.cne
 refine wpAny_nameGoes_keeps hk hn hcls λh' v hn' hs=>?_
 have out:∀ {b:Addr}{o:Obj},X.s₀.heap.get? b=some o->b≠X.env.locals:=λq=>Nat.ne_of_lt (Nat.lt_of_lt_of_le (Heap.lt_size q) I.ok.above)
 refine h _ ⟨I.ok,I.os,I.bare,⟨λb o e n hb hx=>?_,λb o e n hb hx=>?_,I.base.free,λb o e hx=>?_,I.base.tups,I.base.frzs,I.base.tbls⟩,⟨_,hn',λj y v' e1 e2 e3=>?_⟩,λy c e=>?_,I.free,I.freeC,λp hp=>?_,λb ob e=>?_,by simpa using I.len⟩
 ·exact (hs.2 b (out e)).trans (I.base.keep b o e n hb hx)
 ·obtain ⟨sl,e1⟩:=I.base.slot b o e n hb hx
  exact ⟨sl,(hs.2 b (out e)).trans e1⟩
 ·obtain ⟨o',e1⟩:=I.base.there b o e hx
  exact ⟨o',(hs.2 b (out e)).trans e1⟩
 ·by_cases hj:j=i
  ·subst hj
   have hiσ:j<σ.length:=by rw [I.len];exact (List.getElem?_eq_some_iff.mp hi).1
   rw [List.getElem?_set_self hiσ] at e2
   cases e2
  ·rw [List.getElem?_set_ne (Ne.symm hj)] at e2
   obtain ⟨u',r',q⟩:=hl j y v' e1 e2 e3
   refine ⟨u',r',?_⟩
   rcases q with ⟨k,e⟩ | ⟨k,c,e,z⟩
   ·refine .inl ⟨k,?_⟩
    have:y≠x:=λe=>hj (nodup_ix hN e1 (e ▸ hi))
    simp [this,e]
   ·exact .inr ⟨k,c,e,z.sameBut hs (cne y c e)⟩
 ·obtain ⟨w',z⟩:=I.cell y c e
  exact ⟨w',z.sameBut hs (cne y c e)⟩
 ·obtain ⟨e,n,ne,nf,d⟩:=I.pin p hp
  exact ⟨(hs.2 p.1 ne).trans e,n,ne,nf,d⟩
 ·refine (I.hok b ob e).stay (λc w' hc q=>(hs.2 c ?_).trans q) (λ_ q=>q) λ_ _ q=>q
  rintro rfl
  rcases hc with rfl | hc
  ·rw [I.free] at e;cases e
  ·rw [I.free] at hc;cases hc
theorem Inv.with (I:Inv X pins σ H s) (y:Value->Shared->Prop):Inv { X with pn:=X.pn++pins,xe:=y } [] σ H s:=
 ⟨⟨I.ok.mod,I.ok.kind,I.ok.glob,I.ok.blt,I.ok.above,I.ok.inj,I.ok.has,I.ok.cab,I.ok.hd,I.ok.frames,I.ok.stk,I.ok.exf,I.ok.bs,I.ok.bsz,I.ok.noex,I.ok.exfs,I.ok.funs,I.ok.frf⟩,I.os,I.bare,I.base,I.loc,I.cell,I.free,I.freeC,λp hp=>I.pin p (by simpa using hp),I.hok,I.len⟩
theorem Inv.off {y:Value->Shared->Prop}{q:List (Addr×Obj)} (I:Inv { X with pn:=X.pn++pins,xe:=y } q σ H s):Inv X pins σ H s:=
 ⟨⟨I.ok.mod,I.ok.kind,I.ok.glob,I.ok.blt,I.ok.above,I.ok.inj,I.ok.has,I.ok.cab,I.ok.hd,I.ok.frames,I.ok.stk,I.ok.exf,I.ok.bs,I.ok.bsz,I.ok.noex,I.ok.exfs,I.ok.funs,I.ok.frf⟩,I.os,I.bare,I.base,I.loc,I.cell,I.free,I.freeC,λp hp=>I.pin p (List.mem_append_left _ hp),I.hok,I.len⟩
def Cx.caught (X:Cx) (pins:List (Addr×Obj)) (e:Addr) (oe:Obj):Cx:={ X with A:=X.A.mark (some (.ref e)),calm:=false,pn:=X.pn++pins++[(e,oe)],xe:=λ_ _=>False }
theorem Inv.caught {e:Addr}{oe:Obj} (I:Inv X pins σ H s) (ge:s.heap.get? e=some oe) (hn:H e=none) (h1:e≠X.env.locals) (h2:e∉X.fs) (h3:∀ v,oe.data ≠ .cell v):Inv (X.caught pins e oe) [] σ H s:=
 ⟨⟨I.ok.mod,I.ok.kind,I.ok.glob,I.ok.blt,I.ok.above,I.ok.inj,I.ok.has,I.ok.cab,(λz=>by cases z),I.ok.frames,I.ok.stk,I.ok.exf,I.ok.bs,I.ok.bsz,I.ok.noex,I.ok.exfs,I.ok.funs,I.ok.frf⟩,I.os,I.bare,I.base,I.loc,I.cell,I.free,I.freeC,λp hp=>by
  have hp':p∈X.pn++pins++[(e,oe)]:=by simpa [Cx.caught] using hp
  rcases List.mem_append.mp hp' with z | z
  ·exact I.pin p z
  ·rw [List.mem_singleton.mp z]
   exact ⟨ge,hn,h1,h2,h3⟩,I.hok,I.len⟩
theorem Inv.uncaught {e:Addr}{oe:Obj}{q:List (Addr×Obj)} (I:Inv (X.caught pins e oe) q σ H s) (hd:X.calm=true->X.A.handled=none):Inv X pins σ H s:=
 ⟨⟨I.ok.mod,I.ok.kind,I.ok.glob,I.ok.blt,I.ok.above,I.ok.inj,I.ok.has,I.ok.cab,hd,I.ok.frames,I.ok.stk,I.ok.exf,I.ok.bs,I.ok.bsz,I.ok.noex,I.ok.exfs,I.ok.funs,I.ok.frf⟩,I.os,I.bare,I.base,I.loc,I.cell,I.free,I.freeC,λp hp=>I.pin p (List.mem_append_left _ (List.mem_append_left _ hp)),I.hok,I.len⟩
end
theorem matches_own {M:Model}{A:Around}{E:Value->Shared->Prop}{s:Shared}{nm q:Str}{C N:Addr}{bs bm:List Value}{hdct:Bool}{sn:List Str}{sub:List Value}{ab:Bool}{col:Option Bool}{dd:Option Addr}{k0 k1 k2 k3 k5:Option Value}{newId:String}
  {nm' q':Str}{D N':Addr}{bs' bm':List Value}{hdct':Bool}{sn':List Str}{sub':List Value}{ab':Bool}{col':Option Bool}{dd':Option Addr}{j0 j1 j2 j3 j5:Option Value}{newId':String}{e:Addr}{oe:Obj}{Q:Bool->Shared->Prop}
  (hC:s.heap.get? C=some (excClassObj nm q C N bs bm hdct sn sub ab col dd k0 k1 k2 k3 k5 newId)) (hD:s.heap.get? D=some (excClassObj nm' q' D N' bs' bm' hdct' sn' sub' ab' col' dd' j0 j1 j2 j3 j5 newId'))
  (he:s.heap.get? e=some oe) (hcls:oe.cls = .ref C) (hbase:bm'.contains (.type "BaseException")=true) (hb:(Value.ref C::bm).contains (.ref D)=true) (hq:Q true s):wpAny M A (excMatches (.ref e) (.ref D)) Q E s:=by
 have hcB:(Value.ref D::bm').contains (.type "BaseException")=true:=by rw [List.contains_cons,hbase,Bool.or_true]
 obtain ⟨hh,g,d,t,os⟩:=s
 have nt:=tc_notTuple
 unfold excMatches
 repeat (first | (with_reducible refine wpAny_loadPart_at he ?_;rw [hcls]) | with_reducible refine wpAny_loadPart_at hD ?_ | with_reducible refine wpAny_loadPart_at hC ?_ | (with_reducible refine wpAny_isSubtype_exc hD ?_;rw [hcB]) | (with_reducible refine wpAny_isSubtype_exc hC ?_;rw [hb]) | wp_step)
 exact hq
def PassesS (CX:CXT) (X:Cx) (E:St->XK):Prop:=∀ (pins:List (Addr×Obj)) (σ:St) (H:Hp) (s:Shared) (e:Value) (s':Shared),Inv X pins σ H s->CX X.stack H s (E σ) e s'->X.xe e s'
def tCallS (sp:Sp) (E:St->XK) (t:TA):TE:=λσ H Q=>t σ H λvs H1=>sp vs H1 Q (E σ)
section
variable {X:Cx}{CX:CXT}{k:Nat}{f:Addr}{fd:FuncData}{ps:List Str}{sp:Sp}{E:St->XK}{x:Str}{p pos:Pos}{e:Expr}{es:List Expr}{t:TA}
theorem pe_callS (F:FnOk X.prog X.w X.K X.mg X.base CX k f fd ps sp) (hr:Room k X.A) (hg:Gl X x) (hm:X.mg x=some (.ref f)) (hk:PySem.W.keepIn X.K (.ref f)=true) (hb:Binds X.K fd ps []) (hx:PassesS CX X E)
  (ha:PA X (e::es) t) (hdb:(x == ("__debug__" : Str))=false:=by decide) (he:starEach (e::es) X.env=(false,eval e X.env)::starEach es X.env:=by rfl) (hpl:(backTo pos (starEach es X.env)).any (·.1)=false:=by rfl) :
  PE X (.Call (.Name x p) (e::es) [] pos) (tCallS sp E t):=by
 intro pins s σ H Q I h
 refine wpAny_Call_Name_kw (ld_glob I hg hm ?_ hdb)
 refine PySem.W.callWith_K (h₀:=X.base) I.ok.mod.kin hk (thn (ha pos pins s σ H _ I h) λus s1 ⟨vs,H1,I1,r,q⟩=>⟨I1.kIn,?_⟩) he hpl
 have hl:(us++[]).length=ps.length:=by rw [List.append_nil,<-r.length];exact F.len _ _ _ _ q
 refine wpAny_call (codeAny_mono (F.run X.A X.stack s1 H1 ⟨us,[]⟩ (us++[]) vs Q (E σ) hr I1.env0 (hb s1 us I1.kIn hl) (by rw [List.append_nil];exact r) q) λr' s' hq=>?_)
 cases r' with
 | error e=>exact hx pins σ H1 s1 e s' I1 hq
 | ok fl=>
  cases fl with
  | ret u=>exact I1.after hq
  | next=>exact False.elim hq
  | brk=>exact False.elim hq
  | cont=>exact False.elim hq
end
def mroIn (K:PySem.W.Frag) (C D:Addr):Bool:=match K.lookup C with
 | some ⟨_,_,.cls cd,_⟩=>cd.mro.contains (.ref D)
 | _=>false
theorem mro_of {K:PySem.W.Frag}{h:Heap}{C D:Addr} (X:K.In h) (q:mroIn K C D=true) {nm qn:Str}{N:Addr}{bs bm:List Value}{hdct:Bool}{sn:List Str}{sub:List Value}{ab:Bool}{col:Option Bool}{dd:Option Addr}{k0 k1 k2 k3 k5:Option Value}{newId:String}
  (hC:h.get? C=some (excClassObj nm qn C N bs bm hdct sn sub ab col dd k0 k1 k2 k3 k5 newId)):(Value.ref C::bm).contains (.ref D)=true:=by
 unfold mroIn at q
 split at q
 ·rename_i cd _ ho
  have:=X _ _ ho
  rw [hC] at this
  cases this
  exact q
 ·cases q
abbrev VEs:List Value:=[.type "ValueError",.type "Exception",.type "BaseException",.type "object"]
def tCaught (K:PySem.W.Frag) (D:Addr) (i:Nat) (ts:Addr->Addr->TS) (En:Ends):St->XK:=λσ cls eo H'=>∃ e C,cls = .ref C/\eo=some e/\PySem.W.excIn K C VEs "ValueError.__new__" = true/\mroIn K C D=true /\
 ts e C { nx:=λσ' H2=>En.nx (σ'.set i none) H2,rt:=En.rt,bk:=λσ' H2=>En.bk (σ'.set i none) H2,ct:=λσ' H2=>En.ct (σ'.set i none) H2 } (σ.set i (some (.ref e))) H'
section
variable {X:Cx}{D:Addr}{i:Nat}{n x:Str}{ts:Addr->Addr->TS}
theorem caught_ok {pins:List (Addr×Obj)}{σ:St}{H:Hp}{s s':Shared}{e:Value}{En:Ends}{b₀:Stmt}{suite:List Stmt}{np pos:Pos} (I:Inv X pins σ H s) (hst:X.stack=X.env::X.outer) (hf:X.env.frame=some X.env.locals) (hc:X.calm=true)
  (hg:Gl X x) (hm:X.mg x=some (.ref D)) (qD:PySem.W.excIn X.K D VEs "ValueError.__new__" = true) (hN:X.N.Nodup) (hi:X.N[i]? = some n) (hk:X.env.scope.names.lookup n=some .local)
  (hs:∀ ea C oe vs,oe.cls = .ref C->oe.dict=none->oe.data = .fields vs->vs[2]? = some .none->PSs (X.caught pins ea oe) (b₀::suite) (ts ea C)) (h:CXe X.prog X.w X.stack H s (tCaught X.K D i ts En σ) e s') (hdb:(x == ("__debug__" : Str))=false) :
  wpAny (model X.prog X.w) X.A (noteFrame e X.env) (λ_ s₂=>wpAny (model X.prog X.w) X.A (setFlight e none) (λ_ s₃=>wpAny (model X.prog X.w) X.A (handleBy e X.env [.ExceptHandler (some (.Name x np)) (some n) (b₀::suite) pos]) (SP X pins En) X.xe s₃) X.xe s₂) X.xe s':=by
 obtain ⟨ea,C,T,H',rfl,os,bare,un,hok,nE,nT,neT,hE,hT,xE,xT,e2,C2,eC,ee,qC,qm,hts⟩:=h
 cases eC
 cases ee
 have hfr:X.A.frames=some (X.env::X.outer):=by rw [I.ok.frames,hst]
 have gk:∀ {b o},s'.heap.get? b=some o->b≠ea->b≠T->(PySem.W.hideAll s'.heap [ea,T]).get? b=some o:=λq n1 n2=>PySem.W.hideAll_get _ q (by simp [n1,n2])
 have gE:(PySem.W.hideAll s'.heap [ea,T]).get? ea=none:=PySem.W.hideAll_none _ (by simp)
 have gT:(PySem.W.hideAll s'.heap [ea,T]).get? T=none:=PySem.W.hideAll_none _ (by simp)
 have gs:Stays (frs (X.env::X.outer)) (PySem.W.hideAll s'.heap [ea,T]) s'.heap:=Stays.keeps λb o q=>PySem.W.of_hideAll _ q
 generalize PySem.W.hideAll s'.heap [ea,T]=g at gk gE gT gs
 have I':Inv X pins σ H' s':=I.call' os un hok bare λb z=>absurd z (by simp)
 have hl:g.FunFrames X.base (X.env::X.outer):=by
  have:=I'.stack
  rw [hst] at this
  refine this.of_keeps λb o hb nf=>⟨o,gk hb (λz=>?_) (λz=>?_),rfl⟩
  ·obtain ⟨_,_,ge,_,hd,_⟩:=xE
   rw [z,ge] at hb;cases hb
   exact nf _ hd
  ·obtain ⟨_,_,ge,hd,_⟩:=xT
   rw [z,ge] at hb;cases hb
   exact nf _ hd
 have back:∀ (s3:Shared),s3.os=s'.os->AllBare s3.gens->Stays (frs (X.env::X.outer)) g s3.heap->(∃ tb,ExcAt s3.heap ea (.ref C) tb)->Inv X pins σ H' s3:=λs3 o3 b3 st ⟨tb,x3⟩=>by
  have sg:∀ b o,s.heap.get? b=some o->∀ o',s'.heap.get? b=some o'->g.get? b=some o':=λb o q o' q'=>gk q' (λz=>by rw [z,nE] at q;cases q) (λz=>by rw [z,nT] at q;cases q)
  refine I.call' (o3.trans os) ⟨λb o q n nf ne=>?_,λb o q n hf ne=>?_,un.free,λb o q ne=>?_,un.tups,un.frzs,un.tbls⟩ (λa u q=>?_) b3 λb z=>absurd z (by simp)
  ·rw [hst] at nf
   exact (st b o (sg b o q o (un.keep b o q n (by rw [hst];exact nf) ne))).1 nf
  ·obtain ⟨sl,q1⟩:=un.slot b o q n hf ne
   rw [hst] at hf
   exact (st b _ (sg b o q _ q1)).2 hf
  ·obtain ⟨o',q1⟩:=un.there b o q ne
   exact st.size b o' (sg b o q o' q1)
  ·by_cases z:a=ea
   ·rw [z,hE] at q;cases q
   ·have stk:=I'.stkFree
    refine (hok a u q).stay (λc w' hcc qq=>?_) (λ_ q=>q) λ_ _ q=>q
    have hc':∃ v,H' c=some v:=by
     rcases hcc with rfl | hcc
     ·exact ⟨u,q⟩
     ·exact ⟨_,hcc⟩
    obtain ⟨v,hv⟩:=hc'
    refine (st c w' (gk qq (λzz=>?_) (λzz=>?_))).1 λzz=>?_
    ·rw [zz,hE] at hv;cases hv
    ·rw [zz,hT] at hv;cases hv
    ·rw [<-hst] at zz
     rw [stk c zz] at hv;cases hv
 refine note_exc hfr hl gs hf xE gE (.inr ⟨T,rfl,neT,gT,xT⟩) λh1 T1 nT1 ne1 x1 t1 st1=>?_
 refine fly_off st1 x1 t1 ne1 nT1 λh2 x2 t2 st2=>?_
 have I2:=(back { s' with heap:=h2 } rfl bare st2 ⟨_,x2⟩)
 obtain ⟨bm,N,nm,qn,bs,hdct,sn,sub,ab,col,dd,k0,k1,k2,k3,k5,mN,hC,_,_,_⟩:=exc_of_in I2.kIn qC
 obtain ⟨bm',N',nm',qn',bs',hdct',sn',sub',ab',col',dd',j0,j1,j2,j3,j5,mN',hD,_,_,TD⟩:=exc_of_in I2.kIn qD
 obtain ⟨oe,vs,ge,hcls,hd2,_,_⟩:=id x2
 have eL:ea≠X.env.locals:=λz=>by
  obtain ⟨m,⟨o,_,_,ho,_⟩,_⟩:=id I.loc
  rw [<-z,nE] at ho;cases ho
 have eF:ea∉X.fs:=λz=>by
  obtain ⟨_,o,ho,_⟩:=I.funs.mem z
  rw [nE] at ho;cases ho
 refine wpAny_handleBy_cons (codeAny_handlers_test (ld_glob (X:=X.caught pins ea oe) (I2.caught ge hE eL eF λv z=>by rw [hd2] at z;cases z) hg hm ?_ hdb)) (by intro q;cases q)
 refine matches_own hC hD ge hcls.1 (TD.hasType (by decide +kernel)) (mro_of I2.kIn qm hC) ?_
 refine codeAny_handlers_suite_as ?_
 refine fly_off st2 x2 t2 ne1 nT1 λh3 x3 t3 st3=>?_
 have I3:=back { s' with heap:=h3 } rfl bare st3 ⟨_,x3⟩
 obtain ⟨o3,vs3,ge3,hcls3,hd3,_,v3⟩:=id x3
 refine store_ok (X:=X.caught pins ea o3) (v:=.ref ea) (I3.caught ge3 hE eL eF λv z=>by rw [hd3] at z;cases z) hN hi (.inl hk) rfl (λs4 I4=>?_) (.inr hk)
 refine wpAny_mono (hs ea C o3 vs3 hcls3.1 hcls3.2 hd3 v3 [] s4 _ H' _ I4 hts) (λfl s5 z=>?_) λ_ _ z=>False.elim z
 cases fl with
 | next=>
  obtain ⟨σ',H2,I5,q5⟩:=z
  exact goes_ok (I5.uncaught I.ok.hd) hN hi hk λs6 I6=>⟨_,H2,I6,q5⟩
 | brk=>
  obtain ⟨σ',H2,I5,q5⟩:=z
  exact goes_ok (I5.uncaught I.ok.hd) hN hi hk λs6 I6=>⟨_,H2,I6,q5⟩
 | cont=>
  obtain ⟨σ',H2,I5,q5⟩:=z
  exact goes_ok (I5.uncaught I.ok.hd) hN hi hk λs6 I6=>⟨_,H2,I6,q5⟩
 | ret u=>
  obtain ⟨v,σ',H2,I5,rv,q5⟩:=z
  exact goes_ok (I5.uncaught I.ok.hd) hN hi hk λs6 I6=>⟨v,_,H2,I6,rv,q5⟩
def tTry (K:PySem.W.Frag) (D:Addr) (i:Nat) (ts:Addr->Addr->TS) (tb:(St->XK)->TS):TS:=λEn σ H=>tb (tCaught K D i ts En) En σ H
theorem ps_try {body suite:List Stmt}{b₀:Stmt}{np pos hpos:Pos}{tb:(St->XK)->TS} (hst:X.stack=X.env::X.outer) (hf:X.env.frame=some X.env.locals) (hc:X.calm=true)
  (hg:Gl X x) (hm:X.mg x=some (.ref D)) (qD:PySem.W.excIn X.K D VEs "ValueError.__new__" = true) (hN:X.N.Nodup) (hi:X.N[i]? = some n) (hk:X.env.scope.names.lookup n=some .local)
  (hb:∀ pn xe E,PassesS (CXe X.prog X.w) { X with pn:=pn,xe:=xe } E->PSs { X with pn:=pn,xe:=xe } body (tb E)) (hs:∀ pins ea C oe vs,oe.cls = .ref C->oe.dict=none->oe.data = .fields vs->vs[2]? = some .none->PSs (X.caught pins ea oe) (b₀::suite) (ts ea C)) (hdb:(x == ("__debug__" : Str))=false:=by decide) :
  PS X (.Try body [.ExceptHandler (some (.Name x np)) (some n) (b₀::suite) hpos] [] [] pos) (tTry X.K D i ts tb):=by
 intro pins s σ H En I h
 refine wpAny_Try_except ?_
 generalize hy:(λ(e:Value) (s₁:Shared)=>wpAny (model X.prog X.w) X.A (noteFrame e X.env) (λ_ s₂=>wpAny (model X.prog X.w) X.A (setFlight e none) (λ_ s₃=>wpAny (model X.prog X.w) X.A (handleBy e X.env [.ExceptHandler (some (.Name x np)) (some n) (b₀::suite) hpos]) (SP X pins En) X.xe s₃) X.xe s₂) X.xe s₁)=y
 have I1:=I.with y
 refine wpAny_mono (hb (X.pn++pins) y (tCaught X.K D i ts En) (λq σ' H' s1 e s' J z=>?_) [] s σ H En I1 h) (λfl s1 z=>?_) λ_ _ z=>z
 ·show y e s'
  rw [<-hy]
  exact caught_ok J.off hst hf hc hg hm qD hN hi hk (hs pins) z hdb
 ·cases fl with
  | next=>
   obtain ⟨σ',H2,J,q⟩:=z
   exact pss_nil pins s1 σ' H2 En J.off q
  | brk=>
   obtain ⟨σ',H2,J,q⟩:=z
   exact ⟨σ',H2,J.off,q⟩
  | cont=>
   obtain ⟨σ',H2,J,q⟩:=z
   exact ⟨σ',H2,J.off,q⟩
  | ret u=>
   obtain ⟨v,σ',H2,J,rv,q⟩:=z
   exact ⟨v,σ',H2,J.off,rv,q⟩
end
end L2
namespace L2
open PySem PySem.Spec PyProof.Rows
theorem entry_unchain:entryFor table "proto.unchain" = some Builtin.«proto.unchain»:=entryFor_of_tree (by kernel_rfl)
def Handled (A:Around) (h:Heap) (ea:Addr):Prop:=A.handled=some (.ref ea)/\∃ oe vs,h.get? ea=some oe/\oe.data = .fields vs/\vs[2]? = some Value.none
theorem unchain_none {prog:Program}{w:World}{A:Around}{R:Result->Shared->Prop}{s:Shared}{e:Value}{ea:Addr}{oe:Obj}{vs:Array Value} (ge:s.heap.get? ea=some oe) (hd:oe.data = .fields vs) (v2:vs[2]? = some .none)
  (h:R (.ok (.ret .none)) s):codeAny (model prog w) A (.builtin "proto.unchain" ⟨[e,.ref ea,.ref ea,.bool false],[]⟩) R s:=by
 refine codeAny_builtin entry_unchain ?_
 show wpAny _ _ (field (.ref ea) 2 >>= _) _ _ s
 refine wpAny_bind (wpAny_field ge hd v2 ?_)
 exact wpAny_pure h
theorem raise_handled {prog:Program}{w:World}{A:Around}{E:Value->Shared->Prop}{s:Shared}{α:Type}{Q:α->Shared->Prop}{a ea:Addr}{oa:Obj}{us:Array Value} (hh:Handled A s.heap ea) (ne:a≠ea) (ga:s.heap.get? a=some oa) (da:oa.data = .fields us) (sz:2<us.size)
  (h:∀ h',(∀ b o,b≠a->s.heap.get? b=some o->h'.get? b=some o)->(∃ o,h'.get? a=some o/\o.cls=oa.cls)->E (.ref a) { s with heap:=h' }):wpAny (model prog w) A (raiseNew (.ref a):Sem α) Q E s:=by
 obtain ⟨hA,oe,vs,ge,hd,v2⟩:=hh
 unfold raiseNew
 refine wpAny_bind (wpAny_handled ?_)
 rw [hA]
 dsimp only
 rw [if_pos (by simpa using λz:ea=a=>ne z.symm)]
 refine wpAny_bind (wpAny_holding (wpAny_runValue (unchain_none ge hd v2 ?_)))
 have hd3:=Obj.data_mapFields da (·.setIfInBounds 2 (Value.ref ea))
 refine wpAny_bind (wpAny_setField ga da sz (wpAny_throw (h _ (λb o nb q=>?_) ?_)))
 ·exact (Heap.get?_update_other _ _ (Ne.symm nb)).trans q
 ·exact ⟨_,Heap.get?_update_self _ ga (Obj.isFreed_of_fields hd3),Obj.cls_mapFields _ _⟩
theorem Handled.keeps {A:Around}{h h':Heap}{ea:Addr} (x:Handled A h ea) (k:∀ o,h.get? ea=some o->h'.get? ea=some o):Handled A h' ea:=let ⟨a,oe,vs,ge,r⟩:=x;⟨a,oe,vs,k _ ge,r⟩
theorem new_stop {M:Model}{A:Around}{E:Value->Shared->Prop}{s:Shared}{Q:Value->Shared->Prop}
  (h:∀ h' e us,(∀ b o,s.heap.get? b=some o->h'.get? b=some o)->s.heap.get? e=none->h'.get? e=some { cls:=.type "StopIteration",data:=.fields us }->2<us.size->Q (.ref e) { s with heap:=h' }):wpAny M A (newExc (.type "StopIteration") []) Q E s:=by
 unfold newExc newTuple
 refine wpAny_bind (wpAny_newObj_type ?_ (by size_fits))
 refine wpAny_bind (m:=firstArgMember _ _) (wpAny_of_eq (a:=Value.none) (by first | rfl | (simp only [firstArgMember];rfl)) ?_)
 refine wpAny_newObj_type (h _ _ _ (λb o q=>Heap.get?_push_of_some _ (Heap.get?_push_of_some _ q)) (Heap.get?_none_of_le (by simp)) (Heap.get?_push_size _ rfl) (by simp [ownMembersOf])) (by size_fits)
section
variable {prog:Program}{w:World}{A:Around}{E:Value->Shared->Prop}{s:Shared}{ea:Addr}
theorem stop_handled {α:Type}{Q:α->Shared->Prop} (hh:Handled A s.heap ea) (h:∀ h' e,(∀ b o,s.heap.get? b=some o->h'.get? b=some o)->(∃ o,h'.get? e=some o/\o.cls = .type "StopIteration")->E (.ref e) { s with heap:=h' }) :
  wpAny (model prog w) A (newExc (.type "StopIteration") [] >>= λe=>(raiseNew e:Sem α)) Q E s:=by
 refine wpAny_bind (new_stop λh1 e us k nE ge sz=>?_)
 have ne:e≠ea:=λz=>by
  obtain ⟨_,oe,_,q,_⟩:=hh
  rw [<-z,nE] at q;cases q
 refine raise_handled (hh.keeps (k ea)) ne ge rfl sz λh2 k2 x2=>h h2 e (λb o q=>k2 b o (λz=>?_) (k b o q)) x2
 rw [z,nE] at q;cases q
theorem tuple_endH {it t:Addr}{i:Nat}{items:Array Value}{Q:Option Value->Shared->Prop} (hh:Handled A s.heap ea) (hne:it≠ea) (hit:IsTupIter s.heap it t i) (ht:IsTup s.heap t items) (hx:items[i]? = none)
  (hQ:∀ h',Heap.ExtBut it s.heap h'->Q none { s with heap:=h' }):wpAny (model prog w) A (pyNext (.ref it)) Q E s:=by
 obtain ⟨o,ho,hc,hd⟩:=id hit
 obtain ⟨ol,hol,_,nl,hdl⟩:=ht
 unfold pyNext
 refine wpAny_bind (wpAny_attempt (wpAny_callSpecial?_slot (name:=Str.ofString "__next__") hit.typeIs slot_tupleiter_next (wpAny_call_entry slot_tupleiter_next hit.typeIs entry_tupleiter_next ?_ (args_tupleiter_next _))))
 show wpAny _ _ (field (.ref it) 0 >>= _) _ _ s
 refine wpAny_bind (wpAny_field ho hd (x:=.ref t) rfl ?_)
 show wpAny _ _ (if (Value.ref t == Value.none)=true then _ else _) _ _ s
 rw [if_neg (show ¬ (Value.ref t == Value.none)=true from Bool.false_ne_true)]
 show wpAny _ _ (field (.ref it) 1 >>= _) _ _ s
 refine wpAny_bind (wpAny_field ho hd (x:=.int i 0) rfl ?_)
 show wpAny _ _ (seqItems? (.ref t) >>= _) _ _ s
 refine wpAny_bind (wpAny_seqItems hol hdl ?_)
 simp only [Int.toNat_natCast,hx]
 refine wpAny_bind (wpAny_rule (wpAny_bind (wpAny_setField ho hd (by simp) ?_)))
 have ku:∀ b o',b≠it->s.heap.get? b=some o'->(s.heap.update it (Obj.mapFields (·.setIfInBounds 0 Value.none))).get? b=some o':=λb o' nb q=>(Heap.get?_update_other _ _ (Ne.symm nb)).trans q
 show wpAny _ _ (newExc (.type "StopIteration") [] >>= _) _ _ _
 refine stop_handled (ea:=ea) (hh.keeps λo' q=>ku _ _ (Ne.symm hne) q) λh2 e k2 x2=>?_
 obtain ⟨oe,ge,ce⟩:=x2
 refine wpAny_bind (wpAny_isInstance (T:= "StopIteration") (b:=true) ⟨oe,ge,ce⟩ isSubtype_stop ?_)
 exact wpAny_pure (hQ _ λb o' nb q=>k2 _ _ (ku b o' nb q))
theorem unpackH {t:Addr}{items:Array Value}{Q:List Value->Shared->Prop} (hh:Handled A s.heap ea) (ht:IsTup s.heap t items)
  (hQ:∀ h',Heap.ExtBut s.heap.objs.size s.heap h'->Q items.toList { s with heap:=h' }):wpAny (model prog w) A (unpackItems (.ref t) items.size none) Q E s:=by
 have hlt:t≠s.heap.objs.size:=by obtain ⟨o,ho,_⟩:=ht;exact Nat.ne_of_lt (Heap.lt_size ho)
 have hle:ea<s.heap.objs.size:=by obtain ⟨_,o,_,ho,_⟩:=hh;exact Heap.lt_size ho
 unfold unpackItems
 refine wpAny_bind ?_
 unfold notIterableAtAll
 refine wpAny_bind (wpAny_specialOf ht.typeIs slot_tuple_iter.lookup (wpAny_pure ?_))
 simp only [Bool.false_eq_true,if_false]
 refine wpAny_bind (wpAny_holding (iter_tuple ht ?_))
 refine wpAny_bind (wpAny_holding (draw_tuple hlt items.size 0 _ _ ⟨_,Heap.get?_push_size _ rfl,rfl,rfl⟩ (ht.push _) (by lia) λg1 it1 sb1=>?_))
 have e0:List.take items.size (List.drop 0 items.toList)=items.toList:=by
  rw [List.drop_zero];exact List.take_of_length_le (by simp)
 rw [e0,if_neg (by simp)]
 have ht1:IsTup g1 t items:=(ht.push _).extBut sb1.extBut hlt
 have hh1:Handled A g1 ea:=hh.keeps λo q=>sb1.extBut _ _ (Nat.ne_of_lt hle) (Heap.get?_push_of_some _ q)
 refine wpAny_bind (wpAny_holding (tuple_endH (s:={ s with heap:=g1 }) hh1 (Nat.ne_of_gt hle) it1 ht1 (by simp) λg2 x2=>?_))
 simp only [Option.isSome_none,Bool.false_eq_true,if_false]
 exact wpAny_pure (hQ g2 λb o nb q=>x2 b o nb (sb1.extBut b o nb (Heap.get?_push_of_some _ q)))
theorem assignTupH {env:Env}{elts:List Expr} {x1}{pos:Pos}{t:Addr}{items:Array Value}{Q:Unit->Shared->Prop} (hh:Handled A s.heap ea) (ht:IsTup s.heap t items)
  (hn:(assignEach elts env).length=items.size) (hstar:(assignEach elts env).findIdx? (·.1)=none)
  (h:∀ h',Heap.ExtBut s.heap.objs.size s.heap h'->wpAny (model prog w) A (assignInOrder ((assignEach elts env).map (·.2)) items.toList) Q E { s with heap:=h' }) :
  wpAny (model prog w) A (assign (.Tuple elts x1 pos) env (.ref t)) Q E s:=by
 rw [assign_Tuple]
 refine wpAny_bind (wpAny_standAt ?_)
 unfold unpack
 rw [hn,hstar]
 exact wpAny_bind (wpAny_holding (unpackH hh ht h))
theorem nextOf_endH {it l:Addr}{i:Nat}{items:Array Value}{Q:Value->Shared->Prop} (hh:Handled A s.heap ea) (hne:it≠ea) (hit:s.heap.IsListIter it l i) (hl:s.heap.IsList l items) (hx:items[i]? = none)
  (hE:∀ h' e,Heap.ExtBut it s.heap h'->(∃ o,h'.get? e=some o/\o.cls = .type "StopIteration")->E (.ref e) { s with heap:=h' }):wpAny (model prog w) A (Builtin.SmallTypes.nextOf (.ref it)) Q E s:=by
 obtain ⟨o,ho,hc,hd⟩:=id hit
 obtain ⟨ol,hol,_,nl,hdl⟩:=hl
 unfold Builtin.SmallTypes.nextOf
 refine wpAny_bind (wpAny_callSpecial?_slot (name:=Str.ofString "__next__") hit.typeIs slot_listiter_next (wpAny_call_entry slot_listiter_next hit.typeIs entry_listiter_next ?_ (args_listiter_next _)))
 show wpAny _ _ (field (.ref it) 0 >>= _) _ _ s
 refine wpAny_bind (wpAny_field ho hd (x:=.ref l) rfl ?_)
 show wpAny _ _ (if (Value.ref l == Value.none)=true then _ else _) _ _ s
 rw [if_neg (show ¬ (Value.ref l == Value.none)=true from Bool.false_ne_true)]
 show wpAny _ _ (field (.ref it) 1 >>= _) _ _ s
 refine wpAny_bind (wpAny_field ho hd (x:=.int i 0) rfl ?_)
 show wpAny _ _ (seqItems? (.ref l) >>= _) _ _ s
 refine wpAny_bind (wpAny_seqItems hol hdl ?_)
 simp only [Int.toNat_natCast,hx]
 refine wpAny_bind (wpAny_rule (wpAny_bind (wpAny_setField ho hd (by simp) ?_)))
 have ku:∀ b o',b≠it->s.heap.get? b=some o'->(s.heap.update it (Obj.mapFields (·.setIfInBounds 0 Value.none))).get? b=some o':=λb o' nb q=>(Heap.get?_update_other _ _ (Ne.symm nb)).trans q
 show wpAny _ _ (newExc (.type "StopIteration") [] >>= _) _ _ _
 exact stop_handled (ea:=ea) (hh.keeps λo' q=>ku _ _ (Ne.symm hne) q) λh2 e k2 x2=>hE h2 e (λb o' nb q=>k2 _ _ (ku b o' nb q)) x2
theorem zip_endH {z TI TO i1 i2 l1 l2:Addr}{k1:Nat}{xs:Array Value}{Q:Option Value->Shared->Prop} (hh:Handled A s.heap ea) (nz:z≠ea) (n1:i1≠ea) (D:ZipApart z TI TO i1 i2 l1 l2)
  (hz:IsZip s.heap z TI TO .none) (hTI:IsPair s.heap TI (.ref i1) (.ref i2)) (h1:s.heap.IsListIter i1 l1 k1) (hl1:s.heap.IsList l1 xs) (hx:xs[k1]? = none)
  (hQ:∀ h',(∀ c o,c≠z->c≠TO->c≠i1->c≠i2->s.heap.get? c=some o->h'.get? c=some o)->Q none { s with heap:=h' }):wpAny (model prog w) A (pyNext (.ref z)) Q E s:=by
 have hT:s.TypeIs (.ref z) "zip" :=⟨_,hz,rfl⟩
 unfold pyNext
 refine wpAny_bind (wpAny_attempt (wpAny_callSpecial?_slot (name:=Str.ofString "__next__") hT F.slot_zip_next (wpAny_call_entry F.slot_zip_next hT F.entry_zip_next ?_ (F.args_zip_next_1 _))))
 show wpAny _ _ (field (.ref z) 2 >>= _) _ _ _
 refine wpAny_bind (wpAny_field hz rfl (x:=.bool false) rfl ?_)
 show wpAny _ _ (field (.ref z) 3 >>= _) _ _ _
 refine wpAny_bind (wpAny_field hz rfl (x:=.ref TI) rfl ?_)
 refine wpAny_bind (wpAny_seqItems hTI rfl ?_)
 show wpAny _ _ (Builtin.SmallTypes.ownedTupleIsFree (.ref z) >>= _) _ _ _
 refine wpAny_bind ?_
 unfold Builtin.SmallTypes.ownedTupleIsFree
 refine wpAny_bind (wpAny_field hz rfl (x:=.none) rfl (wpAny_pure ?_))
 simp only [if_true]
 refine wpAny_bind (wpAny_rule ?_)
 refine wpAny_bind (wpAny_field hz rfl (x:=.ref TO) rfl ?_)
 refine wpAny_bind (wpAny_setField_rec hz (by simp) λg1 hz1 sb1=>?_)
 replace hz1:IsZip g1 z TI TO .ellipsis:=hz1
 refine wpAny_bind ?_
 simp only [List.zipIdx_cons,List.zipIdx_nil,List.forIn_cons,List.forIn_nil]
 refine wpAny_bind (wpAny_bind (wpAny_onRaise ?_))
 show wpAny _ _ (Builtin.SmallTypes.nextOf (.ref i1) >>= _) _ _ _
 refine wpAny_bind (nextOf_endH (s:={ s with heap:=g1 }) (A:=A.in1) (ea:=ea) (hh.keeps λo q=>sb1.extBut _ _ (Ne.symm nz) q) n1 (h1.extBut sb1.extBut D.i1z) (hl1.extBut sb1.extBut D.l1z) hx λg2 e sb2 x2=>?_)
 obtain ⟨oe,ge,ce⟩:=x2
 have hz2:IsZip g2 z TI TO .ellipsis:=sb2 _ _ D.i1z.symm hz1
 have nez:e≠z:=λq=>by subst q;rw [hz2] at ge;cases ge;simp at ce
 refine wpAny_setField_rec hz2 (by simp) λg3 _ sb3=>?_
 refine wpAny_bind (wpAny_isInstance (T:= "StopIteration") (b:=true) ⟨oe,sb3.extBut _ _ nez ge,ce⟩ isSubtype_stop ?_)
 exact wpAny_pure (hQ _ λc o c1 _ c3 _ q=>sb3.extBut _ _ c1 (sb2 _ _ c3 (sb1.extBut _ _ c1 q)))
end
end L2
namespace L2
open PySem PySem.Spec PyProof.Rows
def Hd (X:Cx) (ea:Addr):Prop:=∀ pins σ H s,Inv X pins σ H s->Handled X.A s.heap ea/\H ea=none
structure TurnH (ea:Addr) (P:Program) (w:World) (K:PySem.W.Frag) (tg:Expr) (J:It) (fp:List Addr) (it:Addr) (tn:Nat->Heap->Prop):Prop where
 mem:it∈fp
 obj:∀ i h,tn i h->∀ b∈fp,∃ o,h.get? b=some o/\∀ v,o.data ≠ .cell v
 keep:∀ i h h',tn i h->(∀ b∈fp,∀ o,h.get? b=some o->h'.get? b=some o)->tn i h'
 item:∀ (X:Cx),X.prog=P->X.w=w->X.K=K->Hd X ea->∀ (i:Nat) (pins:List (Addr×Obj)) (s:Shared) (σ:St) (H:Hp) (E:Value->Shared->Prop),Inv X pins σ H s->(∀ b∈fp,FpOk X pins H b)->tn i s.heap->J.go i H ->
  wpAny (model P w) X.A (pyNext (.ref it)) (λr s1=>∃ u,r=some u /\
   wpAny (model P w) X.A (letOwnedTupleGo tg (.ref it) u) (λ_ s2=>∃ x H',Inv X pins σ H' s2/\RelV x u/\J.yld i H x H'/\tn (i+1) s2.heap/\∀ b∈fp,H' b=none) E s1) E s
 done:∀ (X:Cx),X.prog=P->X.w=w->X.K=K->Hd X ea->∀ (i:Nat) (pins:List (Addr×Obj)) (s:Shared) (σ:St) (H:Hp) (E:Value->Shared->Prop),Inv X pins σ H s->(∀ b∈fp,FpOk X pins H b)->tn i s.heap->J.stop i H ->
  wpAny (model P w) X.A (pyNext (.ref it)) (λr s1=>r=none/\Inv X pins σ H s1) E s
 self:∀ (A:Around) (i:Nat) (s:Shared) (Q:Value->Shared->Prop) (E:Value->Shared->Prop),tn i s.heap->Q (.ref it) s->wpAny (model P w) A (pyIter (.ref it)) Q E s
def PIEh (ea:Addr) (X:Cx) (pins:List (Addr×Obj)) (σ:St) (tg:Expr) (R:It->Hp->Prop) (itv:Value) (s2:Shared):Prop:=
 ∃ (it:Addr) (fp:List Addr) (tn:Nat->Heap->Prop) (J:It) (H':Hp),itv = .ref it/\Inv X pins σ H' s2/\TurnH ea X.prog X.w X.K tg J fp it tn/\tn 0 s2.heap/\(∀ b∈fp,FpOk X pins H' b)/\(∀ b∈fp,b≠ea)/\R J H'
def PIh (ea:Addr) (X:Cx) (tg iter:Expr) (wi:TI):Prop:=
 ∀ (pins:List (Addr×Obj)) (s:Shared) (σ:St) (H:Hp) (R:It->Hp->Prop),Inv X pins σ H s->wi σ H R ->
  wpAny (model X.prog X.w) X.A (eval iter X.env) (λv s1=>wpAny (model X.prog X.w) X.A (pyIter v) (PIEh ea X pins σ tg R) X.xe s1) X.xe s
def ItzH (K:PySem.W.Frag) (a b:Addr):It:={ Itz K a b with stop:=λi H=>∃ xs ys,SqL K H a xs/\SqL K H b ys/\xs.length<=i }
theorem turn_zipH {ea:Addr}{P:Program}{w:World}{K:PySem.W.Frag}{elts:List Expr}{k:Nat}{pos:Pos} (a b z TI TO i1 i2:Addr) (D:ZipApart z TI TO i1 i2 a b) :
  TurnH ea P w K (.Tuple elts k pos) (ItzH K a b) [z,TI,TO,i1,i2] z (λi h=>IsZip h z TI TO .none/\IsPair h TI (.ref i1) (.ref i2)/\(∃ u v,IsPair h TO u v)/\h.IsListIter i1 a i/\h.IsListIter i2 b i) where
 mem:=by simp
 obj:=λi h st c hc=>by
  obtain ⟨hz,hTI,⟨u,v,hTO⟩,⟨o1,e1,_,g1⟩,⟨o2,e2,_,g2⟩⟩:=st
  simp only [List.mem_cons,List.not_mem_nil,or_false] at hc
  rcases hc with rfl | rfl | rfl | rfl | rfl
  ·exact ⟨_,hz,λv q=>by cases q⟩
  ·exact ⟨_,hTI,λv q=>by cases q⟩
  ·exact ⟨_,hTO,λv q=>by cases q⟩
  ·exact ⟨o1,e1,λv q=>by rw [g1] at q;cases q⟩
  ·exact ⟨o2,e2,λv q=>by rw [g2] at q;cases q⟩
 keep:=λi h h' st kk=>by
  obtain ⟨hz,hTI,⟨u,v,hTO⟩,h1,h2⟩:=st
  exact ⟨kk z (by simp) _ hz,kk TI (by simp) _ hTI,⟨u,v,kk TO (by simp) _ hTO⟩,h1.at λo e=>kk i1 (by simp) o e,h2.at λo e=>kk i2 (by simp) o e⟩
 item:=by
  intro X hP hw hK hc i pins s σ H E I hf st hg
  subst hP hw hK
  obtain ⟨xs,ys,x,y,hq,hq',hx,hy⟩:=hg
  obtain ⟨its,rv,p,_⟩:=I.list hq
  obtain ⟨jts,rv',p',_⟩:=I.list hq'
  obtain ⟨u,hu,ru⟩:=rv.get hx
  obtain ⟨v,hv,rv2⟩:=rv'.get hy
  obtain ⟨hz,hTI,⟨u0,v0,hTO⟩,h1,h2⟩:=st
  have ltn:∀ {b:Addr}{o:Obj},s.heap.get? b=some o->b<s.heap.objs.size:=λe=>Heap.lt_size e
  have hlz:=ltn hz
  have hlTI:=ltn hTI
  have hlTO:=ltn hTO
  have hl1:i1<s.heap.objs.size:=by obtain ⟨_,e,_⟩:=h1;exact ltn e
  have hl2:i2<s.heap.objs.size:=by obtain ⟨_,e,_⟩:=h2;exact ltn e
  refine wpAny_pyNext_zip_item D hz hTI hTO h1 h2 p.isList p'.isList (x:=u) (y:=v) (by simpa using hu) (by simpa using hv) λh' a1 a2 a3 a4 a5 a6 kk=>?_
  refine ⟨_,rfl,?_⟩
  refine wpAny_letOwnedTupleGo_zip a1 λg hz' sb=>?_
  have hfr:H s.heap.objs.size=none:=I.hok.fresh (Nat.le_refl _)
  have new:g.get? s.heap.objs.size=some { cls:=.type "tuple",data:=.seq #[u,v] }:=(sb.2 _ (Nat.ne_of_gt hlz)).trans a5
  have I2:Inv X pins σ (upd H s.heap.objs.size (.tup [x,y])) { s with heap:=g }:=I.turnedLay (t':=s.toks) (wr:=[z,TI,TO,i1,i2]) hf (λc o hcm ec=>by
    have n1:c≠z:=λq=>hcm (by simp [q])
    have n2:c≠TO:=λq=>hcm (by simp [q])
    have n3:c≠i1:=λq=>hcm (by simp [q])
    have n4:c≠i2:=λq=>hcm (by simp [q])
    exact (sb.2 c n1).trans (kk c o n1 n2 n3 n4 ec)) (Nat.le_refl _) ⟨by show 2<=sizeLine;decide,[u,v],.cons ru (.cons rv2 .nil),⟨_,new,rfl,_,rfl⟩⟩
  refine ⟨.ref s.heap.objs.size,_,I2,rfl,⟨_,x,y,hfr,λzs hzs=>by rw [I.list_inj hzs hq];exact hx,λzs hzs=>by rw [I.list_inj hzs hq'];exact hy,rfl,rfl⟩,⟨hz',?_,⟨u,v,?_⟩,?_,?_⟩,λc hcm=>?_⟩
  ·exact (sb.2 _ D.TIz).trans (kk _ _ D.TIz D.TITO D.TIi1 D.TIi2 hTI)
  ·exact (sb.2 _ D.TOz).trans a2
  ·exact a3.at λo e=>(sb.2 _ D.i1z).trans e
  ·exact a4.at λo e=>(sb.2 _ D.i2z).trans e
  ·have hb':c≠s.heap.objs.size:=by
    simp only [List.mem_cons,List.not_mem_nil,or_false] at hcm
    rcases hcm with rfl | rfl | rfl | rfl | rfl <;> exact Nat.ne_of_lt (by assumption)
   rw [upd_ne hb'];exact (hf c hcm).1
 done:=by
  intro X hP hw hK hc i pins s σ H E I hf st hg
  subst hP hw hK
  obtain ⟨xs,ys,hq,hq',hx⟩:=hg
  obtain ⟨its,rv,p,_⟩:=I.list hq
  have hl:=rv.length
  obtain ⟨hz,hTI,⟨u0,v0,hTO⟩,h1,h2⟩:=st
  have hh:=(hc pins σ H s I).1
  have nz:z≠ea:=λq=>by
   obtain ⟨_,oe,vs,ge,hd,v2⟩:=hh
   rw [<-q,show s.heap.get? z=some _ from hz] at ge
   cases ge
   cases hd
   cases v2
  have n1:i1≠ea:=λq=>by
   obtain ⟨_,oe,vs,ge,hd,v2⟩:=hh
   obtain ⟨o1,e1,_,d1⟩:=h1
   rw [q,ge] at e1
   cases e1
   rw [d1] at hd
   cases hd
   cases v2
  exact zip_endH hh nz n1 D hz hTI h1 p.isList (by simp;lia) λh' kk=>⟨rfl,I.turnedL (t':=s.toks) (wr:=[z,TI,TO,i1,i2]) hf λc o hcm e=>kk c o (λq=>hcm (by simp [q])) (λq=>hcm (by simp [q])) (λq=>hcm (by simp [q])) (λq=>hcm (by simp [q])) e⟩
 self:=λ_ _ _ _ _ st h=>wpAny_pyIter_zip st.1 h
section
variable {X:Cx}
def iZipH (K:PySem.W.Frag) (ta:TA):TI:=λσ H R=>ta σ H λvs H1=>∃ a b,vs=[.ref a,.ref b]/\(∃ xs,SqL K H1 a xs)/\(∃ ys,SqL K H1 b ys)/\R (ItzH K a b) H1
theorem pi_zipH {ea:Addr} (hH:Hd X ea) {elts:List Expr}{k:Nat}{tpos:Pos}{a b:Expr}{ta:TA}{p pos:Pos} (hg:Gl X "zip") (hm:X.mg "zip" = none) (ha:PA X [a,b] ta) (hs:starEach [a,b] X.env=(false,eval a X.env)::starEach [b] X.env:=by rfl) (hpl:(backTo pos (starEach [b] X.env)).any (·.1)=false:=by rfl):PIh ea X (.Tuple elts k tpos) (.Call (.Name "zip" p) [a,b] [] pos) (iZipH X.K ta):=by
 intro pins s σ H R I h
 refine Call_ (ld_blt I hg hm boot_zip (PyProof.Rows.callWith_type1 (thn (ha pos pins s σ H _ I h) λus s1 ⟨vs,H1,I1,r1,q1⟩=>?_) hs hpl))
 obtain ⟨a,b,e,⟨xs,hq⟩,⟨ys,hq'⟩,q⟩:=q1
 subst e
 obtain ⟨u1,u2,rfl,r1,r2⟩:=vals2 r1
 cases r1
 cases r2
 obtain ⟨its,rv,pl,_⟩:=I1.list hq
 obtain ⟨jts,rv',pl',_⟩:=I1.list hq'
 have la : @LT.lt Nat _ a s1.heap.objs.size:=by obtain ⟨_,e,_⟩:=pl.isList;exact Heap.lt_size e
 have lb : @LT.lt Nat _ b s1.heap.objs.size:=by obtain ⟨_,e,_⟩:=pl'.isList;exact Heap.lt_size e
 refine call_zip_2 pl.isList pl'.isList λh' hz hTI hTO h1 h2 hsz hk=>wpAny_pyIter_zip hz ?_
 have D:ZipApart (s1.heap.objs.size+4) (s1.heap.objs.size+2) (s1.heap.objs.size+3) s1.heap.objs.size (s1.heap.objs.size+1) a b:=by constructor <;> (show ((_:Nat)≠_)) <;> lia
 refine ⟨s1.heap.objs.size+4,[s1.heap.objs.size+4,s1.heap.objs.size+2,s1.heap.objs.size+3,s1.heap.objs.size,s1.heap.objs.size+1],_,_,H1,rfl,I1.kept (t':=s1.toks) hk,turn_zipH a b _ _ _ _ _ D,⟨hz,hTI,⟨_,_,hTO⟩,h1,h2⟩,λc hc=>?_,λc hc=>?_,q⟩
 ·have hb':s1.heap.objs.size<=c:=by
   simp only [List.mem_cons,List.not_mem_nil,or_false] at hc
   rcases hc with rfl | rfl | rfl | rfl | rfl <;> first | exact Nat.le_refl _ | exact Nat.le_add_right _ _
  exact I1.fpOk hb' (I1.hok.fresh hb')
 ·have hb':s1.heap.objs.size<=c:=by
   simp only [List.mem_cons,List.not_mem_nil,or_false] at hc
   rcases hc with rfl | rfl | rfl | rfl | rfl <;> first | exact Nat.le_refl _ | exact Nat.le_add_right _ _
  obtain ⟨⟨_,oe,_,ge,_⟩,_⟩:=hH _ _ _ _ I1
  exact λz=>absurd (Heap.lt_size ge) (by rw [<-z];exact Nat.not_lt.mpr hb')
theorem hd_comp {ea:Addr}{scope:Scope}{N':List Str}{pins:List (Addr×Obj)}{σ:St}{H:Hp}{s:Shared}{fp:List Addr} (I:Inv X pins σ H s) (hH:Hd X ea) (hfp:ea∉fp):Hd (compCx X scope N' s H fp) ea:=λq σ' H' s' J=>by
 obtain ⟨⟨hA,oe,vs,ge,hd,v2⟩,hn⟩:=hH _ _ _ _ I
 have nf:ea∉frs X.stack:=λz=>by
  obtain ⟨_,o,ho,h⟩:=I.stack.mem z
  rw [ge] at ho
  cases ho
  exact h _ hd
 exact ⟨⟨hA,oe,vs,J.base.keep ea oe ge hn nf hfp,hd,v2⟩,J.base.free ea oe ge hn hfp⟩
end
section
variable {X:Cx}{elt tg iter:Expr}{ifs:List Expr}{scope:Scope}{pos:Pos}
theorem comp_loopH {ea:Addr}{Y:Cx}{g:TG}{tt:TT}{te:TE}{J:It}{D it:Addr}{fp:List Addr}{tn:Nat->Heap->Prop}{Qr:VK}{σ:St}{H:Hp}{s:Shared} (hc:Hd Y ea) (hxe:∀ e s,¬ Y.xe e s)
  (hg:PG Y tg g) (hi:PIfs Y ifs tt) (he:PE Y elt te) (T:TurnH ea Y.prog Y.w Y.K tg J fp it tn) (I:Inv Y [] σ H s) (st:tn 0 s.heap) (hf:∀ b∈fp,FpOk Y [] H b) (hw:CompW g tt te J D Qr σ H) :
  codeAny (model Y.prog Y.w) Y.A (.compLoop (.ListComp elt [⟨tg,iter,ifs,0⟩] scope pos) 0 (.ref it) (.ref D) Y.env) (λr s'=>r = .ok .next/\∃ σ' H',Inv Y [] σ' H' s'/\Qr (.ref D) H') s:=by
 obtain ⟨W,⟨m0,w0⟩,turn⟩:=hw
 have stat:∀ {H':Hp},(∀ b∈fp,H' b=none)->∀ b∈fp,FpOk Y [] H' b:=λhn b hb=>⟨hn b hb,(hf b hb).2⟩
 refine codeAny_loop rfl (λn s'=>∃ i σ' H',Inv Y [] σ' H' s'/\tn i s'.heap/\(∀ b∈fp,H' b=none)/\W i n σ' H') ?_ m0 ⟨0,σ,H,I,st,λb hb=>(hf b hb).1,w0⟩
 rintro n s3 ⟨i,σ3,H3,I3,st3,fr3,w3⟩
 show wpAny _ Y.A ((compTurn (.ListComp elt [⟨tg,iter,ifs,0⟩] scope pos) 0 (.ref it) (.ref D) Y.env).onRaise (λx=>do noteFrame x Y.env;theTreesLotGoes x)) _ _ s3
 refine wpAny_noted ?_
 rw [compTurn_list]
 (refine wpAny_bind (wpAny_standAt (wpAny_bind ?_)))
 rcases turn i n σ3 H3 w3 with ⟨stop,qn⟩ | ⟨go,N,hN,step⟩
 ·refine thn (T.done Y rfl rfl rfl hc i [] s3 σ3 H3 _ I3 (stat fr3) st3 stop) λr s4 ⟨hr,I4⟩=>?_
  subst hr
  exact wpAny_pure ⟨rfl,σ3,H3,I4,qn⟩
 ·refine thn (T.item Y rfl rfl rfl hc i [] s3 σ3 H3 _ I3 (stat fr3) st3 go) λr s4 ⟨u,hr,h4⟩=>?_
  subst hr
  refine wpAny_bind (thn h4 λ_ s5 ⟨x,H5,I5,r5,y5,st5,fr5⟩=>?_)
  have I5':=I5.pinned (stat fr5) (T.obj _ _ st5)
  have again':∀ {σ7:St}{H7:Hp}{s7:Shared},Inv Y ([]++pinsAt fp s5.heap) σ7 H7 s7->N σ7 H7->∃ m,m<n/\∃ i σ' H',Inv Y [] σ' H' s7/\tn i s7.heap/\(∀ b∈fp,H' b=none)/\W i m σ' H':=λ{σ7 H7 s7} I7 n7=>by
   obtain ⟨m',hm,w7⟩:=hN σ7 H7 n7
   refine ⟨m',hm,i+1,σ7,H7,I7.unpinned,T.keep _ _ _ st5 λb hb o e=>(I7.pin (b,o) (List.mem_append_right _ (List.mem_append_right _ (mem_pinsAt hb e)))).1,λb hb=>?_,w7⟩
   obtain ⟨o,e,d⟩:=T.obj _ _ st5 b hb
   exact (I7.pin (b,o) (List.mem_append_right _ (List.mem_append_right _ (mem_pinsAt hb e)))).2.1
  refine wpAny_bind (wpAny_mono (hg _ s5 σ3 H5 x u _ I5' r5 (step x H5 y5)) (λ_ s6 ⟨σ6,H6,I6,q6⟩=>?_) λe s' z=>(hxe e s' z).elim)
  refine wpAny_bind (wpAny_mono (hi _ s6 σ6 H6 _ I6 q6) (λok s7 ⟨H7,I7,q7⟩=>?_) λe s' z=>(hxe e s' z).elim)
  cases ok with
  | false=>
   exact wpAny_pure ⟨rfl,again' I7 q7⟩
  | true=>
   refine wpAny_bind (wpAny_bind (wpAny_mono (he _ s7 σ6 H7 _ I7 q7) (λu8 s8 ⟨v8,H8,I8,r8,xs,e8,z8,n8⟩=>?_) λe s' z=>(hxe e s' z).elim))
   refine wpAny_bind (wpAny_mono (mt_append (X:=Y) _ s8 σ6 H8 (.ref D) [v8] (.ref D) [u8] (λ_ H9=>N σ6 H9) I8 rfl (.cons r8 .nil) ⟨D,xs,v8,rfl,rfl,e8,z8,n8⟩) (λu9 s9 h9=>?_) λe s' z=>(hxe e s' z).elim)
   obtain ⟨v9,H9,I9,_,n9⟩:=h9
   exact wpAny_pure (wpAny_pure ⟨rfl,again' I9 n9⟩)
theorem comp_coreH {ea:Addr}{N':List Str}{n:Nat}{fi:List Nat}{wi:TI}{g:TG}{tt:TT}{te:TE}{use:Option (Value->Sem Unit)}{Q:Value->Shared->Prop}{Qr:VK}{epos:Pos}{pins:List (Addr×Obj)}{σ:St}{H:Hp}{s:Shared}
  (hH:Hd X ea) (S:CScope X scope N' n fi) (hit:∀ R,wi σ H R->wpAny (model X.prog X.w) X.A (eval iter X.env) (λv s1=>wpAny (model X.prog X.w) X.A (pyIter v) (PIEh ea X pins σ tg R) X.xe s1) X.xe s)
  (hg:∀ s H fp,Hd (compCx X scope N' s H fp) ea->PG (compCx X scope N' s H fp) tg g) (hi:∀ s H fp,PIfs (compCx X scope N' s H fp) ifs tt) (he:∀ s H fp,PE (compCx X scope N' s H fp) elt te)
  (I:Inv X pins σ H s) (hw:tComp wi g tt te n fi σ H Qr) (hs:∀ x,foldedSetIterable iter X.env x=pure x)
  (post:∀ (D C:Addr) (s':Shared) (H':Hp) (m:Str->Option Value),Inv X pins σ H' s'->s'.heap.Ns C m->H' C=none->X.s₀.heap.objs.size<=C->C≠X.env.locals->(∀ x c,X.env.cells.lookup x=some c->c≠C)->(∀ p∈X.pn++pins,p.1≠C)->Qr (.ref D) H' ->
   compPost (model X.prog X.w) X.A X.xe use Q (.ref D) C (.ok .next) s') :
  wpAny (model X.prog X.w) X.A (comprehension (.ListComp elt [⟨tg,iter,ifs,0⟩] scope pos) scope X.env epos (newList []) false (eval iter X.env) use) Q X.xe s:=by
 refine wpAny_comprehension_free (use:=use) (g:=⟨tg,iter,ifs,0⟩) (gs:=[]) rfl hs (closure_of (S.clHas I.ok)) S.kind S.names ?_
 refine thn (hit _ hw) λv s1 h1=>thn h1 λitv s2 h2=>?_
 obtain ⟨it,fp,tn,J,H2,e,I2,T,st2,f2,nea,hw2⟩:=h2
 subst e
 refine wpAny_newList ?_ (Nat.zero_le _)
 have hD:H2 s2.heap.objs.size=none:=I2.hok.fresh (Nat.le_refl _)
 have I3:Inv X pins σ (upd H2 s2.heap.objs.size (.lst [])) { s2 with heap:=s2.heap.push { cls:=.type "list",data:=.seq ([]:List Value).toArray } }:=
  I2.laid (t':=s2.toks) (λb u e=>Heap.get?_push_of_some _ e) (Nat.le_refl _) ⟨Nat.zero_le _,[],0,.nil,Heap.get?_push_size _ rfl⟩
 have hw3:=hw2 _ hD
 have u23:Un (frs X.stack) fp H2 (upd H2 s2.heap.objs.size (.lst [])) s2.heap (s2.heap.push { cls:=.type "list",data:=.seq ([]:List Value).toArray }):=
  Un.laid (λb u e=>Heap.get?_push_of_some _ e) (Nat.le_refl _) hD
 generalize hs3:({ s2 with heap:=s2.heap.push { cls:=.type "list",data:=.seq ([]:List Value).toArray } }:Shared)=s3 at I3 ⊢
 have hh3:s3.heap=s2.heap.push { cls:=.type "list",data:=.seq ([]:List Value).toArray }:=by rw [<-hs3]
 have ho3:s3.os=s2.os:=by rw [<-hs3]
 have hz3:s3.heap.objs.size=s2.heap.objs.size+1:=by rw [hh3,Heap.size_push]
 rw [<-hh3] at u23
 have hH3:∀ b,b≠s2.heap.objs.size->upd H2 s2.heap.objs.size (.lst []) b=H2 b:=λb hb=>upd_ne hb
 generalize upd H2 s2.heap.objs.size (.lst [])=H3 at *
 have fpold:∀ b∈fp,∃ o,s2.heap.get? b=some o:=λb hb=>let ⟨o,e,_⟩:=T.obj _ _ st2 b hb;⟨o,e⟩
 have k23:∀ b u,s2.heap.get? b=some u->s3.heap.get? b=some u:=λb u e=>by rw [hh3];exact Heap.get?_push_of_some _ e
 have hfp3:∀ b∈fp,FpOk X pins H3 b:=λb hb=>by
  obtain ⟨o,e⟩:=fpold b hb
  exact ⟨(hH3 b (Nat.ne_of_lt (Heap.lt_size e))).trans (f2 b hb).1,(f2 b hb).2⟩
 refine newEnvC λh4 hns hk hc=>?_
 show codeAny _ _ (.compStart _ 0 _ _ (cenv scope s3.heap.objs.size X.env)) _ _
 have I4:=inv_block I3 S hfp3 (λb hb=>let ⟨o,e⟩:=fpold b hb;⟨o,k23 b o e⟩) hns hk hc
 have hfY:∀ b∈fp,FpOk (compCx X scope N' s3 H3 fp) [] H3 b:=λb hb=>⟨(hfp3 b hb).1,(I4.ok.exf b hb).1,I4.ok.exfs b hb,.inl hb,(I4.ok.exf b hb).2,λp hp=>absurd (show p∈([]:List (Addr×Obj)) from hp) (by simp)⟩
 have st4:tn 0 h4:=T.keep _ _ _ st2 λb hb o e=>hk b o (k23 b o e)
 have loop:=comp_loopH (ea:=ea) (Y:=compCx X scope N' s3 H3 fp) (elt:=elt) (tg:=tg) (iter:=iter) (ifs:=ifs) (scope:=scope) (pos:=pos) (hd_comp I3 hH λz=>nea _ z rfl) (λ_ _ z=>z) (hg s3 H3 fp (hd_comp I3 hH λz=>nea _ z rfl)) (hi s3 H3 fp) (he s3 H3 fp) T I4 st4 hfY hw3
 have fin:codeAny (model X.prog X.w) X.A (.compLoop (.ListComp elt [⟨tg,iter,ifs,0⟩] scope pos) 0 (.ref it) (.ref s2.heap.objs.size) (cenv scope s3.heap.objs.size X.env)) (compPost (model X.prog X.w) X.A X.xe use Q (.ref s2.heap.objs.size) s3.heap.objs.size) { s3 with heap:=h4 }:=by
  refine codeAny_mono loop λr s' ⟨hr,σ',H',J5,q5⟩=>?_
  subst hr
  have u5:Un (frs X.stack) fp H3 H' s3.heap s'.heap:=J5.base
  have I5:Inv X pins σ H' s':=I2.call' (ch:=fp) (J5.os.trans ho3) (u23.trans u5) J5.hok J5.bare λb hb=>⟨(f2 b hb).2.2.2.1,(f2 b hb).2.1,(f2 b hb).2.2.2.2.1,(f2 b hb).2.2.2.2.2⟩
  obtain ⟨m,hm,_⟩:=J5.loc
  refine post _ _ s' H' m I5 hm J5.free I3.sz (Nat.ne_of_gt I3.lt) (λx c e=>?_) (λp hp=>?_) q5
  ·obtain ⟨v,q⟩:=I3.cell x c e
   exact Nat.ne_of_lt q.lt
  ·exact Nat.ne_of_lt (Heap.lt_size (I3.pin p hp).1)
 exact codeAny_compStart_list fin (T.self _ 0 _ _ _ st4 fin)
theorem pe_compH {ea:Addr}{N':List Str}{n:Nat}{fi:List Nat}{wi:TI}{g:TG}{tt:TT}{te:TE} (hH:Hd X ea) (S:CScope X scope N' n fi) (hit:PIh ea X tg iter wi)
  (hg:∀ s H fp,Hd (compCx X scope N' s H fp) ea->PG (compCx X scope N' s H fp) tg g) (hi:∀ s H fp,PIfs (compCx X scope N' s H fp) ifs tt) (he:∀ s H fp,PE (compCx X scope N' s H fp) elt te)
  (hs:∀ x,foldedSetIterable iter X.env x=pure x:=by intro _;rfl):PE X (.ListComp elt [⟨tg,iter,ifs,0⟩] scope pos) (tComp wi g tt te n fi):=by
 intro pins s σ H Q I h
 rw [eval_ListComp]
 refine comp_coreH (use:=none) hH S (λR z=>hit pins s σ H R I z) hg hi he I h hs λD C s' H' m I' hm hn hC hL h2 h3 q=>⟨m,hm,λh' hs'=>?_⟩
 exact ⟨.ref D,H',I'.letGo hs' hn hC hL h2 h3,rfl,q⟩
end
section
variable {X:Cx}{pos:Pos}
theorem pg_tupH {ea:Addr}{es:List Expr}{k:Nat}{t:TGs}{n:Nat} (hH:Hd X ea) (h:PGs X es t)
  (hn:(assignEach es X.env).length=n:=by rfl) (hst:(assignEach es X.env).findIdx? (·.1)=none:=by rfl):PG X (.Tuple es k pos) (gTup X.K n t):=by
 intro pins s σ H v u Q I r hw
 obtain ⟨a,xs,e1,hq,hl,hw⟩:=hw
 subst e1
 cases r
 obtain ⟨its,rv,ht,hz⟩:=I.tuple hq
 refine assignTupH (hH _ _ _ _ I).1 ht (by simp [hn,<-hl,rv.length]) hst λh' hx=>?_
 have I1:Inv X pins σ H { s with heap:=h' }:=I.kept (t':=s.toks) λb o e=>hx b o (Nat.ne_of_lt (Heap.lt_size e)) e
 exact h pins _ σ H xs _ Q I1 (by simpa using rv) hw
end
end L2
namespace L2
open PySem PySem.Spec PyProof.Rows
structure ExcK (K:PySem.W.Frag) (C:Addr):Prop where
 ga:PySem.W.findIn K (.ref C) "__getattribute__" = some (some (.builtin "BaseException.__getattribute__"))
 nh:PySem.W.findIn K (.ref C) "__getattr__" = some none
 fo:PySem.W.findObj K C none "__class__" = some (.bind (.builtin "getset_descriptor.__get__") (.builtin "object.__class__"))
 mo:PySem.W.mroIn K C (.type "object")=some true
 mb:PySem.W.mroIn K C (.type "BaseException")=some true
 is:(PySem.W.clsIn K C).isSome=true
section
variable {prog:Program}{w:World}{A:Around}{E:Value->Shared->Prop}{s:Shared}{K:PySem.W.Frag}{x C:Addr}{ox:Obj}
theorem exc_class {Q:Option Value->Shared->Prop} (Fk:ExcK K C) (X:K.In s.heap) (I:PySem.W.InstAt s.heap x ox C none) (h:Q (some (.ref C)) { s with toks:=s.toks+1 }):wpAny (model prog w) A (getAttr? (.ref x) "__class__") Q E s:=by
 obtain ⟨hh,g,d,t,os⟩:=s
 have L0:=I.type (M:=model prog w)
 have L1:=PySem.W.looks_findIn (M:=model prog w) X Fk.ga
 have L2:=PySem.W.looks_findIn (M:=model prog w) X Fk.nh
 have L3:=PySem.W.looks_mroIn (M:=model prog w) X Fk.mb
 have L4:=PySem.W.looks_find (M:=model prog w) X I Fk.fo
 have hb:=PySem.F.attr_ValueError.ga.bind (.ref x)
 have hk:builtinKind "BaseException.__getattribute__" = some .slot:=by decide +kernel
 have hsplit:splitId "BaseException.__getattribute__" = some ("BaseException","__getattribute__"):=by decide +kernel
 unfold getAttr? getAttrBy? getAttrBy
 refine wpAny_bind (wpAny_mkText (wpAny_bind (wpAny_attempt (wpAny_holding (wpAny_bind (L0.at (wpAny_bind (L1.at ?_))))))))
 show wpAny _ _ (getAttrByItsOwn _ _ _ _ _ _) _ _ _
 unfold getAttrByItsOwn hookBefore
 refine wpAny_bind ?_
 rw [if_pos (show onTheHeap (Value.ref C)=true from rfl)]
 refine L2.at ?_
 refine wpAny_bind (wpAny_attempt (wpAny_holding ?_))
 unfold callGetattribute
 rw [if_neg (by decide)]
 unfold boundAndCalled
 rw [hb]
 refine wpAny_bind (wpAny_pure ?_)
 refine wpAny_call (codeAny_call_builtin PySem.F.attr_ValueError.ga.plain PySem.F.entry_bexc_ga ?_)
 simp only [checkBuiltinCall,hk,hsplit]
 have LI:PySem.W.Looks (model prog w) hh (isInstance (.ref x) (.type "BaseException")) true:=L0.andThen L3
 have ha:=PySem.F.args_bexc_ga (.ref x) (.str "__class__" t)
 show wpAny _ _ (isInstance (.ref x) (.type "BaseException") >>= _) _ _ _
 refine wpAny_bind (LI.at ?_)
 simp only [Bool.not_true,Bool.false_eq_true,if_false]
 repeat (any_goals (first | assumption | wp_step))
 refine wpAny_loadPart_at I.at_ ?_
 refine wpAny_pure ?_
 rw [I.cls]
 refine wpAny_bind (L4.at ?_)
 unfold Builtin.ObjectAttr.bindTo
 dsimp only
 refine wpAny_bind (wpAny_holding (wpAny_call (PySem.W.class_get (s:=⟨hh,g,d,t+1,os⟩) X I Fk.mo ?_)))
 refine wpAny_pure ?_
 exact PySem.W.handed_on rfl (wpAny_pure h)
theorem kitx_exc (Fk:ExcK K C):PySem.W.KitX K (.ref x) (.ref C) (λh=>PySem.W.InstAt h x ox C none) where
 ty:=λ_ _ _ I=>I.type
 it:=λ_ _ X _=>by
  have hcD:=Fk.is
  unfold PySem.W.clsIn at hcD
  split at hcD
  ·rename_i c' d' cd' sl' ho
   intro A' Q' E' s' k q
   unfold isType loadHead
   exact wpAny_bind (wpAny_loadPart (k _ _ (X _ _ ho)) (wpAny_pure q))
  ·cases hcD
 ne:=λh tp dd its n sl X htp=>by
  have hcD:=Fk.is
  refine Bool.eq_false_iff.mpr λq=>?_
  have e:C=tp:=Value.ref.inj (beq_iff_eq.mp q)
  subst e
  unfold PySem.W.clsIn at hcD
  split at hcD
  ·rename_i c' d' cd' sl' ho
   have z:=(X _ _ ho).symm.trans htp
   cases z
  ·cases hcD
 ca:=λX I k=>exc_class Fk X I k
end
section
variable {X:Cx}{ea C:Addr}{oe:Obj}{vs:Array Value}
def kitV (K:PySem.W.Frag) (C:Addr):V->Option Bool
 | .ref D=>PySem.W.kitOne K (.ref C) (.ref D)
 | .ty n=>PySem.W.kitOne K (.ref C) (.type n)
 | _=>none
def rIsiX (K:PySem.W.Frag) (ea C:Addr):List V->Hp->VK->Prop:=λxs H Q=>∃ c b,xs=[.ref ea,c]/\kitV K C c=some b/\Q (.bl b) H
theorem call_isiX (hp:(ea,oe)∈X.pn) (hc:oe.cls = .ref C) (hd:oe.dict=none) (hv:oe.data = .fields vs) (Fk:ExcK X.K C):CallR X (.builtin "isinstance") (rIsiX X.K ea C):=by
 intro pins s σ H xs us Q I rv h
 obtain ⟨c,b,rfl,e,q⟩:=h
 obtain ⟨u1,w',rfl,r1,r2⟩:=vals2 rv
 cases r1
 have ge:=(I.pin _ (List.mem_append_left _ hp)).1
 have J:PySem.W.InstAt s.heap ea oe C none:=⟨ge,hc,by unfold PySem.W.notCls;rw [hv],by rw [hd];trivial⟩
 cases c with
 | ref D=>
  cases r2
  exact PySem.W.kia_one (kitx_exc (ox:=oe) Fk) I.kIn J e (λz=>nomatch z) λtk=>⟨.bl b,H,I.tok _,rfl,q⟩
 | ty n=>
  obtain rfl:w' = Value.type n:=r2
  exact PySem.W.kia_one (kitx_exc (ox:=oe) Fk) I.kIn J e (λz=>nomatch z) λtk=>⟨.bl b,H,I.tok _,rfl,q⟩
 | _=>cases e
def tRef (a:Addr):TE:=λ_ H Q=>Q (.ref a) H
theorem pe_cls {x:Str}{p:Pos}{a:Addr} (hg:Gl X x) (hm:X.mg x=some (.ref a)) (hdb:(x == ("__debug__" : Str))=false:=by decide):PE X (.Name x p) (tRef a):=λpins s σ H Q I h=>ld_glob I hg hm ⟨.ref a,H,I,rfl,h⟩ hdb
end
end L2
namespace L2
open PySem PySem.Spec PyProof.Rows
section
variable {P:Program}{w:World}{K:PySem.W.Frag}{mg:Str->Option Value}{base:Heap}
theorem Fun.okE {x qual:Str}{st:Stmt}{f:Addr}{fd:FuncData}{N ps:List Str}{k:Nat}{sp:Sp} (F:Fun K x qual st f fd) (S:FnScope N ps (defScope st)) (len:∀ vs H Q E,sp vs H Q E->vs.length=ps.length)
  (hbody:∀ (cdv:Value) (A:Around) (outer:List Env) (s:Shared) (H:Hp) (vs:List V) (Q:VK) (E:XK),Room k (A.deeper (envOfC qual (defScope st) s.heap.objs.size f cdv))->sp vs H Q E ->
   ∃ t,PSs (cxOf (CXe P w) P w K mg base N qual (defScope st) f cdv A outer s H E) (defBody st) t/\t { nx:=λ_ H'=>Q .non H',rt:=Q } (start N vs) H):FnOk P w K mg base (CXe P w) (k+1) f fd ps sp:=by
 obtain ⟨oc,od,kV,doc,pm,an,cdv,ct,osl,rfl,lk,hcd⟩:=F.ex
 exact fn_of lk hcd S len λA outer s H vs Q E hr hsp=>hbody cdv A outer s H vs Q E hr hsp
end
structure RoomH (k:Nat) (A:Around):Prop where
 dp:A.depth+3 * k+5<recursionLimit
 un:A.units+16 * k+200<cLine
 gd:A.guards=some []
theorem RoomH.deeper {k:Nat}{A:Around} (r:RoomH (k+1) A) (env:Env):RoomH k (A.deeper env):=
 ⟨by have:=r.dp;show A.depth+1+3 * k+5<_;lia,by have:=r.un;show A.units+3+16 * k+200<_;lia,r.gd⟩
theorem RoomH.depth {k:Nat}{A:Around} (r:RoomH k A):A.depth<recursionLimit:=by have:=r.dp;lia
theorem Room.mark {k:Nat}{A:Around} (r:Room k A) (e:Option Value):RoomH k (A.mark e):=⟨r.dp,r.un,r.gd⟩
structure FnOkH (P:Program) (w:World) (K:PySem.W.Frag) (mg:Str->Option Value) (base:Heap) (CX:CXT) (k:Nat) (f:Addr) (fd:FuncData) (ps:List Str) (sp:Addr->Addr->Sp):Prop where
 len:∀ ea C vs H Q E,sp ea C vs H Q E->vs.length=ps.length
 run:∀ (ea C:Addr) (oe:Obj) (vv:Array Value) (A:Around) (outer:List Env) (s:Shared) (H:Hp) (args:Args) (us:List Value) (vs:List V) (Q:VK) (E:XK),RoomH k A->A.handled=some (.ref ea)->s.heap.get? ea=some oe->H ea=none->ea∉frs outer ->
  oe.cls = .ref C->oe.dict=none->oe.data = .fields vv->vv[2]? = some .none->Env0 P w K mg base A outer s H->BindsTo s fd args (ps.zip us)->Vals vs us->sp ea C vs H Q E ->
  codeAny (model P w) A (.call (.ref f) args) (CR CX outer P w H s Q E) s
def cxH (CX:CXT) (P:Program) (w:World) (K:PySem.W.Frag) (mg:Str->Option Value) (base:Heap) (N:List Str) (qual:Str) (scope:Scope) (f:Addr) (cd:Value) (A:Around) (outer:List Env) (s:Shared) (H:Hp) (E:XK) (ea:Addr) (oe:Obj):Cx:=
 { cxOf CX P w K mg base N qual scope f cd A outer s H E with calm:=false,pn:=[(ea,oe)] }
theorem inv_startH {ea:Addr}{oe:Obj}{CX:CXT}{P:Program}{w:World}{K:PySem.W.Frag}{mg:Str->Option Value}{base:Heap}{N ps:List Str}{qual:Str}{scope:Scope}{f:Addr}{cd:Value}{A:Around}{outer:List Env}{s s1:Shared}{H:Hp}{E:XK}{us:List Value}{vs:List V}
  (S:FnScope N ps scope) (hp0:s.heap.get? ea=some oe) (hn0:H ea=none) (hv0:∀ v,oe.data ≠ .cell v) (hf0:ea∉frs outer) (e0:Env0 P w K mg base A outer s H) (hl:vs.length=ps.length) (r:Vals vs us)
  (x:InCallC s s.heap.objs.size (bindL (envOfC qual scope s.heap.objs.size f cd).kindOf (ps.zip us) λ_=>none) (cellsFrom (s.heap.objs.size+1) scope.names []) (bindC (envOfC qual scope s.heap.objs.size f cd).kindOf (ps.zip us) λ_=>none) s1) :
  Inv (cxH CX P w K mg base N qual scope f cd A outer s H E ea oe) [] (start N vs) H s1:=by
 have hpl:ps.length<=N.length:=by have:=congrArg List.length S.pre;rw [List.length_take] at this;lia
 obtain ⟨h1,tk,rfl,hk⟩:=x.done
 have noA:∀ b:Addr,b∉(cxH CX P w K mg base N qual scope f cd A outer s H E ea oe).ex:=λb z=>absurd (show b∈([]:List Addr) from z) (by simp)
 refine ⟨⟨e0.mod,S.kind,rfl,rfl,Nat.le_refl _,λy z c h1 h2=>?_,λy hy=>?_,λy c _ h=>?_,(λz=>by cases z),Around.frames_deeper e0.frames,.inr ⟨rfl,rfl⟩,λb z=>absurd z (noA b),e0.bs,e0.bsz,λb _ _=>noA b,λb z=>absurd z (noA b),e0.funs,e0.frf⟩,
  rfl,e0.bare,Un.kept hk,⟨_,x.toInCall.ns,λi y v h1 h2 h3=>?_⟩,λy c h=>⟨_,x.cell y c h⟩,e0.hok.fresh (Nat.le_refl _),λy c h=>?_,λp hp=>?_,e0.hok.kept hk,?_⟩
 ·exact name_of_addr x.apart (PySem.mem_of_lookup h1) (PySem.mem_of_lookup h2)
 ·have hy:scope.names.lookup y=some .cell\/scope.names.lookup y=some .free:=hy
  rcases hy with hy | hy
  ·exact cell_has hy
  ·exact absurd rfl (S.nofree _ (PySem.mem_of_lookup hy))
 ·exact Nat.le_of_lt (x.above y c (PySem.mem_of_lookup h))
 ·have hi:i<vs.length:=by
   unfold start at h2
   by_cases hi:i<vs.length
   ·exact hi
   ·rw [List.getElem?_append_right (by simpa using hi)] at h2
    rw [List.getElem?_replicate] at h2
    split at h2 <;> cases h2
  have ha:vs[i]? = some v:=by
   unfold start at h2
   rw [List.getElem?_append_left (by simpa using hi),List.getElem?_map] at h2
   cases e:vs[i]? with
   | none=>rw [e] at h2;cases h2
   | some a=>rw [e] at h2;cases h2;rfl
  obtain ⟨u,hu,rv⟩:=r.get ha
  have hp:ps[i]? = some y:=by
   rw [<-S.pre,List.getElem?_take_of_lt (by lia)];exact h1
  have ndP:ps.Nodup:=by rw [<-S.pre];exact S.nd.sublist (List.take_sublist _ _)
  refine ⟨u,rv,?_⟩
  rcases S.par y (List.mem_of_getElem? hp) with k | k
  ·exact .inl ⟨k,bindL_get ndP hp hu k⟩
  ·obtain ⟨c,e⟩:=cell_has (n:=s.heap.objs.size+1) k
   refine .inr ⟨.inl k,c,e,?_⟩
   have q:=x.cell y c e
   rw [bindC_get ndP hp hu (by show scope.names.lookup y≠_;rw [k];decide)] at q
   exact q
 ·exact e0.hok.fresh (Nat.le_of_lt (x.above y c (PySem.mem_of_lookup h)))
 ·have z:p=(ea,oe):=by simpa [cxH] using hp
  subst z
  exact ⟨hk _ _ hp0,hn0,Nat.ne_of_lt (Heap.lt_size hp0),hf0,hv0⟩
 ·unfold start
  show _=N.length
  rw [List.length_append,List.length_map,List.length_replicate]
  lia
theorem fn_ofH {CX:CXT}{P:Program}{w:World}{K:PySem.W.Frag}{mg:Str->Option Value}{base:Heap}{k:Nat}{f:Addr}{name qual:Str}{params:Arguments}{body:List Stmt}{scope:Scope}{dV kV doc pm cdv ct oc:Value}{an od:Option Addr}
  {osl:Array (Option Value)}{N ps:List Str}{sp:Addr->Addr->Sp} (lk:K.lookup f=some ⟨oc,od,.func (PySem.W.fnOf name qual params body scope dV kV doc pm an cdv ct),osl⟩) (hcd:PySem.W.codeIn K cdv qual=true) (S:FnScope N ps scope)
  (len:∀ ea C vs H Q E,sp ea C vs H Q E->vs.length=ps.length)
  (hbody:∀ (ea C:Addr) (oe:Obj) (us:Array Value) (A:Around) (outer:List Env) (s:Shared) (H:Hp) (vs:List V) (Q:VK) (E:XK),RoomH k (A.deeper (envOfC qual scope s.heap.objs.size f cdv))->A.handled=some (.ref ea)->oe.cls = .ref C->oe.dict=none->oe.data = .fields us->us[2]? = some .none->sp ea C vs H Q E ->
   ∃ t,PSs (cxH CX P w K mg base N qual scope f cdv A outer s H E ea oe) body t/\t { nx:=λ_ H'=>Q .non H',rt:=Q } (start N vs) H) :
  FnOkH P w K mg base CX (k+1) f (PySem.W.fnOf name qual params body scope dV kV doc pm an cdv ct) ps sp:=by
 refine ⟨len,λea C oe vv A outer s H args us vs Q E hr hA ge hn hfo hc hd hv v2 e0 hb r hsp=>?_⟩
 have hl:=len _ _ _ _ _ _ hsp
 have KX:K.In s.heap:=e0.mod.kin.keeps λb o e=>(e0.bs b o e).1
 have lim:s.heap.NoLimit:=e0.mod.nolimit.keeps λb o e=>(e0.bs b o e).1
 have hkind:∀ y∈ps.zip us,scope.names.lookup y.1=some .local\/(scope.names.lookup y.1=some .cell/\((cellsFrom (s.heap.objs.size+1) scope.names []).lookup y.1).isSome=true):=λ⟨n,v⟩ hy=>by
  rcases S.par n (List.of_mem_zip hy).1 with q | q
  ·exact .inl q
  ·exact .inr ⟨q,PySem.W.cellsFrom_some _ _ _ (.inl q)⟩
 refine codeAny_call_function hr.depth (KX _ _ lk) rfl S.co S.gen rfl (PySem.W.codeRec_of KX hcd) (hb _ _ _ _ ?_)
 refine wpAny_newFunctionEnv_cells S.kind hkind λenv he s1 x=>?_
 subst he
 refine ⟨lim.keeps x.toInCall.keep,codeAny_func ?_⟩
 obtain ⟨t,ht,hq⟩:=hbody ea C oe vv A outer s H vs Q E (hr.deeper _) hA hc hd hv v2 hsp
 have I:Inv (cxH CX P w K mg base N qual scope f cdv A outer s H E ea oe) [] (start N vs) H s1:=inv_startH S ge hn (λv z=>by rw [hv] at z;cases z) hfo e0 hl r x
 refine wpAny_mono (ht [] s1 (start N vs) H _ I hq) (λfl s' hs=>?_) λe s' hs=>hs
 have fin:∀ {σ':St}{H':Hp}{v:V}{u:Value},Inv (cxH CX P w K mg base N qual scope f cdv A outer s H E ea oe) [] σ' H' s'->RelV v u->Q v H'->CE outer P w H s Q u s':=
  λ{σ' H' v u} J rv q=>⟨v,H',J.os,J.bare,J.base,J.hok,rv,q⟩
 cases fl with
 | ret u=>
  obtain ⟨v,σ',H',J,rv,q⟩:=hs
  exact fin J rv q
 | next=>
  obtain ⟨σ',H',J,q⟩:=hs
  exact fin (v:=V.non) (u:=Value.none) J rfl q
 | brk=>
  obtain ⟨_,_,_,q⟩:=hs
  exact False.elim q
 | cont=>
  obtain ⟨_,_,_,q⟩:=hs
  exact False.elim q
section
variable {P:Program}{w:World}{K:PySem.W.Frag}{mg:Str->Option Value}{base:Heap}
theorem Fun.okH {x qual:Str}{st:Stmt}{f:Addr}{fd:FuncData}{N ps:List Str}{k:Nat}{sp:Addr->Addr->Sp} (F:Fun K x qual st f fd) (S:FnScope N ps (defScope st)) (len:∀ ea C vs H Q E,sp ea C vs H Q E->vs.length=ps.length)
  (hbody:∀ (cdv:Value) (ea C:Addr) (oe:Obj) (us:Array Value) (A:Around) (outer:List Env) (s:Shared) (H:Hp) (vs:List V) (Q:VK) (E:XK),RoomH k (A.deeper (envOfC qual (defScope st) s.heap.objs.size f cdv))->A.handled=some (.ref ea)->oe.cls = .ref C->oe.dict=none->oe.data = .fields us->us[2]? = some .none->sp ea C vs H Q E ->
   ∃ t,PSs (cxH CX0 P w K mg base N qual (defScope st) f cdv A outer s H E ea oe).nox (defBody st) t/\t { nx:=λ_ H'=>Q .non H',rt:=Q } (start N vs) H):FnOkH P w K mg base CX0 (k+1) f fd ps sp:=by
 obtain ⟨oc,od,kV,doc,pm,an,cdv,ct,osl,rfl,lk,hcd⟩:=F.ex
 refine fn_ofH lk hcd S len λea C oe us A outer s H vs Q E hr hA hc hd hv v2 hsp=>?_
 obtain ⟨t,h,q⟩:=hbody cdv ea C oe us A outer s H vs Q E hr hA hc hd hv v2 hsp
 exact ⟨t,h.nox,q⟩
end
section
variable {X:Cx}{k:Nat}{f ea C:Addr}{oe:Obj}{vv:Array Value}{fd:FuncData}{ps:List Str}{sp:Addr->Addr->Sp}{x:Str}{p pos:Pos}{e:Expr}{es:List Expr}{t:TA}
def tCallH (sp:Sp) (t:TA):TE:=λσ H Q=>t σ H λvs H1=>sp vs H1 Q E0
theorem pe_callH (F:FnOkH X.prog X.w X.K X.mg X.base CX0 k f fd ps sp) (hr:RoomH k X.A) (hA:X.A.handled=some (.ref ea)) (hp:(ea,oe)∈X.pn) (hc:oe.cls = .ref C) (hd:oe.dict=none) (hv:oe.data = .fields vv) (v2:vv[2]? = some .none)
  (hg:Gl X x) (hm:X.mg x=some (.ref f)) (hk:PySem.W.keepIn X.K (.ref f)=true) (hb:Binds X.K fd ps []) (ha:PA X (e::es) t) (hdb:(x == ("__debug__" : Str))=false:=by decide)
  (he:starEach (e::es) X.env=(false,eval e X.env)::starEach es X.env:=by rfl) (hpl:(backTo pos (starEach es X.env)).any (·.1)=false:=by rfl):PE X (.Call (.Name x p) (e::es) [] pos) (tCallH (sp ea C) t):=by
 intro pins s σ H Q I h
 refine wpAny_Call_Name_kw (ld_glob I hg hm ?_ hdb)
 refine PySem.W.callWith_K (h₀:=X.base) I.ok.mod.kin hk (thn (ha pos pins s σ H _ I h) λus s1 ⟨vs,H1,I1,r,q⟩=>⟨I1.kIn,?_⟩) he hpl
 have hl:(us++[]).length=ps.length:=by rw [List.append_nil,<-r.length];exact F.len _ _ _ _ _ _ q
 obtain ⟨ge,hn,nL,nF,_⟩:=I1.pin _ (List.mem_append_left _ hp)
 have hfo:ea∉frs X.stack:=λz=>(List.mem_cons.mp (I1.stkSub _ z)).elim nL nF
 refine wpAny_call (codeAny_mono (F.run ea C oe vv X.A X.stack s1 H1 ⟨us,[]⟩ (us++[]) vs Q E0 hr hA ge hn hfo hc hd hv v2 I1.env0 (hb s1 us I1.kIn hl) (by rw [List.append_nil];exact r) q) λr' s' hq=>?_)
 cases r' with
 | error e=>exact False.elim hq
 | ok fl=>
  cases fl with
  | ret u=>exact I1.after hq
  | next=>exact False.elim hq
  | brk=>exact False.elim hq
  | cont=>exact False.elim hq
theorem hd_pin (hA:X.A.handled=some (.ref ea)) (hp:(ea,oe)∈X.pn) (hv:oe.data = .fields vv) (v2:vv[2]? = some .none):Hd X ea:=λpins σ H s I=>by
 obtain ⟨ge,hn,_⟩:=I.pin _ (List.mem_append_left _ hp)
 exact ⟨⟨hA,oe,vv,ge,hv,v2⟩,hn⟩
end
theorem FnOkH.mono {P:Program}{w:World}{K:PySem.W.Frag}{mg:Str->Option Value}{base:Heap}{CX:CXT}{j k:Nat}{f:Addr}{fd:FuncData}{ps:List Str}{sp:Addr->Addr->Sp} (F:FnOkH P w K mg base CX j f fd ps sp) (h:j<=k):FnOkH P w K mg base CX k f fd ps sp:=
 ⟨F.len,λea C oe vv A outer s H args us vs Q E hr=>F.run ea C oe vv A outer s H args us vs Q E ⟨by have:=hr.dp;lia,by have:=hr.un;lia,hr.gd⟩⟩
section
variable {K:PySem.W.Frag}{g:TG}{tt:TT}{te:TE}{D:Addr}{Q:VK}{σ:St}{H:Hp}
theorem comp_zipH {a b:Addr}{xs ys:List V} (Pv:Nat->List V->St->Hp->Prop) (hxy:xs.length<=ys.length) (hD:H D=some (.lst [])) (h0:Pv 0 [] σ H) (hl:∀ i acc σ H,H D=some (.lst acc)->Pv i acc σ H->SqL K H a xs/\SqL K H b ys)
  (hs:∀ i x y acc σ H p,xs[i]? = some x->ys[i]? = some y->H D=some (.lst acc)->Pv i acc σ H->H p=none->g (.ref p) σ (upd H p (.tup [x,y])) λσ2 H2=>tt σ2 H2 λb H3=>if b=true then te σ2 H3 λv H4=>∃ ys,H4 D=some (.lst ys)/\ys.length<sizeLine/\CN D (Pv (i+1)) σ2 (upd H4 D (.lst (ys++[v]))) else CN D (Pv (i+1)) σ2 H3)
  (hd:∀ acc σ H,H D=some (.lst acc)->Pv xs.length acc σ H->Q (.ref D) H):CompW g tt te (ItzH K a b) D Q σ H:=by
 refine comp_gen xs.length Pv hD h0 (λi acc σ H hi hacc p=>?_) (λacc σ H hacc p=>?_) (λi acc σ H x H' hi hacc p y=>?_) hd
 ·obtain ⟨h1,h2⟩:=hl i acc σ H hacc p
  have h4:i<ys.length:=by lia
  exact ⟨xs,ys,xs[i],ys[i],h1,h2,by simp [hi],by simp [h4]⟩
 ·obtain ⟨h1,h2⟩:=hl _ acc σ H hacc p
  exact ⟨xs,ys,h1,h2,Nat.le_refl _⟩
 ·obtain ⟨q,u,v,hq,hu,hv,e,e'⟩:=y
  subst e e'
  obtain ⟨h1,h2⟩:=hl i acc σ H hacc p
  exact hs i u v acc σ _ q (hu xs h1) (hv ys h2) hacc p hq
end
end L2
namespace L2
open PySem PySem.Spec PyProof.Rows
section
variable {M:Model}{A:Around}{E:Value->Shared->Prop}{s:Shared}{base g:Heap}{env:Env}{outer:List Env}{L e T:Addr}{cls tb fl:Value}{Q:Unit->Shared->Prop}
theorem note_any (hfr:A.frames=some (env::outer)) (hl:g.FunFrames base (env::outer)) (st:Stays (frs (env::outer)) g s.heap) (hf:env.frame=some L) (he:ExcAt s.heap e cls (.ref T)) (hx:g.get? e=none) (ne:T≠e) (nT:g.get? T=none) (tT:TbAt s.heap T fl)
  (h:∀ h' T' fl',g.get? T' = none->T'≠e->ExcAt h' e cls (.ref T')->TbAt h' T' fl'->Stays (frs (env::outer)) g h'->Q () { s with heap:=h' }) :
  wpAny M A (noteFrame (.ref e) env) Q E s:=by
 obtain ⟨oe,vs,ge,hc,hd,v1,v2⟩:=id he
 obtain ⟨oT,ts,gT,hdT,t3⟩:=id tT
 unfold noteFrame
 simp only [hf]
 refine wpAny_bind (wpAny_field ge hd v1 ?_)
 rw [if_pos (by simp:(Value.ref T != Value.none)=true)]
 refine wpAny_bind (wpAny_field gT hdT t3 ?_)
 by_cases q:(fl == rawInt L)=true
 ·rw [if_pos q]
  exact wpAny_pure (h s.heap T fl nT ne he tT st)
 ·rw [if_neg q]
  refine wpAny_bind (wpAny_setField gT hdT (Array.getElem?_eq_some_iff.mp t3).1 ?_)
  refine lay_entry hfr hl (Stays.upd_new st nT) hf ⟨oe,vs,?_,hc,hd,v1,v2⟩ hx λh' T' a b c d e=>h h' T' _ a b c d e
  exact (Heap.get?_update_other _ _ ne).trans ge
theorem note_frame {x:Value}{env env':Env} (h:env.frame=env'.frame):noteFrame x env=noteFrame x env':=by
 unfold noteFrame PySem.frameOf
 rw [h]
end
theorem hide_two {P:Program}{w:World}{H:Hp}{h h':Heap}{ea T:Addr}{fs:List Addr} (x:HOk P w H h) (hE:H ea=none) (hT:H T=none) (st:Stays fs (PySem.W.hideAll h [ea,T]) h') (fr:∀ b∈fs,H b=none):HOk P w H h':=λb u q=>by
 refine (x b u q).stay (λc u' hb gb=>?_) (λ_ q=>q) (λ_ _ q=>q)
 have hv:∃ v,H c=some v:=hb.elim (λz=>⟨u,by rw [z];exact q⟩) λz=>⟨_,z⟩
 obtain ⟨v,hv⟩:=hv
 refine (st c u' (PySem.W.hideAll_get _ gb ?_)).1 λz=>?_
 ·simp only [List.mem_cons,List.not_mem_nil,or_false]
  rintro (rfl | rfl)
  ·rw [hE] at hv;cases hv
  ·rw [hT] at hv;cases hv
 ·rw [fr c z] at hv;cases hv
section
variable {X:Cx}{E:XK}{pins:List (Addr×Obj)}{σ:St}{H:Hp}{s:Shared}{ea C T:Addr}{fl:Value}
theorem hide_funs {h:Heap}{base:Heap}{l:List Env} (hl:h.FunFrames base l) {cls tb:Value} (xE:ExcAt h ea cls tb) (xT:TbAt h T fl):(PySem.W.hideAll h [ea,T]).FunFrames base l:=by
 refine hl.of_keeps λb o hb nf=>⟨o,PySem.W.hideAll_get _ hb ?_,rfl⟩
 simp only [List.mem_cons,List.not_mem_nil,or_false]
 rintro (z | z)
 ·obtain ⟨_,_,ge,_,hd,_⟩:=xE
  rw [z,ge] at hb;cases hb
  exact nf _ hd
 ·obtain ⟨_,_,ge,hd,_⟩:=xT
  rw [z,ge] at hb;cases hb
  exact nf _ hd
theorem leave_any {what:String}{cenv:Env} (I:Inv X pins σ H s) (hxe:∀ e s',wpAny (model X.prog X.w) X.A (leaving X.env e) (λ_ s''=>CXe X.prog X.w X.outer X.H₀ X.s₀ E e s'') (λe' s''=>CXe X.prog X.w X.outer X.H₀ X.s₀ E e' s'') s'->X.xe e s')
  (hst:X.stack=X.env::X.outer) (hf:X.env.frame=some X.env.locals) (hex:X.ex=[]) (xE:ExcAt s.heap ea (.ref C) (.ref T)) (xT:TbAt s.heap T fl) (ne:T≠ea) (hE:H ea=none) (hT:H T=none)
  (nE:X.s₀.heap.get? ea=none) (nT:X.s₀.heap.get? T=none) (q:E (.ref C) (some ea) H):wpAny (model X.prog X.w) X.A (PySem.passOn what (.ref ea) cenv:Sem Value) (λ_ _=>False) X.xe s:=by
 have hfr:X.A.frames=some (X.env::X.outer):=by rw [I.ok.frames,hst]
 have hl:(PySem.W.hideAll s.heap [ea,T]).FunFrames X.base (X.env::X.outer):=hide_funs (by rw [<-hst];exact I.stack) xE xT
 have gE:(PySem.W.hideAll s.heap [ea,T]).get? ea=none:=PySem.W.hideAll_none _ (by simp)
 have gT':(PySem.W.hideAll s.heap [ea,T]).get? T=none:=PySem.W.hideAll_none _ (by simp)
 have gs:Stays (frs (X.env::X.outer)) (PySem.W.hideAll s.heap [ea,T]) s.heap:=Stays.keeps λb o q=>PySem.W.of_hideAll _ q
 have hfree:∀ b∈frs (X.env::X.outer),H b=none:=by rw [<-hst];exact I.stkFree
 have hok:∀ h',Stays (frs (X.env::X.outer)) (PySem.W.hideAll s.heap [ea,T]) h'->HOk X.prog X.w H h':=λh' st=>hide_two I.hok hE hT st hfree
 have ub:Un (frs X.outer) [] X.H₀ H X.s₀.heap s.heap:=by have:=I.base;rw [hex] at this;exact this
 have n2:∀ {b o},X.s₀.heap.get? b=some o->b∉[ea,T]:=λ{b o} z=>by
  simp only [List.mem_cons,List.not_mem_nil,or_false]
  rintro (rfl | rfl)
  ·rw [nE] at z;cases z
  ·rw [nT] at z;cases z
 have un:Un (frs X.outer) [] X.H₀ H X.s₀.heap (PySem.W.hideAll s.heap [ea,T]):=⟨λb o z n nf ne=>PySem.W.hideAll_get _ (ub.keep b o z n nf ne) (n2 z),λb o z n nf ne=>by
   obtain ⟨sl,q1⟩:=ub.slot b o z n nf ne
   exact ⟨sl,PySem.W.hideAll_get _ q1 (n2 z)⟩,ub.free,λb o z ne=>by
   obtain ⟨o',q1⟩:=ub.there b o z ne
   exact ⟨o',PySem.W.hideAll_get _ q1 (n2 z)⟩,ub.tups,ub.frzs,ub.tbls⟩
 have n0:∀ b,(PySem.W.hideAll s.heap [ea,T]).get? b=none->X.s₀.heap.get? b=none:=λb q=>by
  cases z:X.s₀.heap.get? b with
  | none=>rfl
  | some o=>
   obtain ⟨o',q1⟩:=un.there b o z (by simp)
   rw [q] at q1;cases q1
 have hn:∀ b,(PySem.W.hideAll s.heap [ea,T]).get? b=none->H b=none:=λb q=>(hide_two I.hok hE hT Stays.refl hfree).new q
 generalize PySem.W.hideAll s.heap [ea,T]=g at hl gE gT' gs hok un n0 hn
 obtain ⟨oe,vs,ge,hc,hd,v1,v2⟩:=id xE
 obtain ⟨oT,ts,gT,hdT,t3⟩:=id xT
 have sz:=(Array.getElem?_eq_some_iff.mp t3).1
 unfold PySem.passOn
 refine wpAny_bind (wpAny_field ge hd v1 ?_)
 rw [if_neg (by simp:¬ (Value.ref T == Value.none)=true)]
 unfold setFlight
 refine wpAny_bind (wpAny_bind (wpAny_field ge hd v1 ?_))
 rw [if_pos (by simp:(Value.ref T != Value.none)=true)]
 refine wpAny_setField gT hdT sz (wpAny_throw (hxe _ _ ?_))
 have hd3:=Obj.data_mapFields hdT (·.setIfInBounds 3 (cenv.frame.elim Value.none λf=>rawInt f))
 unfold leaving
 refine wpAny_bind (note_any (g:=g) hfr hl (Stays.upd_new gs gT') hf (T:=T) (cls:=.ref C) ⟨oe,vs,(Heap.get?_update_other _ _ ne).trans ge,hc,hd,v1,v2⟩ gE ne gT' ⟨_,_,Heap.get?_update_self _ gT (Obj.isFreed_of_fields hd3),hd3,by rw [Array.getElem?_setIfInBounds_self_of_lt sz]⟩ λh1 T1 fl1 nT1 ne1 x1 t1 st1=>?_)
 refine fly_off st1 x1 t1 ne1 nT1 λh2 x2 t2 st2=>?_
 refine ⟨ea,C,T1,H,rfl,I.os,I.bare,?_,hok _ st2,nE,n0 T1 nT1,ne1,hE,hn T1 nT1,x2,t2,q⟩
 refine un.stays st2 (λb hb=>?_) (λb hb nb=>?_)
 ·exact List.mem_filterMap.mpr (let ⟨v,hv,q⟩:=List.mem_filterMap.mp hb;⟨v,.tail _ hv,q⟩)
 ·obtain ⟨v,hv,q⟩:=List.mem_filterMap.mp hb
  rcases List.mem_cons.mp hv with rfl | hv
  ·rw [hf] at q
   cases q
   exact Heap.get?_none_of_le I.ok.above
  ·exact absurd (List.mem_filterMap.mpr ⟨v,hv,q⟩) nb
end
def BlkX (Y:Cx) (E:XK) (x:Value) (s:Shared):Prop:=∃ ea C T fl σ H,x = .ref ea/\Inv Y [] σ H s/\ExcAt s.heap ea (.ref C) (.ref T)/\TbAt s.heap T fl/\T≠ea/\H ea=none/\H T=none/\Y.s₀.heap.get? ea=none/\Y.s₀.heap.get? T=none/\E (.ref C) (some ea) H
section
variable {Y:Cx}{E:XK}{q pins:List (Addr×Obj)}{y Ex:Value->Shared->Prop}{σ:St}{H:Hp}{s s':Shared}{e:Value}{env:Env}{outer:List Env}{L:Addr}
theorem note_block (J:Inv { Y with pn:=Y.pn++pins,xe:=y } q σ H s) (hst:Y.stack=env::outer) (hef:Y.env.frame=env.frame) (hf:env.frame=some L) (hp:∀ b∈Y.ex,∃ o,(b,o)∈Y.pn++pins)
  (z:CXe Y.prog Y.w Y.stack H s E e s'):wpAny (model Y.prog Y.w) Y.A (noteFrame e Y.env) (λ_ s''=>BlkX Y E e s'') Ex s':=by
 have I:Inv Y pins σ H s:=J.off
 obtain ⟨ea,C,T,H',rfl,os,bare,un,hok,nE,nT,neT,hE,hT,xE,xT,hq⟩:=z
 have hfr:Y.A.frames=some (env::outer):=by rw [I.ok.frames,hst]
 have I':Inv Y pins σ H' s':=I.call' os un hok bare λb z=>absurd z (by simp)
 have hl:(PySem.W.hideAll s'.heap [ea,T]).FunFrames Y.base (env::outer):=hide_funs (by rw [<-hst];exact I'.stack) xE xT
 have gE:(PySem.W.hideAll s'.heap [ea,T]).get? ea=none:=PySem.W.hideAll_none _ (by simp)
 have gT:(PySem.W.hideAll s'.heap [ea,T]).get? T=none:=PySem.W.hideAll_none _ (by simp)
 have gs:Stays (frs (env::outer)) (PySem.W.hideAll s'.heap [ea,T]) s'.heap:=Stays.keeps λb o q=>PySem.W.of_hideAll _ q
 have hfree:∀ b∈frs (env::outer),H' b=none:=by rw [<-hst];exact I'.stkFree
 have hok2:∀ h',Stays (frs (env::outer)) (PySem.W.hideAll s'.heap [ea,T]) h'->HOk Y.prog Y.w H' h':=λh' st=>hide_two hok hE hT st hfree
 have sg:∀ b o,s.heap.get? b=some o->∀ o',s'.heap.get? b=some o'->(PySem.W.hideAll s'.heap [ea,T]).get? b=some o':=λb o q o' q'=>PySem.W.hideAll_get _ q' (by
  simp only [List.mem_cons,List.not_mem_nil,or_false]
  rintro (rfl | rfl)
  ·rw [nE] at q;cases q
  ·rw [nT] at q;cases q)
 have hn:∀ b,(PySem.W.hideAll s'.heap [ea,T]).get? b=none->H' b=none:=λb q=>(hide_two hok hE hT Stays.refl hfree).new q
 have n1:∀ b,s.heap.get? b=none->Y.s₀.heap.get? b=none:=λb q=>by
  cases z:Y.s₀.heap.get? b with
  | none=>rfl
  | some o=>
   by_cases hb:b∈Y.ex
   ·obtain ⟨o',hp'⟩:=hp b hb
    have:=(J.pin _ (List.mem_append_left _ hp')).1
    rw [show s.heap.get? b=none from q] at this;cases this
   ·obtain ⟨o',q1⟩:=I.base.there b o z hb
    rw [q] at q1;cases q1
 have n0:∀ b,(PySem.W.hideAll s'.heap [ea,T]).get? b=none->Y.s₀.heap.get? b=none:=λb q=>n1 b (by
  cases z:s.heap.get? b with
  | none=>rfl
  | some o=>
   obtain ⟨o',q1⟩:=un.there b o z (by simp)
   rw [sg b o z o' q1] at q;cases q)
 generalize PySem.W.hideAll s'.heap [ea,T]=g at hl gE gT gs hok2 sg n0 hn
 rw [note_frame hef]
 refine note_any hfr hl gs hf xE gE neT gT xT λh1 T1 fl1 nT1 ne1 x1 t1 st=>?_
 have I3:Inv Y pins σ H' { s' with heap:=h1 }:=by
  refine I.call' os ⟨λb o q n nf ne=>?_,λb o q n hf ne=>?_,un.free,λb o q ne=>?_,un.tups,un.frzs,un.tbls⟩ (hok2 _ st) bare λb z=>absurd z (by simp)
  ·rw [hst] at nf
   exact (st b o (sg b o q o (un.keep b o q n (by rw [hst];exact nf) ne))).1 nf
  ·obtain ⟨sl,q1⟩:=un.slot b o q n hf ne
   rw [hst] at hf
   exact (st b _ (sg b o q _ q1)).2 hf
  ·obtain ⟨o',q1⟩:=un.there b o q ne
   exact st.size b o' (sg b o q o' q1)
 exact ⟨ea,C,T1,fl1,σ,H',rfl,Inv.unpinned (pins:=[]) I3,x1,t1,ne1,hE,hn T1 nT1,n1 ea nE,n0 T1 nT1,hq⟩
end
section
variable {X:Cx}{elt tg iter:Expr}{ifs:List Expr}{scope:Scope}{pos:Pos}
theorem comp_loopE {Y:Cx}{g:TG}{tt:TT}{te:(St->XK)->TE}{E:XK}{J:It}{D it L:Addr}{env:Env}{outer:List Env}{fp:List Addr}{tn:Nat->Heap->Prop}{Qr:VK}{σ:St}{H:Hp}{s:Shared} (hc:Y.calm=true) (hxe:∀ e s,¬ Y.xe e s)
  (hst:Y.stack=env::outer) (hef:Y.env.frame=env.frame) (hfL:env.frame=some L) (hex:Y.ex=fp)
  (hg:PG Y tg g) (hi:PIfs Y ifs tt) (he:∀ pn xe E,PassesS (CXe Y.prog Y.w) { Y with pn:=pn,xe:=xe } E->PE { Y with pn:=pn,xe:=xe } elt (te E)) (T:Turn Y.prog Y.w Y.K tg J fp it tn) (I:Inv Y [] σ H s) (st:tn 0 s.heap) (hf:∀ b∈fp,FpOk Y [] H b) (hw:CompW g tt (te λ_=>E) J D Qr σ H) :
  codeAny (model Y.prog Y.w) Y.A (.compLoop (.ListComp elt [⟨tg,iter,ifs,0⟩] scope pos) 0 (.ref it) (.ref D) Y.env) (λr s'=>(r = .ok .next/\∃ σ' H',Inv Y [] σ' H' s'/\Qr (.ref D) H')\/∃ x,r = .error x/\BlkX Y E x s') s:=by
 obtain ⟨W,⟨m0,w0⟩,turn⟩:=hw
 have stat:∀ {H':Hp},(∀ b∈fp,H' b=none)->∀ b∈fp,FpOk Y [] H' b:=λhn b hb=>⟨hn b hb,(hf b hb).2⟩
 refine codeAny_loop rfl (λn s'=>∃ i σ' H',Inv Y [] σ' H' s'/\tn i s'.heap/\(∀ b∈fp,H' b=none)/\W i n σ' H') ?_ m0 ⟨0,σ,H,I,st,λb hb=>(hf b hb).1,w0⟩
 rintro n s3 ⟨i,σ3,H3,I3,st3,fr3,w3⟩
 show wpAny _ Y.A ((compTurn (.ListComp elt [⟨tg,iter,ifs,0⟩] scope pos) 0 (.ref it) (.ref D) Y.env).onRaise (λx=>do noteFrame x Y.env;theTreesLotGoes x)) _ _ s3
 refine wpAny_noted ?_
 rw [compTurn_list]
 (refine wpAny_bind (wpAny_standAt (wpAny_bind ?_)))
 rcases turn i n σ3 H3 w3 with ⟨stop,qn⟩ | ⟨go,N,hN,step⟩
 ·refine thn (T.done Y rfl rfl rfl hc i [] s3 σ3 H3 _ I3 (stat fr3) st3 stop) λr s4 ⟨hr,I4⟩=>?_
  subst hr
  exact wpAny_pure (.inl ⟨rfl,σ3,H3,I4,qn⟩)
 ·refine thn (T.item Y rfl rfl rfl hc i [] s3 σ3 H3 _ I3 (stat fr3) st3 go) λr s4 ⟨u,hr,h4⟩=>?_
  subst hr
  refine wpAny_bind (thn h4 λ_ s5 ⟨x,H5,I5,r5,y5,st5,fr5⟩=>?_)
  have I5':=I5.pinned (stat fr5) (T.obj _ _ st5)
  have again':∀ {σ7:St}{H7:Hp}{s7:Shared},Inv Y ([]++pinsAt fp s5.heap) σ7 H7 s7->N σ7 H7->∃ m,m<n/\∃ i σ' H',Inv Y [] σ' H' s7/\tn i s7.heap/\(∀ b∈fp,H' b=none)/\W i m σ' H':=λ{σ7 H7 s7} I7 n7=>by
   obtain ⟨m',hm,w7⟩:=hN σ7 H7 n7
   refine ⟨m',hm,i+1,σ7,H7,I7.unpinned,T.keep _ _ _ st5 λb hb o e=>(I7.pin (b,o) (List.mem_append_right _ (List.mem_append_right _ (mem_pinsAt hb e)))).1,λb hb=>?_,w7⟩
   obtain ⟨o,e,d⟩:=T.obj _ _ st5 b hb
   exact (I7.pin (b,o) (List.mem_append_right _ (List.mem_append_right _ (mem_pinsAt hb e)))).2.1
  refine wpAny_bind (wpAny_mono (hg _ s5 σ3 H5 x u _ I5' r5 (step x H5 y5)) (λ_ s6 ⟨σ6,H6,I6,q6⟩=>?_) λe s' z=>(hxe e s' z).elim)
  refine wpAny_bind (wpAny_mono (hi _ s6 σ6 H6 _ I6 q6) (λok s7 ⟨H7,I7,q7⟩=>?_) λe s' z=>(hxe e s' z).elim)
  cases ok with
  | false=>
   exact wpAny_pure ⟨rfl,again' I7 q7⟩
  | true=>
   refine wpAny_bind (wpAny_bind (wpAny_mono (he _ (notedBy (model Y.prog Y.w) Y.A Y.env λx s'=>BlkX Y E x s') (λ_=>E) (λq σ' H' s1 e s' J z=>note_block J hst hef hfL (λb hb=>?_) z) [] s7 σ6 H7 _ (I7.with _) q7) (λu8 s8 ⟨v8,H8,I8,r8,xs,e8,z8,n8⟩=>?_) λe s' z=>?_))
   ·rw [hex] at hb
    obtain ⟨o,e,d⟩:=T.obj _ _ st5 b hb
    exact ⟨o,List.mem_append_right _ (List.mem_append_right _ (mem_pinsAt hb e))⟩
   ·refine wpAny_bind (wpAny_mono (mt_append (X:=Y) _ s8 σ6 H8 (.ref D) [v8] (.ref D) [u8] (λ_ H9=>N σ6 H9) I8.off rfl (.cons r8 .nil) ⟨D,xs,v8,rfl,rfl,e8,z8,n8⟩) (λu9 s9 h9=>?_) λe s' z=>(hxe e s' z).elim)
    obtain ⟨v9,H9,I9,_,n9⟩:=h9
    exact wpAny_pure (wpAny_pure ⟨rfl,again' I9 n9⟩)
   ·exact wpAny_mono z (λ_ s2 z=>.inr ⟨e,rfl,z⟩) λe2 s2 z=>.inr ⟨e2,rfl,z⟩
end
end L2
namespace L2
open PySem PySem.Spec PyProof.Rows
section
variable {X:Cx}{elt tg iter:Expr}{ifs:List Expr}{scope:Scope}{pos:Pos}
theorem comp_coreE {N':List Str}{n:Nat}{fi:List Nat}{wi:TI}{g:TG}{tt:TT}{te:(St->XK)->TE}{E:XK}{use:Option (Value->Sem Unit)}{Q:Value->Shared->Prop}{Qr:VK}{epos:Pos}{pins:List (Addr×Obj)}{σ:St}{H:Hp}{s:Shared}
  (hxe:∀ e s',wpAny (model X.prog X.w) X.A (leaving X.env e) (λ_ s''=>CXe X.prog X.w X.outer X.H₀ X.s₀ E e s'') (λe' s''=>CXe X.prog X.w X.outer X.H₀ X.s₀ E e' s'') s'->X.xe e s')
  (hst:X.stack=X.env::X.outer) (hf:X.env.frame=some X.env.locals) (hex:X.ex=[]) (hcalm:X.calm=true) (S:CScope X scope N' n fi) (hit:∀ R,wi σ H R->wpAny (model X.prog X.w) X.A (eval iter X.env) (λv s1=>wpAny (model X.prog X.w) X.A (pyIter v) (PIE X pins σ tg R) X.xe s1) X.xe s)
  (hg:∀ s H fp,PG (compCx X scope N' s H fp) tg g) (hi:∀ s H fp,PIfs (compCx X scope N' s H fp) ifs tt) (he:∀ s H fp pn xe E,PassesS (CXe X.prog X.w) { compCx X scope N' s H fp with pn:=pn,xe:=xe } E->PE { compCx X scope N' s H fp with pn:=pn,xe:=xe } elt (te E))
  (I:Inv X pins σ H s) (hw:tComp wi g tt (te λ_=>E) n fi σ H Qr) (hs:∀ x,foldedSetIterable iter X.env x=pure x)
  (post:∀ (D C:Addr) (s':Shared) (H':Hp) (m:Str->Option Value),Inv X pins σ H' s'->s'.heap.Ns C m->H' C=none->X.s₀.heap.objs.size<=C->C≠X.env.locals->(∀ x c,X.env.cells.lookup x=some c->c≠C)->(∀ p∈X.pn++pins,p.1≠C)->Qr (.ref D) H' ->
   compPost (model X.prog X.w) X.A X.xe use Q (.ref D) C (.ok .next) s') :
  wpAny (model X.prog X.w) X.A (comprehension (.ListComp elt [⟨tg,iter,ifs,0⟩] scope pos) scope X.env epos (newList []) false (eval iter X.env) use) Q X.xe s:=by
 refine wpAny_comprehension_free (use:=use) (g:=⟨tg,iter,ifs,0⟩) (gs:=[]) rfl hs (closure_of (S.clHas I.ok)) S.kind S.names ?_
 refine thn (hit _ hw) λv s1 h1=>thn h1 λitv s2 h2=>?_
 obtain ⟨it,fp,tn,J,H2,e,I2,T,st2,f2,hw2⟩:=h2
 subst e
 refine wpAny_newList ?_ (Nat.zero_le _)
 have hD:H2 s2.heap.objs.size=none:=I2.hok.fresh (Nat.le_refl _)
 have I3:Inv X pins σ (upd H2 s2.heap.objs.size (.lst [])) { s2 with heap:=s2.heap.push { cls:=.type "list",data:=.seq ([]:List Value).toArray } }:=
  I2.laid (t':=s2.toks) (λb u e=>Heap.get?_push_of_some _ e) (Nat.le_refl _) ⟨Nat.zero_le _,[],0,.nil,Heap.get?_push_size _ rfl⟩
 have hw3:=hw2 _ hD
 have u23:Un (frs X.stack) fp H2 (upd H2 s2.heap.objs.size (.lst [])) s2.heap (s2.heap.push { cls:=.type "list",data:=.seq ([]:List Value).toArray }):=
  Un.laid (λb u e=>Heap.get?_push_of_some _ e) (Nat.le_refl _) hD
 generalize hs3:({ s2 with heap:=s2.heap.push { cls:=.type "list",data:=.seq ([]:List Value).toArray } }:Shared)=s3 at I3 ⊢
 have hh3:s3.heap=s2.heap.push { cls:=.type "list",data:=.seq ([]:List Value).toArray }:=by rw [<-hs3]
 have ho3:s3.os=s2.os:=by rw [<-hs3]
 have hz3:s3.heap.objs.size=s2.heap.objs.size+1:=by rw [hh3,Heap.size_push]
 rw [<-hh3] at u23
 have hH3:∀ b,b≠s2.heap.objs.size->upd H2 s2.heap.objs.size (.lst []) b=H2 b:=λb hb=>upd_ne hb
 generalize upd H2 s2.heap.objs.size (.lst [])=H3 at *
 have fpold:∀ b∈fp,∃ o,s2.heap.get? b=some o:=λb hb=>let ⟨o,e,_⟩:=T.obj _ _ st2 b hb;⟨o,e⟩
 have k23:∀ b u,s2.heap.get? b=some u->s3.heap.get? b=some u:=λb u e=>by rw [hh3];exact Heap.get?_push_of_some _ e
 have hfp3:∀ b∈fp,FpOk X pins H3 b:=λb hb=>by
  obtain ⟨o,e⟩:=fpold b hb
  exact ⟨(hH3 b (Nat.ne_of_lt (Heap.lt_size e))).trans (f2 b hb).1,(f2 b hb).2⟩
 refine newEnvC λh4 hns hk hc=>?_
 show codeAny _ _ (.compStart _ 0 _ _ (cenv scope s3.heap.objs.size X.env)) _ _
 have I4:=inv_block I3 S hfp3 (λb hb=>let ⟨o,e⟩:=fpold b hb;⟨o,k23 b o e⟩) hns hk hc
 have hfY:∀ b∈fp,FpOk (compCx X scope N' s3 H3 fp) [] H3 b:=λb hb=>⟨(hfp3 b hb).1,(I4.ok.exf b hb).1,I4.ok.exfs b hb,.inl hb,(I4.ok.exf b hb).2,λp hp=>absurd (show p∈([]:List (Addr×Obj)) from hp) (by simp)⟩
 have st4:tn 0 h4:=T.keep _ _ _ st2 λb hb o e=>hk b o (k23 b o e)
 have loop:=comp_loopE (Y:=compCx X scope N' s3 H3 fp) (E:=E) (elt:=elt) (tg:=tg) (iter:=iter) (ifs:=ifs) (scope:=scope) (pos:=pos) hcalm (λ_ _ z=>z) hst rfl hf rfl (hg s3 H3 fp) (hi s3 H3 fp) (he s3 H3 fp) T I4 st4 hfY hw3
 have fin:codeAny (model X.prog X.w) X.A (.compLoop (.ListComp elt [⟨tg,iter,ifs,0⟩] scope pos) 0 (.ref it) (.ref s2.heap.objs.size) (cenv scope s3.heap.objs.size X.env)) (compPost (model X.prog X.w) X.A X.xe use Q (.ref s2.heap.objs.size) s3.heap.objs.size) { s3 with heap:=h4 }:=by
  have back:∀ {σ':St}{H':Hp}{s':Shared},Inv (compCx X scope N' s3 H3 fp) [] σ' H' s'->Inv X pins σ H' s':=λ{σ' H' s'} J5=>by
   have u5:Un (frs X.stack) fp H3 H' s3.heap s'.heap:=J5.base
   exact I2.call' (ch:=fp) (J5.os.trans ho3) (u23.trans u5) J5.hok J5.bare λb hb=>⟨(f2 b hb).2.2.2.1,(f2 b hb).2.1,(f2 b hb).2.2.2.2.1,(f2 b hb).2.2.2.2.2⟩
  have c2:∀ x c,X.env.cells.lookup x=some c->c≠s3.heap.objs.size:=λx c e=>by
   obtain ⟨v,q⟩:=I3.cell x c e
   exact Nat.ne_of_lt q.lt
  have p2:∀ p∈X.pn++pins,p.1≠s3.heap.objs.size:=λp hp=>Nat.ne_of_lt (Heap.lt_size (I3.pin p hp).1)
  refine codeAny_mono loop λr s' hr=>?_
  rcases hr with ⟨hr,σ',H',J5,q5⟩ | ⟨x,hr,ea,C,Tb,fl,σ',H',rfl,J5,xE,xT,ne,hE,hT,nE,nT,q⟩
  ·subst hr
   obtain ⟨m,hm,_⟩:=J5.loc
   exact post _ _ s' H' m (back J5) hm J5.free I3.sz (Nat.ne_of_gt I3.lt) c2 p2 q5
  ·subst hr
   obtain ⟨m,hm,_⟩:=J5.loc
   have hm:s'.heap.Ns s3.heap.objs.size m:=hm
   refine ⟨m,hm,λh' hs' ce _=>?_⟩
   have I6:Inv X pins σ H' { s' with heap:=h' }:=(back J5).letGo hs' J5.free I3.sz (Nat.ne_of_gt I3.lt) c2 p2
   have nCE:ea≠s3.heap.objs.size:=λz=>by
    obtain ⟨oe,vs,ge,_,hd,_⟩:=xE
    obtain ⟨o,es,ep,go,hd2,_⟩:=hm
    rw [z,go] at ge;cases ge
    rw [hd2] at hd;cases hd
   have nCT:Tb≠s3.heap.objs.size:=λz=>by
    obtain ⟨oe,vs,ge,hd,_⟩:=xT
    obtain ⟨o,es,ep,go,hd2,_⟩:=hm
    rw [z,go] at ge;cases ge
    rw [hd2] at hd;cases hd
   have xE':ExcAt h' ea (.ref C) (.ref Tb):=by
    obtain ⟨oe,vs,ge,r⟩:=xE
    exact ⟨oe,vs,(hs'.2 ea nCE).trans ge,r⟩
   have xT':TbAt h' Tb fl:=by
    obtain ⟨oe,vs,ge,r⟩:=xT
    exact ⟨oe,vs,(hs'.2 Tb nCT).trans ge,r⟩
   have n0:∀ b,s3.heap.get? b=none->X.s₀.heap.get? b=none:=λb q=>by
    cases z:X.s₀.heap.get? b with
    | none=>rfl
    | some o=>
     obtain ⟨o',q1⟩:=I3.base.there b o z (by rw [hex];simp)
     rw [q] at q1;cases q1
   exact leave_any I6 hxe hst hf hex xE' xT' ne hE hT (n0 _ nE) (n0 _ nT) q
 exact codeAny_compStart_list fin (T.self _ 0 _ _ _ st4 fin)
theorem ps_compE {N':List Str}{n i:Nat}{fi:List Nat}{wi:TI}{g:TG}{tt:TT}{te:(St->XK)->TE}{E:XK}{x:Str}{pos' spos:Pos} (hxe:∀ e s',wpAny (model X.prog X.w) X.A (leaving X.env e) (λ_ s''=>CXe X.prog X.w X.outer X.H₀ X.s₀ E e s'') (λe' s''=>CXe X.prog X.w X.outer X.H₀ X.s₀ E e' s'') s'->X.xe e s')
  (hst:X.stack=X.env::X.outer) (hfr:X.env.frame=some X.env.locals) (hex:X.ex=[]) (hN:X.N.Nodup) (hxi:X.N[i]? = some x) (hx:Loc X.env.scope x) (hcalm:X.calm=true) (S:CScope X scope N' n fi) (hit:PI X tg iter wi)
  (hg:∀ s H fp,PG (compCx X scope N' s H fp) tg g) (hi:∀ s H fp,PIfs (compCx X scope N' s H fp) ifs tt) (he:∀ s H fp pn xe E,PassesS (CXe X.prog X.w) { compCx X scope N' s H fp with pn:=pn,xe:=xe } E->PE { compCx X scope N' s H fp with pn:=pn,xe:=xe } elt (te E))
  (hsw:swapsWith (.ListComp elt [⟨tg,iter,ifs,0⟩] scope pos) (some (.Name x pos')) spos.line X.env=pure true:=by rfl)
  (hs:∀ x,foldedSetIterable iter X.env x=pure x:=by intro _;rfl) (hf:X.fn x=true\/X.env.scope.names.lookup x=some .local:=by first | exact .inl rfl | exact .inr rfl | assumption) :
  PS X (.Assign [.Name x pos'] (.ListComp elt [⟨tg,iter,ifs,0⟩] scope pos) spos) (tAsg (tComp wi g tt (te λ_=>E) n fi) (gName i)):=by
 intro pins s σ H D I h
 (rw [exec_Assign_Name_used _ _ _ _ hsw])
 (refine wpAny_bind (wpAny_standAt (wpAny_bind ?_)))
 show wpAny _ X.A (do let _ <-comprehension (.ListComp elt [⟨tg,iter,ifs,0⟩] scope pos) scope X.env _ (newList []) false (eval iter X.env) (some (assign (.Name x pos') X.env))) _ _ s
 refine wpAny_bind (thn (comp_coreE (E:=E) (use:=some (assign (.Name x pos') X.env)) (Q:=λ_ s'=>SP X pins D .next s') hxe hst hfr hex hcalm S (λR z=>hit pins s σ H R I z) hg hi he I h hs λDa C s' H' m I' hm hn hC hL h2 h3 q=>?_) λ_ s' q=>wpAny_pure (wpAny_pure q))
 show wpAny _ _ (assign (.Name x pos') X.env (.ref Da)) _ _ s'
 refine wpAny_assign_Name (store_ok2 (v:=.ref Da) I' hN hxi hx rfl (λs2 I2 ⟨a,hsb,ha⟩=>?_) hf)
 have hCa:C≠a:=by
  rcases ha with z | z
  ·rw [z];exact hL
  ·exact (h2 x a z).symm
 exact ⟨m,hm.sameBut hsb hCa,λh' hs'=>⟨_,H',I2.letGo hs' hn hC hL h2 h3,q⟩⟩
end
end L2
namespace L2
open PySem PySem.Spec PyProof.Rows PySem.W
structure LScope (X:Cx) (scope:Scope) (N':List Str) (y:Str) (fi:List Nat):Prop where
 kind:scope.kind = .function
 co:scope.isCoroutine=false
 gen:scope.isGenerator=false
 nocell:∀ x∈scope.names,x.2 ≠ .cell
 par:scope.names.lookup y=some .local
 free:∀ z∈scope.names,z.2 = .free->X.env.kindOf z.1=some .cell\/X.env.kindOf z.1=some .free
 hd:N'[0]? = some y
 len:N'.length=fi.length+1
 at':∀ (j:Nat) (k:Nat),fi[j]? = some k->∃ x,N'[j+1]? = some x/\X.N[k]? = some x/\scope.names.lookup x=some .free
section
variable {X:Cx}{pins:List (Addr×Obj)}{σ:St}{H:Hp}{s:Shared}{scope:Scope}{N':List Str}{y:Str}{fi:List Nat}{h':Heap}{qual:Str}{q:Addr}{cd:Value}{v:V}{u:Value}{tk:Tok}
end
end L2
namespace L2
open PySem PySem.Spec PyProof.Rows PySem.W
section
variable {X:Cx}
end
end L2
namespace L2
open PySem PySem.Spec PyProof.Rows PySem.W
structure LamTop (K:PySem.W.Frag) (mg:Str->Option Value) (fd:FuncData) (c P:Addr):Prop where
 code:fd.code = .ref c
 hd:∀ h:Heap,K.In h->CodeHd h c P
 bm:∃ bm o,mg "__builtins__" = some (.ref bm)/\bm≠builtinsNs/\bm≠mainGlobals/\K.lookup bm=some o/\o.cls = .type "module" /\ o.dict=some builtinsNs/\o.data = .plain
structure FunD (K:PySem.W.Frag) (x qual:Str) (st:Stmt) (f:Addr) (fd:FuncData):Prop where
 ex:∃ (oc:Value) (od:Option Addr) (dV kV doc pm:Value) (an:Option Addr) (cdv ct:Value) (osl:Array (Option Value)),
  fd=PySem.W.fnOf x qual (defArgs st) (defBody st) (defScope st) dV kV doc pm an cdv ct/\K.lookup f=some ⟨oc,od,.func fd,osl⟩/\PySem.W.codeIn K cdv qual=true
 kp:PySem.W.keepIn K (.ref f)=true
structure DefAtD (K:PySem.W.Frag) (mg:Str->Option Value) (x:Str) (st:Stmt) (ps:List Str) (f:Addr) (fd:FuncData):Prop where
 fn:FunD K x x st f fd
 bd:Binds K fd ps []
 mg:mg x=some (.ref f)
section
variable {P:Program}{w:World}{K:PySem.W.Frag}{mg:Str->Option Value}{base:Heap}
end
end L2
namespace L2
open PySem
structure MthAt (K:PySem.W.Frag) (x q:Str) (st:Stmt) (ps:List Str) (f:Addr) (fd:FuncData):Prop where
 fn:Fun K x q st f fd
 bd:Binds K fd ps []
structure MthAtD (K:PySem.W.Frag) (x q:Str) (st:Stmt) (ps:List Str) (f:Addr) (fd:FuncData):Prop where
 fn:FunD K x q st f fd
 bd:Binds K fd ps []
section
variable {X:Cx}{C f:Addr}{fd:FuncData}{k:Nat}{sp:Sp}{e o value:Expr}{n:Str}{pos pos':Pos}{ta tv:TE}
end
structure ClsT (K:PySem.W.Frag) (C:Addr):Prop where
 ha:PySem.W.findIn K (.ref C) "__class__" = some (some (.builtin "object.__class__"))
 hn:PySem.W.specialIn K (.builtin "object.__class__") "__get__" = some (some (.builtin "getset_descriptor.__get__"))
 htk:PySem.W.takesIn K (.builtin "object.__class__")=some true
 hm:PySem.W.mroIn K C (.type "object")=some true
 self:PySem.W.kitOne K (.ref C) (.ref C)=some true
end L2
namespace L2
open PySem
section
variable {X:Cx}
end
structure NeT (K:PySem.W.Frag) (C:Addr):Prop where
 ne:PySem.W.findIn K (.ref C) "__ne__" = some (some (.builtin "object.__ne__"))
 hm:PySem.W.mroIn K C (.type "object")=some true
section
variable {X:Cx}{C f:Addr}{fd:FuncData}{k:Nat}{sp:Sp}
end
end L2
namespace L2
open PySem
def tOrT (K:PySem.W.Frag) (ta tb:TE):TE:=λσ H Q=>ta σ H λx H1=>∃ k,TruV K x H1 k/\if k=true then Q x H1 else tb σ H1 Q
theorem pe_orT {X:Cx}{a b:Expr}{rest:List Expr}{pos:Pos}{ta tb:TE} (ha:PE X a ta) (hb:PE X (.BoolOp .Or (b::rest) pos) tb):PE X (.BoolOp .Or (a::b::rest) pos) (tOrT X.K ta tb):=by
 intro pins s σ H Q I h
 refine PyProof.Rows.BoolOp_or (thn (ha pins s σ H _ I h) λv s1 ⟨x,H1,I1,r1,k,tr,q1⟩=>?_)
 refine thn (tru_ok pins s1 σ H1 x v (λc H2=>c=k/\H2=H1) I1 r1 ⟨k,tr,rfl,rfl⟩) λc s2 ⟨H2,I2,e1,e2⟩=>?_
 subst e1
 subst e2
 cases c with
 | false=>exact hb pins s2 σ _ Q I2 q1
 | true=>exact ⟨x,_,I2,r1,q1⟩
def tOrL (K:PySem.W.Frag) (ta tb:TE):TE:=λσ H Q=>∃ Pre:V->Hp->Prop,(∀ x H1,Pre x H1->Q x H1)/\ta σ H λx H1=>∃ k,TruV K x H1 k/\if k=true then Pre x H1 else tb σ H1 Pre
theorem pe_orL {X:Cx}{a b:Expr}{rest:List Expr}{pos:Pos}{ta tb:TE} (ha:PE X a ta) (hb:PE X (.BoolOp .Or (b::rest) pos) tb):PE X (.BoolOp .Or (a::b::rest) pos) (tOrL X.K ta tb):=by
 intro pins s σ H Q I ⟨Pre,hP,h⟩
 exact thn (pe_orT ha hb pins s σ H Pre I h) λv s1 ⟨x,H1,I1,r1,q1⟩=>⟨x,H1,I1,r1,hP _ _ q1⟩
end L2
namespace L2
open PySem PySem.Spec PyProof.Rows
end L2
namespace L2
open PySem PySem.Spec PyProof.Rows
def strV:PyData->Str
 | .str x=>x
 | d=>d.shown
structure Showy (d:PyData):Prop where
 able:d.showable=true
 nod:d.hasDict=false
 dep:d.depth<=100
 len:(∀ x,d ≠ .str x)->d.shown.length<=sizeLine
section
variable {X:Cx}
end
section
variable {X:Cx}
structure PAj (X:Cx) (es:List Expr) (t:TA):Prop where
 go:PA X es t
theorem paj_nil:PAj X [] tNil:=⟨pa_nil⟩
theorem paj_cons {e:Expr}{es:List Expr}{te:TE}{t:TA} (ha:PE X e te) (h:PAj X es t) (hs:starEach (e::es) X.env=(false,eval e X.env)::starEach es X.env:=by rfl):PAj X (e::es) (tCons te t):=⟨pa_cons ha h.go hs⟩
theorem paj_s {x:Str}{j:Nat}{pos:Pos}{es:List Expr}{t:TA} (h:PAj X es t):PAj X (.Constant (.str x) j pos::es) (tCons (tC (.str x)) t):=⟨pa_cons pe_str h.go (by rfl)⟩
theorem pe_lstj {es:List Expr}{t:TA}{pos:Pos} (h:PAj X es t):PE X (.List es pos) (tLst t):=pe_lst h.go
structure PSj (X:Cx) (st:Stmt) (t:TS):Prop where
 go:PS X st t
structure PSsj (X:Cx) (st:List Stmt) (t:TS):Prop where
 go:PSs X st t
theorem pssj_cons {st:Stmt}{rest:List Stmt}{t u:TS} (h1:PSj X st t) (h2:PSsj X rest u):PSsj X (st::rest) (tSeq t u):=⟨pss_cons h1.go h2.go⟩
end
end L2
namespace L2
open PySem PySem.Spec PyProof.Rows
section
variable {X:Cx}{pins:List (Addr×Obj)}{σ:St}{H:Hp}{s:Shared}{a:Addr}{kvs:List (Key×V)}{k:Key}{x:V}{u r:Value}{A:Around}{E:Value->Shared->Prop}
end
section
variable {X:Cx}{o e f:Expr}{apos cpos:Pos}{td ty tx:TE}
end
section
variable {X:Cx}{x:Str}{p apos cpos pos:Pos}{o:Expr}{td:TE}
end
end L2
namespace L2
open PySem PySem.Spec PyProof.Rows
section
variable {X:Cx}
end
end L2
namespace L2
open PySem PySem.Spec PyProof.Rows
section
variable {prog:Program}{w:World}{A:Around}{E:Value->Shared->Prop}{s:Shared}
end
section
variable {X:Cx}{pins:List (Addr×Obj)}{σ:St}
end
end L2
namespace L2
open PySem PySem.Spec PyProof.Rows PySem.W
section
variable {X:Cx}{pins:List (Addr×Obj)}{σ:St}{H:Hp}{s:Shared}
end
end L2
namespace L2
open PySem PySem.Spec PyProof.Rows
section
variable {prog:Program}{w:World}{A:Around}{E:Value->Shared->Prop}{s:Shared}
end
section
variable {X:Cx}{pos:Pos}
end
end L2
namespace L2
open PySem PySem.Spec PyProof.Rows PySem.W
section
variable {X:Cx}
end
end L2
namespace L2
open PySem PySem.Spec PyProof.Rows PySem.W
section
variable {X:Cx}
end
end L2
namespace L2
open PySem PySem.Spec PyProof.Rows
section
variable {X:Cx}
def rInT (K:PySem.W.Frag):R2:=λx y H Q=>∃ (xs:List PyData) (d:PyData),Den K H y (.tuple xs)/\Den K H x d/\d.depth<=100/\Q (.bl (xs.any λe=>PyData.eqv e d)) H
theorem op_inT {k:Nat} (hr:Room k X.A):OpR X (compareOp .In) (rInT X.K):=by
 intro pins s σ H x y v u Q I rx ry h
 obtain ⟨xs,d,dy,dx,hd,q⟩:=h
 obtain ⟨as1,r1⟩:=I.reads dy ry
 obtain ⟨as2,r2⟩:=I.reads dx rx
 exact SeqAt.in_tuple_reads r1 r2 (by simpa [PyData.canLay0] using dy.lay) dx.lay (in_room hr hd) ⟨.bl _,H,I,rfl,q⟩
end
end L2
namespace L2
open PySem PySem.Spec PyProof.Rows
section
open SetTable
def way (t:SetTable) (h:Int):Nat->Probe
 | 0=>t.probeStart h
 | n+1=>t.advance (way t h n)
end
end L2
namespace L2
open PySem PySem.Spec PyProof.Rows
section
open SetTable
variable {mask:Nat}
end
end L2
namespace L2
open PySem PySem.Spec PyProof.Rows
section
variable {P:Program}{w:World}{A:Around}{E:Value->Shared->Prop}{s:Shared}
abbrev tK (P:Program) (w:World):=tupleKind (mixKind P w)
variable {kf:Addr->Int×Str}{a x:Addr}{o:Obj}{es:Array (Int×Value)}{ep:Nat}{t:SetTable}
def hK (P:Program) (w:World) (k:Int×Str):Int:=(tK P w).hash [.inl k.1,.inr k.2]
end
end L2
namespace L2
open PySem PySem.Spec PyProof.Rows
section
variable {P:Program}{w:World}{A:Around}{E:Value->Shared->Prop}{s:Shared}{kf:Addr->Int×Str}
end
end L2
namespace L2
open PySem PySem.Spec PyProof.Rows PySem.W
section
variable {P:Program}{w:World}{A:Around}{E:Value->Shared->Prop}{s:Shared}
end
end L2
namespace L2
open PySem PySem.Spec PyProof.Rows
section
variable {X:Cx}{x y:Str}{p q pos pos2:Pos}{e:Expr}{t:TA}
end
end L2
namespace L2
open PySem PySem.Spec PyProof.Rows PySem.W
section
variable {X:Cx}{pins:List (Addr×Obj)}{σ:St}{H:Hp}{s:Shared}
end
end L2
namespace L2
open PySem PySem.Spec PyProof.Rows PySem.W
section
variable {X:Cx}{pins:List (Addr×Obj)}{σ:St}{H:Hp}{s:Shared}
end
end L2
namespace L2
open PySem PySem.Spec PyProof.Rows PySem.W
end L2
namespace LG
open PySem L2 PySem.Builtin PySem.Builtin.Str
def sgn (c:Nat):Bool:=decide (33<=c) && decide (c<=126) && decide (c≠37)
def dig (c:Nat):Bool:=decide (48<=c) && decide (c<=57)
def low (c:Nat):Bool:=decide (97<=c) && decide (c<=122)
def onlyB (p:Nat->Bool) (l:List Nat):Bool:=!l.isEmpty && l.all p
def unminus:List Nat->List Nat
 | 45::r=>r
 | l=>l
def kindL (l:List Nat):Nat:=if onlyB dig (unminus l)=true then 0 else if onlyB low l=true then 1 else 2
def wordB (z:Str):Bool:=onlyB sgn z.cps.toList
def kindT (z:Str):Nat:=kindL z.cps.toList
def kindW:Nat->Str
 | 0=> "number"
 | 1=> "name"
 | _=> "other"
def kindS:Nat->Str
 | 0=> "number"
 | 1=> "name"
 | _=> "any"
theorem str_ext {x y:Str} (h:x.cps.toList=y.cps.toList):x=y:=by
 cases x;cases y
 simp only [Str.mk.injEq]
 exact Array.toList_inj.mp h
theorem takeWhile_all {α:Type}{p:α->Bool}:∀ {l:List α},(l.takeWhile p).length=l.length↔l.all p=true
 | []=>by simp
 | a::r=>by
  rw [List.takeWhile_cons,List.all_cons]
  by_cases h:p a=true
  ·rw [if_pos h,h,Bool.true_and]
   simp only [List.length_cons,Nat.add_right_cancel_iff]
   exact takeWhile_all
  ·rw [if_neg h]
   simp [h]
theorem strip_nil (z y:Str):decide (V.str (Txt.stripChars z y)=V.str "")=z.cps.toList.all (λc=>y.cps.contains c):=by
 have e:Txt.stripChars z y=strSub z (stripLo (λc=>y.cps.contains c) true z) (stripHi (λc=>y.cps.contains c) true z (stripLo (λc=>y.cps.contains c) true z)):=PyProof.Rows.stripBy_eq _ true true z
 have h1:=PyProof.Rows.lo_facts (λc=>y.cps.contains c) z
 have h2:=PyProof.Rows.hi_facts (λc=>y.cps.contains c) z (stripLo (λc=>y.cps.contains c) true z) h1.1
 have hlo:stripLo (λc=>y.cps.contains c) true z=(z.cps.toList.takeWhile λc=>y.cps.contains c).length:=by simp [stripLo]
 have hz:z.length=z.cps.toList.length:=by simp [Str.length]
 (rw [Bool.eq_iff_iff,decide_eq_true_eq])
 constructor
 ·intro h
  have h0:(Txt.stripChars z y).cps.size=0:=by
   have:Txt.stripChars z y = "" :=by injection h
   rw [this];rfl
  rw [e] at h0
  have h3:stripHi (λc=>y.cps.contains c) true z (stripLo (λc=>y.cps.contains c) true z)<=stripLo (λc=>y.cps.contains c) true z:=by
   have h4:(Array.extract z.cps (stripLo (λc=>y.cps.contains c) true z) (stripHi (λc=>y.cps.contains c) true z (stripLo (λc=>y.cps.contains c) true z))).size=0:=h0
   rw [Array.size_extract] at h4
   have h5:=h2.2.1
   have h6:z.length=z.cps.size:=rfl
   lia
  rcases Nat.lt_or_ge (stripLo (λc=>y.cps.contains c) true z) z.length with hl | hl
  ·rcases h1.2.2 with q | q
   ·lia
   ·have:=h2.2.2.1 (stripLo (λc=>y.cps.contains c) true z) h3 hl
    rw [q] at this
    cases this
  ·have q:stripLo (λc=>y.cps.contains c) true z=z.length:=Nat.le_antisymm h1.1 hl
   rw [hlo,hz] at q
   exact takeWhile_all.mp q
 ·intro h
  have h3:=takeWhile_all.mpr h
  rw [<-hlo,<-hz] at h3
  have:Txt.stripChars z y = "" :=by
   rw [e,h3]
   refine str_ext ?_
   have h4:=h2.2.1
   refine List.eq_nil_of_length_eq_zero ?_
   show (Array.extract z.cps z.length _).toList.length=0
   rw [Array.length_toList,Array.size_extract]
   have h6:z.length=z.cps.size:=rfl
   lia
  rw [this]
end LG
namespace LG
open PySem L2 PySem.Builtin PySem.Builtin.Str PySem.StrLaws
def isB (l:List Nat) (i:Nat):Bool:=decide (l[i]? = some 32)
theorem count_ix:∀ l:List Nat,(List.range l.length).countP (isB l)=l.count 32
 | []=>rfl
 | a::r=>by
  rw [List.length_cons,List.range_succ_eq_map,List.countP_cons,List.countP_map,List.count_cons]
  have e:(isB (a::r) ∘ Nat.succ)=isB r:=by funext i;simp [isB]
  rw [e,count_ix r]
  have e2:isB (a::r) 0=(a == 32):=by rw [Bool.eq_iff_iff];simp [isB]
  rw [e2]
theorem sub_blank (z:Str) (i:Nat):subAt z " " i=isB z.cps.toList i:=by
 have h2:((" " : Str)).cps.toList=[32]:=by decide +kernel
 have h1:((" " : Str)).length=1:=rfl
 rw [subAt_eq,h1,h2]
 unfold isB
 cases e:z.cps.toList[i]? with
 | none=>
  rw [List.drop_of_length_le (List.getElem?_eq_none_iff.mp e)]
  decide
 | some c=>
  have hi:=ge_len e
  rw [List.drop_eq_getElem_cons hi]
  rw [List.getElem?_eq_getElem hi] at e
  cases e
  rw [Bool.eq_iff_iff]
  simp
theorem occ_many (z:Str) (limit:Nat) (hl:z.length<limit):∀ (m k:Nat) (st:Array Nat×Nat),k+m<=z.length+1->st.1.size<=k->st.2<=k ->
  st.1.size+(List.range' k m).countP (isB z.cps.toList)<=(forIn (List.range' k m) st (occBody z " " z.length limit)).run.1.size
 | 0,k,st,_,_,_=>by
  simp only [List.range'_zero,List.countP_nil,Nat.add_zero,List.forIn_nil]
  exact Nat.le_refl _
 | m+1,k,st,hk,hs,hf=>by
  have h1:((" " : Str)).length=1:=rfl
  rw [List.range'_succ,List.forIn_cons,List.countP_cons]
  unfold occBody
  by_cases hb:isB z.cps.toList k=true
  ·have hkl:k<z.length:=by
    have:z.cps.toList[k]? = some 32:=by simpa [isB] using hb
    have:=ge_len this
    simpa [Str.length] using this
   rw [if_pos hb,if_pos ⟨⟨⟨by lia,hf⟩,by rw [h1];lia⟩,by rw [sub_blank];exact hb⟩]
   have ih:=occ_many z limit hl m (k+1) (st.1.push k,k+((" " : Str)).length) (by lia) (by show (st.1.push k).size<=k+1;rw [Array.size_push];lia) (by show k+_<=k+1;rw [h1];exact Nat.le_refl _)
   have e:(st.1.push k,k+((" " : Str)).length).1.size=st.1.size+1:=by show (st.1.push k).size=_;rw [Array.size_push]
   rw [e] at ih
   refine Nat.le_trans ?_ ih
   lia
  ·rw [if_neg hb,if_neg (by rw [sub_blank];exact λh=>hb h.2)]
   have ih:=occ_many z limit hl m (k+1) (st.1,st.2) (by lia) (by show st.1.size<=_;lia) (by show st.2<=_;lia)
   exact ih
theorem occ_count (z:Str):z.cps.toList.count 32<=(occurrences z " " 0 z.length (z.length+1)).length:=by
 rw [occ_eq]
 have h:=occ_many z (z.length+1) (Nat.lt_succ_self _) (z.length+1) 0 (#[],0) (by lia) (by simp) (Nat.le_refl _)
 have e:(List.range' 0 (z.length+1)).countP (isB z.cps.toList)=z.cps.toList.count 32:=by
  rw [<-List.range_eq_range',List.range_succ,List.countP_append]
  have hz:z.length=z.cps.toList.length:=by simp [Str.length]
  have e2:isB z.cps.toList z.length=false:=by
   unfold isB
   rw [hz,List.getElem?_eq_none (Nat.le_refl _)]
   rfl
  rw [hz,count_ix,<-hz]
  simp [e2]
 rw [e] at h
 simp only [Array.length_toList]
 have h0:((#[]:Array Nat),0).1.size=0:=rfl
 rw [h0,Nat.zero_add] at h
 exact h
theorem split_size (z:Str):(Txt.split z " ").length=(occurrences z " " 0 z.length (z.length+1)).length+1\/(Txt.split z " " = [z]/\z.cps.toList.count 32=0):=by
 unfold Txt.split
 split
 ·rename_i h
  right
  refine ⟨rfl,?_⟩
  rw [Bool.or_eq_true,decide_eq_true_eq,decide_eq_true_eq] at h
  have h1:((" " : Str)).length=1:=rfl
  rcases h with h | h
  ·have hz:z.cps.toList=[]:=List.eq_nil_of_length_eq_zero (by rw [Array.length_toList];have:z.length=z.cps.size:=rfl;lia)
   rw [hz];rfl
  ·exfalso
   have e:PySem.Builtin.Str.strKind (" " : Str)=1:=by decide +kernel
   rw [e] at h
   unfold PySem.Builtin.Str.strKind at h
   split at h
   ·lia
   ·split at h <;> lia
 ·split
  ·rename_i h
   right
   refine ⟨rfl,?_⟩
   have:=occ_count z
   rw [List.isEmpty_iff.mp h] at this
   simpa using this
  ·left
   rw [length_partsBetween]
theorem count_join (ts:List Str) (hne:ts≠[]):(Str.join " " ts).cps.toList.count 32=(ts.map λt=>t.cps.toList.count 32).sum+(ts.length - 1):=by
 have h2:((" " : Str)).cps.toList=[32]:=by decide +kernel
 induction ts with
 | nil=>exact (hne rfl).elim
 | cons x r ih=>
  cases r with
  | nil=>show x.cps.toList.count 32=_;simp
  | cons y r=>
   have e:Str.join " " (x::y::r)=x ++ " " ++ Str.join " " (y::r):=rfl
   rw [e]
   have e2:(x++(" " : Str)++Str.join " " (y::r)).cps.toList=x.cps.toList++[32]++(Str.join " " (y::r)).cps.toList:=by
    rw [<-h2]
    (simp only [Str.cps_append,Array.toList_append])
   rw [e2,List.count_append,List.count_append,ih (by simp)]
   simp only [List.map_cons,List.sum_cons,List.length_cons,List.count_singleton_self]
   lia
theorem sum_zero:∀ {l:List Nat},l.sum=0->∀ x∈l,x=0
 | [],_,x,h=>by cases h
 | a::r,hs,x,h=>by
  simp only [List.sum_cons] at hs
  (rcases List.mem_cons.mp h with rfl | h)
  ·lia
  ·exact sum_zero (by lia) x h
theorem split_free (z:Str):∀ x∈Txt.split z " ",32∉x.cps.toList:=by
 intro x hx
 have hj:=StrLaws.join_split z " "
 have hne:Txt.split z " " ≠ []:=by intro e;rw [e] at hx;cases hx
 have hc:=count_join (Txt.split z " ") hne
 rw [hj] at hc
 rcases split_size z with h | h
 ·rw [h] at hc
  have h3:=occ_count z
  have h4:(List.map (λt:Str=>t.cps.toList.count 32) (Txt.split z " ")).sum=0:=by lia
  have h5:=sum_zero h4 (x.cps.toList.count 32) (List.mem_map.mpr ⟨x,hx,rfl⟩)
  exact List.count_eq_zero.mp h5
 ·rw [h.1] at hx
  simp only [List.mem_singleton] at hx
  subst hx
  exact List.count_eq_zero.mp h.2
theorem app_inj {a b c d:List Nat} (h:a++32::b=c++32::d) (ha:32∉a) (hc:32∉c):a=c/\b=d:=by
 induction a generalizing c with
 | nil=>
  cases c with
  | nil=>simp at h;exact ⟨rfl,h⟩
  | cons e c=>simp at h;exact (hc (by simp [<-h.1])).elim
 | cons e a ih=>
  cases c with
  | nil=>simp at h;exact (ha (by simp [h.1])).elim
  | cons e' c=>
   simp only [List.cons_append,List.cons.injEq] at h
   obtain ⟨h1,h2⟩:=ih h.2 (λq=>ha (List.mem_cons_of_mem _ q)) (λq=>hc (List.mem_cons_of_mem _ q))
   exact ⟨by rw [h.1,h1],h2⟩
theorem joinL (x y:Str) (r:List Str):(Str.join " " (x::y::r)).cps.toList=x.cps.toList++32::(Str.join " " (y::r)).cps.toList:=by
 have h2:((" " : Str)).cps.toList=[32]:=by decide +kernel
 have e:Str.join " " (x::y::r)=x ++ " " ++ Str.join " " (y::r):=rfl
 rw [e]
 simp only [Str.cps_append,Array.toList_append,h2,List.append_assoc,List.singleton_append]
theorem join_inj:∀ {ts us:List Str},ts≠[]->us≠[]->(∀ x∈ts,32∉x.cps.toList)->(∀ x∈us,32∉x.cps.toList)->(Str.join " " ts).cps.toList=(Str.join " " us).cps.toList->ts=us
 | [x],[y],_,_,_,_,h=>by rw [str_ext (x:=x) (y:=y) h]
 | [x],y::y2::r,_,_,hx,_,h=>by
  rw [joinL] at h
  have h:x.cps.toList=y.cps.toList++32::(Str.join " " (y2::r)).cps.toList:=h
  exact (hx x (by simp) (by rw [h];simp)).elim
 | x::x2::r,[y],_,_,_,hy,h=>by
  rw [joinL] at h
  have h:x.cps.toList++32::(Str.join " " (x2::r)).cps.toList=y.cps.toList:=h
  exact (hy y (by simp) (by rw [<-h];simp)).elim
 | x::x2::r,y::y2::q,_,_,hx,hy,h=>by
  rw [joinL,joinL] at h
  obtain ⟨h1,h2⟩:=app_inj h (hx x (by simp)) (hy y (by simp))
  have:=join_inj (ts:=x2::r) (us:=y2::q) (by simp) (by simp) (λz hz=>hx z (List.mem_cons_of_mem _ hz)) (λz hz=>hy z (List.mem_cons_of_mem _ hz)) h2
  rw [str_ext h1,this]
theorem split_join {ws:List Str} (hne:ws≠[]) (h:∀ x∈ws,32∉x.cps.toList):Txt.split (Txt.join " " ws) " " = ws:=by
 have e:Txt.join " " ws=Str.join " " ws:=StrLaws.glued_eq_join " " ws
 have hj:=StrLaws.join_split (Txt.join " " ws) " "
 refine join_inj ?_ hne (split_free _) h ?_
 ·intro e
  have:=(L2.split_len1 (z:=Txt.join " " ws) (y:= " ")).1
  rw [e] at this
  exact absurd this (by decide)
 ·rw [hj,e]
end LG
namespace LG
open PySem L2 PySem.Builtin PySem.Builtin.Str
theorem has_range (y:Str) (p:Nat->Bool) (h1:∀ c<200,y.cps.contains c=p c) (h2:∀ x∈y.cps.toList,x<200) (h3:∀ c,200<=c->p c=false):(λc=>y.cps.contains c)=p:=by
 funext c
 rcases Nat.lt_or_ge c 200 with h | h
 ·exact h1 c h
 ·rw [h3 c h]
  rw [Bool.eq_false_iff]
  intro q
  have:=h2 c (by simpa using q)
  lia
theorem sgn_far (c:Nat) (h:200<=c):sgn c=false:=by unfold sgn;rw [decide_eq_false (show ¬ c<=126 by lia)];simp
@[irreducible] def FIGS:Str:= "0123456789"
@[irreducible] def LOWS:Str:= "abcdefghijklmnopqrstuvwxyz"
@[irreducible] def SIGNS:Str:= "!\"#$&'()*+,-./0123456789:;<=>?@ABCDEFGHIJKLMNOPQRSTUVWXYZ[\\]^_`abcdefghijklmnopqrstuvwxyz{|}~"
theorem FIGS_is:FIGS = "0123456789" :=by unfold FIGS;rfl
theorem SIGNS_is:SIGNS = "!\"#$&'()*+,-./0123456789:;<=>?@ABCDEFGHIJKLMNOPQRSTUVWXYZ[\\]^_`abcdefghijklmnopqrstuvwxyz{|}~" :=by unfold SIGNS;rfl
theorem has_signs:(λc=>SIGNS.cps.contains c)=sgn:=has_range _ _ (by decide +kernel) (by decide +kernel) sgn_far
theorem dec_nil (z:Str):decide (V.str z=V.str "")=z.cps.toList.isEmpty:=by
 rw [Bool.eq_iff_iff,decide_eq_true_eq,List.isEmpty_iff]
 constructor
 ·intro h
  have:z = "" :=by injection h
  rw [this];rfl
 ·intro h
  have:z = "" :=str_ext (by rw [h];rfl)
  rw [this]
theorem only_eq (z y:Str):((!decide (V.str z=V.str "")) && decide (V.str (Txt.stripChars z y)=V.str ""))=onlyB (λc=>y.cps.contains c) z.cps.toList:=by
 rw [dec_nil,strip_nil]
 rfl
def lawKindL (l:List Nat):Nat:=if onlyB dig (unminus l)=true then 0 else if l.all low=true then 1 else 2
theorem pick_all (z:Str):∀ (n a:Nat),a+n<=z.cps.toList.length->((List.range n).map λk=>a+k).filterMap (λi=>z.cps[i]?)=(z.cps.toList.drop a).take n
 | 0,a,_=>by simp
 | n+1,a,h=>by
  rw [List.range_succ,List.map_append,List.filterMap_append,pick_all z n a (by lia)]
  have ha:a+n<z.cps.toList.length:=by lia
  have e:z.cps[a+n]? = some (z.cps.toList[a+n]):=by
   rw [<-Array.getElem?_toList,List.getElem?_eq_getElem ha]
  simp only [List.map_cons,List.map_nil,List.filterMap_cons,e,List.filterMap_nil]
  rw [List.take_succ,List.getElem?_drop,List.getElem?_eq_getElem ha]
  rfl
theorem slice_idx (z:Str) {l u:Option Int}{a n:Nat} (h:strSliceIndices l u 1 z.length=(List.range n).map λk=>a+k) (hn:a+n<=z.length):(Txt.slice z l u).cps.toList=(z.cps.toList.drop a).take n:=by
 have hz:z.length=z.cps.toList.length:=by simp [Str.length]
 unfold Txt.slice
 rw [h]
 split
 ·rename_i hc
  have hc':n=z.length:=by simpa using hc
  have ha:a=0:=by lia
  subst ha
  rw [List.drop_zero,List.take_of_length_le (by lia)]
 ·show (List.toArray _).toList=_
  rw [List.toList_toArray]
  exact pick_all z n a (by lia)
theorem slice_head (z:Str):(Txt.slice z none (some 1)).cps.toList=z.cps.toList.take 1:=by
 have hz:z.length=z.cps.toList.length:=by simp [Str.length]
 have h:strSliceIndices none (some 1) 1 z.length=(List.range (min 1 z.length)).map λk=>0+k:=by
  (unfold strSliceIndices sliceRange)
  simp only [show (1:Int) > 0 by decide,if_true,show ¬ (1:Int)<0 by decide,if_false]
  have e:(if (0:Int)<max 0 (min 1 (z.length:Int)) then (max 0 (min 1 (z.length:Int)) - 0+1 - 1) / 1 else 0).toNat=min 1 z.length:=by
   split <;> lia
  rw [e]
  (refine List.map_congr_left λk _=>?_)
  lia
 rw [slice_idx z h (by lia),List.drop_zero]
 rcases Nat.eq_zero_or_pos z.length with q | q
 ·have:z.cps.toList=[]:=List.eq_nil_of_length_eq_zero (by lia)
  rw [this];simp
 ·rw [Nat.min_eq_left q]
theorem slice_tail (z:Str):(Txt.slice z (some 1) none).cps.toList=z.cps.toList.drop 1:=by
 have hz:z.length=z.cps.toList.length:=by simp [Str.length]
 have h:strSliceIndices (some 1) none 1 z.length=(List.range (z.length - 1)).map λk=>min 1 z.length+k:=by
  (unfold strSliceIndices sliceRange)
  simp only [show (1:Int) > 0 by decide,if_true,show ¬ (1:Int)<0 by decide,if_false]
  have e:(if max 0 (min 1 (z.length:Int))<(z.length:Int) then ((z.length:Int) - max 0 (min 1 (z.length:Int))+1 - 1) / 1 else 0).toNat=z.length - 1:=by
   split <;> lia
  rw [e]
  refine List.map_congr_left λk hk=>?_
  have:=List.mem_range.mp hk
  lia
 rw [slice_idx z h (by lia)]
 rcases Nat.eq_zero_or_pos z.length with q | q
 ·have:z.cps.toList=[]:=List.eq_nil_of_length_eq_zero (by lia)
  rw [this];simp
 ·rw [Nat.min_eq_left q,List.take_of_length_le (by rw [List.length_drop];lia)]
theorem dash_head (z:Str):decide (V.str (Txt.slice z none (some 1))=V.str "-")=decide (z.cps.toList.head? = some 45):=by
 have h2:(("-" : Str)).cps.toList=[45]:=by decide +kernel
 (rw [Bool.eq_iff_iff,decide_eq_true_eq,decide_eq_true_eq])
 constructor
 ·intro h
  have e:Txt.slice z none (some 1) = "-" :=by injection h
  have e2:=slice_head z
  rw [e,h2] at e2
  cases q:z.cps.toList with
  | nil=>rw [q] at e2;simp at e2
  | cons a r=>rw [q] at e2;simp at e2;simp [e2]
 ·intro h
  have e:Txt.slice z none (some 1) = "-" :=by
   refine str_ext ?_
   rw [slice_head,h2]
   cases q:z.cps.toList with
   | nil=>rw [q] at h;simp at h
   | cons a r=>rw [q] at h;simp at h;simp [h]
  rw [e]
theorem unminus_yes {l:List Nat} (h:l.head? = some 45):l.drop 1=unminus l:=by
 cases l with
 | nil=>simp at h
 | cons a r=>simp at h;subst h;rfl
theorem unminus_no {l:List Nat} (h:l.head? ≠ some 45):l=unminus l:=by
 cases l with
 | nil=>rfl
 | cons a r=>
  unfold unminus
  split
  ·rename_i q;cases q;exact (h rfl).elim
  ·rfl
theorem lt1 (a b:Nat):decide ([a] < [b])=decide (a<b):=by
 (rw [Bool.eq_iff_iff,decide_eq_true_eq,decide_eq_true_eq])
 constructor
 ·intro h
  cases h with
  | rel h=>exact h
  | cons h=>cases h
 ·intro h
  exact List.Lex.rel h
end LG
namespace LG
open PySem L2 PySem.Builtin PySem.Builtin.Str
theorem le1 (a b:Nat):(!decide (([b]:List Nat) < [a]))=decide (a<=b):=by
 rw [lt1]
 by_cases h:b<a
 ·rw [decide_eq_true h,decide_eq_false (by lia)];rfl
 ·rw [decide_eq_false h,decide_eq_true (by lia)];rfl
theorem not_betweenX {a b:Str}{lo hi c:Nat} (ha:a=⟨#[lo]⟩) (hb:b=⟨#[hi]⟩) {H2:Hp}{R:Bool->Hp->Prop} (h:R (!(decide (lo<=c) && decide (c<=hi))) H2) :
  tNot (tTest (tChain (λx y H Q=>∃ i j,x = .str i/\y = .str j/\Q (.bl (!decide (j.cps.toList<i.cps.toList))) H) (λx y H Q=>∃ i j,x = .str i/\y = .str j/\Q (.bl (!decide (j.cps.toList<i.cps.toList))) H) (tC (.str a)) (tVar 0) (tC (.str b)))) [some (.str ⟨#[c]⟩)] H2 R:=by
 subst ha hb
 refine ⟨_,rfl,_,_,rfl,rfl,_,rfl,?_⟩
 have e1:(!decide ((⟨#[c]⟩:Str).cps.toList<(⟨#[lo]⟩:Str).cps.toList))=decide (lo<=c):=le1 lo c
 rw [e1]
 by_cases h1:lo<=c
 ·rw [decide_eq_true h1] at h ⊢
  rw [if_pos rfl]
  refine ⟨_,_,rfl,rfl,_,rfl,?_⟩
  have e2:(!decide ((⟨#[hi]⟩:Str).cps.toList<(⟨#[c]⟩:Str).cps.toList))=decide (c<=hi):=le1 c hi
  rw [e2]
  rw [Bool.true_and] at h
  exact h
 ·rw [decide_eq_false h1] at h ⊢
  rw [if_neg Bool.false_ne_true]
  refine ⟨_,rfl,?_⟩
  rw [Bool.false_and] at h
  exact h
def sg (c:Nat):Str:=⟨#[c]⟩
section
variable {K:PySem.W.Frag}{tt:TT}{D:Addr}{Q:VK}{H:Hp}
theorem comp_signsX {z:Str} (f:Nat->Bool) (hz:PyData.strOk z=true) (hl:z.length<=1000000) (hD:H D=none) (ht:∀ (c:Nat) (H2:Hp) (R:Bool->Hp->Prop),R (f c) H2->tt [some (.str ⟨#[c]⟩)] H2 R)
  (hq:∀ (H2:Hp),Same H H2->H2 D=some (.lst (((z.cps.toList.filter f).map sg).map V.str))->Q (.ref D) H2) :
  CompW (gName 0) tt (tVar 0) (Its z) D Q [none] (upd H D (.lst [])):=by
 have hzl:z.length=z.cps.toList.length:=by simp [Str.length]
 refine comp_str (λi acc σ H2=>(∃ u,σ=[u])/\Same H H2/\acc=((((z.cps.toList.take i).filter f).map sg).map V.str)) upd_same ⟨⟨_,rfl⟩,Same.new hD,rfl⟩ (λi c acc σ H2 hc hDx p=>?_) (λacc σ H2 hDx p=>?_)
 ·obtain ⟨⟨u,rfl⟩,s2,rfl⟩:=p
  have hc':z.cps.toList[i]? = some c:=by rw [Array.getElem?_toList];exact hc
  have hi:i<z.cps.toList.length:=ge_len hc'
  have et:z.cps.toList.take (i+1)=z.cps.toList.take i++[c]:=by rw [List.take_add_one,hc'];rfl
  have hlen:((((z.cps.toList.take i).filter f).map sg).map V.str).length<=i:=by
   simp only [List.length_map]
   exact Nat.le_trans (List.length_filter_le _ _) (by rw [List.length_take];lia)
  show tt [some (.str ⟨#[c]⟩)] H2 _
  refine ht _ _ _ ?_
  cases hf:f c with
  | true=>
   refine iteT ?_
   refine ⟨_,rfl,_,hDx,small (by lia),_,upd_same,⟨_,rfl⟩,snap_upd hD s2,?_⟩
   rw [et,List.filter_append,List.map_append,List.map_append]
   simp [hf,sg]
  | false=>
   refine iteF ⟨_,hDx,⟨_,rfl⟩,s2,?_⟩
   rw [et,List.filter_append]
   simp [hf]
 ·obtain ⟨_,s2,rfl⟩:=p
  rw [List.take_of_length_le (by lia)] at hDx
  exact hq H2 s2 hDx
theorem ok_sg {z:Str} (hz:PyData.strOk z=true) {f:Nat->Bool}:∀ x∈(z.cps.toList.filter f).map sg,PyData.strOk x=true:=λx hx=>by
 obtain ⟨c,hc,rfl⟩:=List.mem_map.mp hx
 have:=mem_of_ok hz c (by simpa using (List.mem_filter.mp hc).1)
 exact ok_of_mem λd hd=>by simp [sg] at hd;lia
theorem no_signsX {σ:St}{i:Nat}{z:Str}{R:Bool->Hp->Prop} (f:Nat->Bool) (hs:σ[i]? = some (some (.str z))) (hz:PyData.strOk z=true) (hl:z.length<=1000000) (ht:∀ (c:Nat) (H2:Hp) (R:Bool->Hp->Prop),R (f c) H2->tt [some (.str ⟨#[c]⟩)] H2 R)
  (h:∀ H',Same H H'->R (z.cps.toList.all λc=>!f c) H'):tTest (tOp (rEqD K) (tComp (iStr (tVar i)) (gName 0) tt (tVar 0) 1 []) (tLst tNil)) σ H R:=by
 refine ⟨_,hs,z,rfl,λD hD=>?_⟩
 refine comp_signsX f hz hl hD ht λH2 s2 hD2=>?_
 refine ⟨Nat.zero_le _,λp hp=>?_⟩
 refine ⟨.list (((z.cps.toList.filter f).map sg).map .str),.list [],.lst (.of (by rw [upd_ne (ne_of_none hD2 hp)];exact hD2)) (dens_strs (ok_sg hz)),.lst (.of upd_same) .nil,?_,_,rfl,?_⟩
 ·have:PyData.depthAll (((z.cps.toList.filter f).map sg).map PyData.str)<=0:=depthAll_le _ λd hd=>by
   obtain ⟨x,_,rfl⟩:=List.mem_map.mp hd
   exact Nat.le_refl _
  show PyData.depthAll _+1<=100
  lia
 ·have e:PyData.eqv (.list (((z.cps.toList.filter f).map sg).map .str)) (.list [])=z.cps.toList.all λc=>!f c:=by
   have:PyData.eqv (.list (((z.cps.toList.filter f).map sg).map .str)) (.list [])=(z.cps.toList.filter f).isEmpty:=by
    cases z.cps.toList.filter f with
    | nil=>rfl
    | cons a r=>rfl
   rw [this,Bool.eq_iff_iff,List.isEmpty_iff,List.filter_eq_nil_iff,List.all_eq_true]
   simp
  rw [e]
  exact h _ (s2.trans (Same.new hp))
end
inductive Pt where
 | word (w:Str)
 | hole (k:Nat)
 deriving DecidableEq
def Pt.dat:Pt->PyData
 | .word w=>.tuple [.str "word",.str w]
 | .hole k=>.tuple [.str "hole",.str (kindS k)]
def TOk (w:Str):Prop:=w.length<=10000/\PyData.strOk w=true
def Pt.ok:Pt->Prop
 | .word w=>TOk w
 | .hole k=>k<3
def patD (ps:List Pt):PyData:=.list (ps.map Pt.dat)
def POk (ps:List Pt):Prop:=ps.length<=10000/\∀ p∈ps,p.ok
def Pt.takes:Pt->Str->Bool
 | .word x,w=>decide (w=x)
 | .hole 0,w=>decide (kindT w=0)
 | .hole 1,w=>decide (kindT w=1)
 | .hole _,w=>wordB w
def takesAll (ps:List Pt) (ws:List Str):Bool:=decide (ps.length=ws.length) && (ps.zip ws).all λp=>p.1.takes p.2
def Pt.within:Pt->Pt->Bool
 | .word x,q=>q.takes x
 | .hole k,q=>decide (q = .hole k) || decide (q = .hole 2)
def withinAll (ps qs:List Pt):Bool:=decide (ps.length=qs.length) && (ps.zip qs).all λp=>p.1.within p.2
def Pt.loose:Pt->Int
 | .word _=>0
 | .hole 0=>1
 | .hole 1=>1
 | .hole _=>2
def Pt.around:Pt->Nat
 | .word w=>kindT w
 | .hole k=>k
def joinP (ps:List Pt):Pt:=match ps with
 | []=>.hole 2
 | p::r=>if r.all (λq=>decide (q=p))=true then p else if r.all (λq=>decide (q.around=p.around))=true then .hole p.around else .hole 2
theorem den_strI {K:PySem.W.Frag}{H:Hp}{v:V}{x:Str} (h:Den K H v (.str x)):v = .str x/\PyData.strOk x=true:=by
 cases h with
 | str q=>exact ⟨rfl,q⟩
theorem den_two {K:PySem.W.Frag}{H:Hp}{v:V}{x y:Str} (h:Den K H v (.tuple [.str x,.str y])):∃ a,v = .ref a/\SqT K H a [.str x,.str y]/\PyData.strOk x=true/\PyData.strOk y=true:=by
 cases h with
 | tup hq t=>
  cases t with
  | cons h1 t=>cases t with
   | cons h2 t=>
    cases t
    obtain ⟨rfl,q1⟩:=den_strI h1
    obtain ⟨rfl,q2⟩:=den_strI h2
    exact ⟨_,rfl,hq,q1,q2⟩
theorem den_pt {K:PySem.W.Frag}{H:Hp}{v:V}{pt:Pt} (h:Den K H v pt.dat):∃ a x y,v = .ref a/\SqT K H a [.str x,.str y]/\PyData.strOk x=true/\PyData.strOk y=true/\(match pt with | .word w=>x = "word" /\ y=w | .hole k=>x = "hole" /\ y=kindS k):=by
 cases pt with
 | word w=>obtain ⟨a,rfl,hq,q1,q2⟩:=den_two h;exact ⟨a,_,_,rfl,hq,q1,q2,rfl,rfl⟩
 | hole k=>obtain ⟨a,rfl,hq,q1,q2⟩:=den_two h;exact ⟨a,_,_,rfl,hq,q1,q2,rfl,rfl⟩
theorem den_pat {K:PySem.W.Frag}{H:Hp}{v:V}{ps:List Pt} (h:Den K H v (patD ps)):∃ a xs,v = .ref a/\SqL K H a xs/\Dens K H xs (ps.map Pt.dat):=by
 cases h with
 | lst hq t=>exact ⟨_,_,rfl,hq,t⟩
end LG
namespace LG
open PySem L2 PySem.Builtin PySem.Builtin.Str
def LOk (w:Str):Prop:=w.length<=10000
theorem LOk.s {w:Str} (h:LOk w):w.length<=sizeLine:=Nat.le_trans h (by decide)
def sp_has_only (K:PySem.W.Frag):Sp:=λvs H Q _=>∃ z y:Str,vs=[.str z,.str y]/\LOk z/\Q (.bl (onlyB (λc=>y.cps.contains c) z.cps.toList)) H
def sp_is_word (K:PySem.W.Frag):Sp:=λvs H Q _=>∃ z:Str,vs=[.str z]/\LOk z/\Q (.bl (wordB z)) H
def sp_is_hole (K:PySem.W.Frag):Sp:=λvs H Q _=>∃ v pt,vs=[v]/\Den K H v (Pt.dat pt)/\Q (.bl (match pt with | .hole _=>true | _=>false)) H
theorem dens_pt {K:PySem.W.Frag}{H:Hp}{xs:List V}{ps:List Pt}{i:Nat}{x:V} (h:Dens K H xs (ps.map Pt.dat)) (hx:xs[i]? = some x):∃ p,ps[i]? = some p/\Den K H x p.dat:=by
 obtain ⟨d,hd,hden⟩:=h.get hx
 rw [List.getElem?_map] at hd
 cases e:ps[i]? with
 | none=>rw [e] at hd;cases hd
 | some p=>rw [e] at hd;cases hd;exact ⟨p,rfl,hden⟩
theorem strs_at {ws:List Str}{i:Nat}{y:V} (h:(ws.map V.str)[i]? = some y):∃ w,ws[i]? = some w/\y = .str w:=by
 rw [List.getElem?_map] at h
 cases e:ws[i]? with
 | none=>rw [e] at h;cases h
 | some w=>rw [e] at h;cases h;exact ⟨w,rfl,rfl⟩
def joinAll (pss:List (List Pt)) (n:Nat):List Pt:=(List.range n).map λi=>joinP (pss.map λps=>ps.getD i (.hole 2))
end LG
namespace LG
open PySem L2
def Pt.key:Pt->PyData
 | .word w=>.tuple [.int 0,.int w.length,.str w]
 | .hole k=>.tuple [.int 1,.int k,.str ""]
def keyD (ps:List Pt):PyData:=.tuple [.int ps.length,.list (ps.map Pt.key)]
def KOrd (l:List (List Pt)):Prop:=l.Pairwise λa b=>ltv (keyD b) (keyD a)=false
end LG
namespace LG
open PySem L2
def looseD (ps:List Pt):PyData:=.list (ps.map λp=>.int p.loose)
def Least (l:List (List Pt)) (ps:List Pt):Prop:=ps∈l/\∀ q∈l,ltv (looseD q) (looseD ps)=false/\(looseD q=looseD ps->ltv (keyD q) (keyD ps)=false)
def fitsB (z:Str) (ps:List Pt):Bool:=takesAll ps (Txt.split z " ")
end LG
namespace LG
open PySem L2 PySem.Builtin PySem.Builtin.Str
def Dk (H:Hp) (d:Addr) (n:Nat):Prop:=∃ a b c:Int,H d=some (.lst [.int a,.int b,.int c])/\0<=a/\0<=b/\b<2147483579/\0<=c/\c<=n
theorem Dk.mono {H:Hp}{d:Addr}{n m:Nat} (h:Dk H d n) (hm:n<=m):Dk H d m:=by
 obtain ⟨a,b,c,h1,h2,h3,h4,h5,h6⟩:=h
 exact ⟨a,b,c,h1,h2,h3,h4,h5,by lia⟩
theorem Dk.lst {H:Hp}{d:Addr}{n:Nat} (h:Dk H d n):∃ ys,H d=some (.lst ys):=by
 obtain ⟨a,b,c,h1,_⟩:=h
 exact ⟨_,h1⟩
theorem Dk.same {H H':Hp}{d:Addr}{n:Nat} (h:Dk H d n) (s:Same H H'):Dk H' d n:=by
 obtain ⟨a,b,c,h1,h2⟩:=h
 exact ⟨a,b,c,s _ _ h1,h2⟩
theorem Dk.upd {H:Hp}{d D:Addr}{n:Nat}{o:HO} (h:Dk H d n) (hne:d≠D):Dk (upd H D o) d n:=by
 obtain ⟨a,b,c,h1,h2⟩:=h
 exact ⟨a,b,c,by rw [upd_ne hne];exact h1,h2⟩
theorem Dk.ne {H:Hp}{d p:Addr}{n:Nat} (h:Dk H d n) (hp:H p=none):d≠p:=by
 obtain ⟨ys,h1⟩:=h.lst
 exact ne_of_none h1 hp
theorem keepN {H H':Hp}{d p:Addr}{o:HO} (s:Same (wo d H) H') (h:H p=some o) (hne:d≠p):H' p=some o:=s p o (by rw [wo_at (Ne.symm hne)];exact h)
theorem at_strs {l:List Str}{r:Int} (h0:0<=r) (h1:r<l.length):∃ x∈l,atI (l.map V.str) r=some (.str x):=by
 obtain ⟨j,rfl⟩:=Int.eq_ofNat_of_zero_le (h0:(0:Int)<=r)
 have hj:j<l.length:=by lia
 exact ⟨l[j],List.getElem_mem hj,atI_nat (by rw [List.getElem?_map,List.getElem?_eq_getElem hj];rfl)⟩
theorem at_sign {z:Str}{r:Int} (h0:0<=r) (h1:r<z.length):∃ (c i:Nat),atI z.cps.toList r=some c/\z.cps[i]? = some c:=by
 obtain ⟨j,rfl⟩:=Int.eq_ofNat_of_zero_le (h0:(0:Int)<=r)
 have hj:j<z.cps.size:=by have:z.length=z.cps.size:=rfl;lia
 exact ⟨z.cps[j],j,atI_nat (by rw [Array.getElem?_toList,Array.getElem?_eq_getElem hj]),Array.getElem?_eq_getElem hj⟩
theorem ixN_in {n:Nat}{i:Int} (h0:0<=i) (h1:i<n):ixN n i=some i.toNat:=by
 unfold ixN
 rw [if_pos h0,if_pos h1]
theorem cut_take {xs:List V}{i:Int} (h:0<=i):cutV xs none (some i)=xs.take i.toNat:=by
 unfold cutV
 have h1:HT.sIx xs.length 0 none=0:=by simp [HT.sIx]
 rw [h1]
 obtain ⟨j,rfl⟩:=Int.eq_ofNat_of_zero_le (h:(0:Int)<=i)
 rw [HT.sIx_nat,Int.toNat_natCast,List.drop_zero,Nat.sub_zero]
 rcases Nat.le_total j xs.length with q | q
 ·rw [Nat.min_eq_left q]
 ·rw [Nat.min_eq_right q,List.take_of_length_le (Nat.le_refl _),List.take_of_length_le q]
structure WOk (w:Str):Prop where
 word:wordB w=true
 len:w.length<=6
 ok:PyData.strOk w=true
theorem sgn_no32:sgn 32=false:=by decide
theorem WOk.blank {w:Str} (h:WOk w):32∉w.cps.toList:=λq=>by
 have h1:=h.word
 unfold wordB onlyB at h1
 rw [Bool.and_eq_true,List.all_eq_true] at h1
 have:=h1.2 32 q
 rw [sgn_no32] at this
 cases this
def words1:List Str:=["get","put","a"]
def words2:List Str:=["0","7","12","-3","007"]
def words3:List Str:=["id=4","<any>","=","x1","-","A","<","none"]
def words4:List Str:=["abcdefghijklmnopqrstuvwxyz","0123456789","-09az","!\"#$&'()*+,-./:;<=>?@AZ[\\]^_{|}~"]
theorem w1:∀ x∈words1,wordB x=true/\x.length<=6/\PyData.strOk x=true:=by decide +kernel
theorem w2:∀ x∈words2,wordB x=true/\x.length<=6/\PyData.strOk x=true:=by decide +kernel
theorem w3:∀ x∈words3,wordB x=true/\x.length<=6/\PyData.strOk x=true:=by decide +kernel
theorem w4:∀ x∈words4,PyData.strOk x=true/\x.length<=100/\0<x.length/\x.cps.toList.all sgn=true:=by decide +kernel
theorem glue_p {p:Nat->Prop}{y:Str} (hy:∀ c∈y.cps,p c):∀ (xs:List Str) (acc:Array Nat),(∀ x∈xs,∀ c∈x.cps,p c)->(∀ c∈acc,p c)->(∀ c∈xs.foldl (λacc q=>acc++y.cps++q.cps) acc,p c)/\acc.size<=(xs.foldl (λacc q=>acc++y.cps++q.cps) acc).size
 | [],acc,_,h=>⟨h,Nat.le_refl _⟩
 | x::r,acc,hx,h=>by
  have ih:=glue_p hy r (acc++y.cps++x.cps) (λz hz=>hx z (List.mem_cons_of_mem _ hz)) λc hc=>by
   rcases Array.mem_append.mp hc with hc | hc
   ·rcases Array.mem_append.mp hc with hc | hc
    ·exact h c hc
    ·exact hy c hc
   ·exact hx x (List.mem_cons_self ..) c hc
  refine ⟨ih.1,Nat.le_trans ?_ ih.2⟩
  rw [Array.size_append,Array.size_append]
  lia
theorem join_word {l:List Str} (hn:1<=l.length) (hl:l.length<=4) (h:∀ y∈l,PyData.strOk y=true/\y.length<=1/\∃ c,y=⟨#[c]⟩/\sgn c=true):WOk (Txt.join "" l):=by
 have hj:=ok_join (y:= "") (m:=1) (by decide +kernel) (λy hy=>⟨(h y hy).1,(h y hy).2.1⟩)
 have h0:(("" : Str)).length=0:=rfl
 rw [h0] at hj
 refine ⟨?_,by lia,hj.1⟩
 cases l with
 | nil=>simp at hn
 | cons x r=>
  have hx:=h x (List.mem_cons_self ..)
  obtain ⟨c,hxc,hsc⟩:=hx.2.2
  have hp:=glue_p (p:=λc=>sgn c=true) (y:= "") (λc hc=>by rw [show (Str.ofString "").cps = #[] from rfl] at hc;simp at hc) r x.cps (λy hy c hc=>by
   obtain ⟨c',rfl,h'⟩:=(h y (List.mem_cons_of_mem _ hy)).2.2
   simp at hc
   subst hc
   exact h') (λc hc=>by
   subst hxc
   simp at hc
   subst hc
   exact hsc)
  have e:(Txt.join "" (x::r)).cps=r.foldl (λacc q=>acc++(("" : Str)).cps++q.cps) x.cps:=rfl
  unfold wordB onlyB
  rw [e,Bool.and_eq_true]
  constructor
  ·have hs:1<=(r.foldl (λacc q=>acc++(("" : Str)).cps++q.cps) x.cps).size:=Nat.le_trans (by subst hxc;simp) hp.2
   cases q:(r.foldl (λacc q=>acc++(("" : Str)).cps++q.cps) x.cps).toList with
   | nil=>rw [<-Array.length_toList,q] at hs;simp at hs
   | cons a b=>rfl
  ·rw [List.all_eq_true]
   intro c hc
   exact hp.1 c (by simpa using hc)
def sp__law_pick (K:PySem.W.Frag):Sp:=λvs H Q _=>∃ (d:Addr) (m:Int) (n:Nat),vs=[.ref d,.int m]/\Dk H d n/\n<1000000/\0<m/\m<1000000/\∀ (r:Int) H',Same (wo d H) H'->Dk H' d (n+1)->0<=r->r<m->Q (.int r) H'
def sp__law_kind (K:PySem.W.Frag):Sp:=λvs H Q _=>∃ z:Str,vs=[.str z]/\TOk z/\∀ H',Same H H'->Q (.str (kindW (lawKindL z.cps.toList))) H'
def sp__law_word (K:PySem.W.Frag):Sp:=λvs H Q _=>∃ (d:Addr) (n:Nat),vs=[.ref d]/\Dk H d n/\n<900000/\∀ (x:Str) H',Same (wo d H) H'->Dk H' d (n+6)->WOk x->Q (.str x) H'
structure LnOk (m:Nat) (x:Str) (ws:List Str):Prop where
 eq:x=Txt.join " " ws
 pos:1<=ws.length
 le:ws.length<=m
 wd:∀ w∈ws,WOk w
theorem LnOk.split {m:Nat}{x:Str}{ws:List Str} (h:LnOk m x ws):Txt.split x " " = ws:=by
 rw [h.eq]
 exact split_join (by intro e;have:=h.pos;rw [e] at this;simp at this) λw hw=>(h.wd w hw).blank
theorem LnOk.ok {m:Nat}{x:Str}{ws:List Str} (h:LnOk m x ws) (hm:m<=12):PyData.strOk x=true/\x.length<=84:=by
 have hj:=ok_join (y:= " ") (m:=6) (by decide +kernel) (λy hy=>⟨(h.wd y hy).ok,(h.wd y hy).len⟩)
 have h1:((" " : Str)).length=1:=rfl
 rw [h1,<-h.eq] at hj
 have:=h.le
 exact ⟨hj.1,by lia⟩
def sp__law_line (K:PySem.W.Frag):Sp:=λvs H Q _=>∃ (d:Addr) (m:Int) (n:Nat),vs=[.ref d,.int m]/\Dk H d n/\n<800000/\0<m/\m<13/\∀ (x:Str) (ws:List Str) H',Same (wo d H) H'->Dk H' d (n+80)->LnOk m.toNat x ws->Q (.str x) H'
def Drawn (w:Str) (p:Pt):Prop:=p = .word w\/(p = .hole (lawKindL w.cps.toList)/\lawKindL w.cps.toList<2)\/p = .hole 2
def DrawnAll (ws:List Str) (ps:List Pt):Prop:=ps.length=ws.length/\∀ (i:Nat) w p,ws[i]? = some w->ps[i]? = some p->Drawn w p
def sp__law_pattern (K:PySem.W.Frag):Sp:=λvs H Q _=>∃ (d:Addr) (z:Str) (n:Nat),vs=[.ref d,.str z]/\Dk H d n/\n<800000/\z.length<=9000/\PyData.strOk z=true /\
 ∀ F H' ps,H F=none->Same (wo d H) H'->Dk H' d (n+(z.length+2))->POk ps->DrawnAll (Txt.split z " ") ps->(∃ ys,H' F=some (.lst ys))->Den K (lim H H') (.ref F) (patD ps)->Q (.ref F) H'
end LG
namespace LG
open PySem L2
theorem lawKind_lt (l:List Nat):lawKindL l<3:=by
 unfold lawKindL
 split
 ·decide
 ·split <;> decide
theorem law_other {k:Nat} (hk:k<3):decide (V.str (kindW k)=V.str "other")=decide (k=2):=by
 match k,hk with
 | 0,_=>decide +kernel
 | 1,_=>decide +kernel
 | 2,_=>decide +kernel
theorem kindW_S {k:Nat} (hk:k<2):kindW k=kindS k:=by
 match k,hk with
 | 0,_=>rfl
 | 1,_=>rfl
end LG
namespace LG
open PySem L2
structure WsOk (ws:List Str):Prop where
 pos:1<=ws.length
 le:ws.length<=12
 wd:∀ w∈ws,WOk w
end LG
namespace LG
open PySem L2
structure FitsW (ws:List Str) (ps:List Pt):Prop where
 ok:POk ps
 len:ps.length=ws.length
 takes:∀ (i:Nat) w p,ws[i]? = some w->ps[i]? = some p->p.takes w=true
end LG
namespace LG
open PySem L2
section
variable {K:PySem.W.Frag}{H0 H H':Hp}{d S:Addr}{ws:List Str}{n n' m:Nat}{xs:List V}{pss:List (List Pt)}
end
end LG
namespace LG
open PySem L2
def sp_law (K:PySem.W.Frag):Sp:=λvs H Q _=>∃ (a:Addr) (ns:List Int),vs=[.ref a]/\SqL K H a (ns.map V.int)/\ns.length<=63/\∀ H',Q (.bl true) H'
structure FallsO (l:List (List Pt)) (o:Option (List Pt)):Prop where
 nil:o=none↔l=[]
 least:∀ ps,o=some ps->Least l ps
end LG
namespace LG
open PySem L2 PySem.Builtin PySem.Builtin.Str
def PtW:Pt->Prop
 | .word w=>wordB w=true/\w.length<=500/\PyData.strOk w=true
 | .hole k=>k<3
def PW (ps:List Pt):Prop:=∀ p∈ps,PtW p
def Words (ws:List Str):Prop:=∀ w∈ws,wordB w=true
def knows (pss:List (List Pt)) (ws:List Str):Bool:=pss.any λps=>takesAll ps ws
def needless (ps:List Pt) (oss:List (List Pt)):Bool:=oss.any λos=>withinAll ps os
def rep (c n:Nat):Str:=⟨(List.replicate (n+1) c).toArray⟩
def startsW (w:Str):List Pt->Bool
 | []=>false
 | p::_=>p.takes w
def behindP (oss:List (List Pt)) (w:Str):List (List Pt):=(oss.filter (startsW w)).map List.tail
end LG
namespace LG
open PySem L2 PySem.Builtin PySem.Builtin.Str
def wkD (w:Str):PyData:=.tuple [.int w.length,.str w]
def lkD (ws:List Str):PyData:=.tuple [.int ws.length,.list (ws.map wkD)]
def wlt (a b:Str):Bool:=ltv (wkD a) (wkD b)
def Bd (w:Str):Prop:=w.length<=500/\PyData.strOk w=true
structure LW (k:Nat) (named:List Str) (x:Str):Prop where
 wd:wordB x=true
 kd:kindT x=k
 no:x∉named
 le:∀ y,wordB y=true->kindT y=k->y∉named->wlt y x=false
 bd:Bd x
def named:List Pt->List Str
 | []=>[]
 | .word w::r=>w::named r
 | .hole _::r=>named r
structure FW (p:Pt) (ps:List Pt) (oss:List (List Pt)) (w:Str):Prop where
 tk:p.takes w=true
 nd:needless ps (behindP oss w)=false
 le:∀ y,p.takes y=true->needless ps (behindP oss y)=false->wlt y w=false
 bd:Bd w
structure LP (ps:List Pt) (oss:List (List Pt)) (ws:List Str):Prop where
 tk:takesAll ps ws=true
 kn:knows oss ws=false
 le:∀ vs,takesAll ps vs=true->knows oss vs=false->ltvAll (vs.map wkD) (ws.map wkD)=false
 bd:∀ w∈ws,Bd w
structure PLn (pss qss:List (List Pt)) (ws:List Str):Prop where
 pa:knows pss ws≠knows qss ws
 wd:Words ws
 bd:∀ w∈ws,Bd w
 ne:ws≠[]
 ln:ws.length<=12
 le:∀ vs,knows pss vs≠knows qss vs->ltv (lkD vs) (lkD ws)=false
structure LinesOf (pss qss:List (List Pt)) (L:List (List Str)):Prop where
 of:∀ ws∈L,∃ ps∈pss,LP ps qss ws
 all:∀ ps∈pss,needless ps qss=true\/∃ ws∈L,LP ps qss ws
def PsOk (pss:List (List Pt)):Prop:=∀ ps∈pss,PW ps/\ps≠[]/\ps.length<=12
end LG
namespace LG
open PySem L2 PySem.Builtin PySem.Builtin.Str
end LG
namespace LG
open PySem L2 PySem.Builtin PySem.Builtin.Str
theorem cut_drop {xs:List V} (j:Nat):cutV xs (some (j:Int)) none=xs.drop j:=by
 unfold cutV
 rw [HT.sIx_nat,HT.sIx_none]
 rcases Nat.le_total j xs.length with h | h
 ·rw [Nat.min_eq_left h,List.take_of_length_le (by rw [List.length_drop];exact Nat.le_refl _)]
 ·rw [Nat.min_eq_right h,Nat.sub_self,List.take_zero,List.drop_of_length_le h]
end LG
namespace LG
open PySem L2 PySem.Builtin PySem.Builtin.Str
end LG
namespace LG
open PySem L2
theorem ex_1 {C:St->Prop}{σ:St}{f:Option V->St} (h:∃ u0,σ=f u0) (k:∀ u0,C (f u0)):C σ:=by
 obtain ⟨u0,rfl⟩:=h
 exact k _
theorem ex_2 {C:St->Prop}{σ:St}{f:Option V->Option V->St} (h:∃ u0 u1,σ=f u0 u1) (k:∀ u0 u1,C (f u0 u1)):C σ:=by
 obtain ⟨u0,u1,rfl⟩:=h
 exact k _ _
theorem ex_3 {C:St->Prop}{σ:St}{f:Option V->Option V->Option V->St} (h:∃ u0 u1 u2,σ=f u0 u1 u2) (k:∀ u0 u1 u2,C (f u0 u1 u2)):C σ:=by
 obtain ⟨u0,u1,u2,rfl⟩:=h
 exact k _ _ _
theorem ex_6 {C:St->Prop}{σ:St}{f:Option V->Option V->Option V->Option V->Option V->Option V->St} (h:∃ u0 u1 u2 u3 u4 u5,σ=f u0 u1 u2 u3 u4 u5) (k:∀ u0 u1 u2 u3 u4 u5,C (f u0 u1 u2 u3 u4 u5)):C σ:=by
 obtain ⟨u0,u1,u2,u3,u4,u5,rfl⟩:=h
 exact k _ _ _ _ _ _
theorem ex_8 {C:St->Prop}{σ:St}{f:Option V->Option V->Option V->Option V->Option V->Option V->Option V->Option V->St} (h:∃ u0 u1 u2 u3 u4 u5 u6 u7,σ=f u0 u1 u2 u3 u4 u5 u6 u7) (k:∀ u0 u1 u2 u3 u4 u5 u6 u7,C (f u0 u1 u2 u3 u4 u5 u6 u7)):C σ:=by
 obtain ⟨u0,u1,u2,u3,u4,u5,u6,u7,rfl⟩:=h
 exact k _ _ _ _ _ _ _ _
end LG
namespace LG
open PySem L2 PySem.Builtin PySem.Builtin.Str
end LG
namespace LG
open PySem L2 PySem.Builtin PySem.Builtin.Str PySem.StrLaws
theorem starts1 {z y:Str}{c:Nat} (hy:y.cps.toList=[c]):Txt.startswith z y=match z.cps.toList with | a::_=>decide (a=c) | []=>false:=by
 have h1:y.length=1:=by rw [show y.length=y.cps.toList.length by simp [Str.length],hy];rfl
 have hz:z.length=z.cps.toList.length:=by simp [Str.length]
 unfold Txt.startswith
 rw [subAt_eq,h1,hy,hz]
 cases z.cps.toList with
 | nil=>rfl
 | cons a r=>
  rw [Bool.eq_iff_iff];simp
theorem rm1_no {z y:Str}{c:Nat} (hy:y.cps.toList=[c]) (h:∀ r,z.cps.toList≠c::r):Txt.removeprefix z y=z:=by
 have h1:y.length=1:=by rw [show y.length=y.cps.toList.length by simp [Str.length],hy];rfl
 have e:subAt z y 0=false:=by
  rw [subAt_eq,h1,hy]
  cases q:z.cps.toList with
  | nil=>rfl
  | cons a r=>
   have:a≠c:=λe=>h r (by rw [q,e])
   simpa using this
 unfold Txt.removeprefix
 rw [e]
 rfl
theorem rm1_yes {y w:Str}{c:Nat} (hy:y.cps.toList=[c]):Txt.removeprefix (y++w) y=w:=by
 have h1:y.length=1:=by rw [show y.length=y.cps.toList.length by simp [Str.length],hy];rfl
 have e0:(y++w).cps.toList=c::w.cps.toList:=by
  rw [PySem.Str.cps_append,Array.toList_append,hy];rfl
 have hz:(y++w).length=(y++w).cps.toList.length:=by simp [Str.length]
 have e:subAt (y++w) y 0=true:=by
  rw [subAt_eq,h1,hy,e0];simp
 unfold Txt.removeprefix
 rw [e]
 unfold Txt.affix
 rw [if_pos rfl]
 have ne:¬ ((y++w).length - y.length == (y++w).length)=true:=by
  rw [h1,hz,e0];simp
 simp only [ne]
 rw [if_neg (by simp)]
 apply PySem.Str.ext'
 apply Array.toList_inj.mp
 show (Array.extract (y++w).cps y.length (y++w).length).toList=w.cps.toList
 rw [Array.toList_extract,e0,h1,hz,e0]
 simp
 exact List.take_of_length_le (by simp)
theorem lt_cps:(("<" : Str)).cps.toList=[60]:=by decide +kernel
theorem eq_cps:(("=" : Str)).cps.toList=[61]:=by decide +kernel
theorem hole_txt:∀ k<3,Txt.startswith ("<" ++ kindS k ++ ">") "<" = true/\Txt.slice ("<" ++ kindS k ++ ">") (some 1) (some (-1))=kindS k:=by decide +kernel
def spec2 (w:Str):Bool:=match w.cps.toList with
 | c::_=>decide (c=60) || decide (c=61)
 | []=>false
def showP:Pt->Str
 | .hole k=> "<" ++ kindS k ++ ">"
 | .word w=>if spec2 w=true then "=" ++ w else w
theorem show_word {w:Str}:Txt.startswith (showP (.word w)) "<" = false/\Txt.removeprefix (showP (.word w)) "=" = w:=by
 show Txt.startswith (if spec2 w=true then "=" ++ w else w) "<" = false/\Txt.removeprefix (if spec2 w=true then "=" ++ w else w) "=" = w
 by_cases h:spec2 w=true
 ·rw [if_pos h]
  refine ⟨?_,rm1_yes eq_cps⟩
  rw [starts1 lt_cps,PySem.Str.cps_append,Array.toList_append,eq_cps]
  rfl
 ·rw [if_neg h]
  unfold spec2 at h
  refine ⟨?_,rm1_no eq_cps λr e=>?_⟩
  ·rw [starts1 lt_cps]
   cases e:w.cps.toList with
   | nil=>rfl
   | cons a r=>
    rw [e] at h
    simp at h
    exact decide_eq_false h.1
  ·rw [e] at h
   simp at h
end LG
namespace LG
open PySem L2 PySem.Builtin PySem.Builtin.Str PySem.StrLaws
theorem slice_from {z:Str}{n:Nat} (h:n<=z.cps.toList.length):(Txt.slice z (some (n:Int)) none).cps.toList=z.cps.toList.drop n:=by
 have e:=sliceText_from (x:=z) (i:=(n:Int)) ⟨by lia,by lia⟩
 show (sliceText z (some (n:Int)) none).cps.toList=_
 rw [e]
 simp
 rw [List.take_of_length_le (by simp)]
end LG
namespace LG
open PySem PySem.Spec PyProof.Rows L2
open PySem.Builtin PySem.Builtin.Str
theorem inV_strs (x:Str) (l:List Str):inV (.str x) (l.map V.str)=decide (x∈l):=by
 unfold inV
 rw [List.any_map,Bool.eq_iff_iff,List.any_eq_true,decide_eq_true_eq]
 constructor
 ·rintro ⟨y,hy,h⟩
  have:y=x:=by simpa [eqV] using h
  rw [<-this];exact hy
 ·intro h
  exact ⟨x,h,by simp [eqV]⟩
def rng (c:Nat):Bool:=(decide (33<=c) && decide (c<=36)) || (decide (38<=c) && decide (c<=126))
theorem rng_sgn (c:Nat):rng c=sgn c:=by
 unfold rng sgn
 rw [Bool.eq_iff_iff]
 simp only [Bool.or_eq_true,Bool.and_eq_true,decide_eq_true_eq]
 lia
end LG
namespace LG
open PySem L2 PySem.Builtin PySem.Builtin.Str
structure Mx (P N:List (List Pt)):Prop where
 nd:N.Nodup
 ko:KOrd N
 mem:∀ p,p∈N↔p∈P/\∀ q∈P,withinAll p q=true->q=p
end LG
namespace LG
open PySem L2 PySem.Builtin PySem.Builtin.Str
def patsD (pss:List (List Pt)):PyData:=.list (pss.map patD)
def kyD (n:Nat) (one other:List (List Pt)):PyData:=.list [.int n,patsD one,patsD other]
end LG
namespace LG
open PySem L2 PySem.Builtin PySem.Builtin.Str
structure Tries (P Q:List (List Pt)) (l:List Str):Prop where
 wd:∀ x∈l,wordB x=true/\Bd x
 up:l.Pairwise λa b=>wlt b a=false
 all:∀ y,wordB y=true->∃ x∈l,wlt y x=false/\behindP P x=behindP P y/\behindP Q x=behindP Q y
def dr (n:Nat) (P:List (List Pt)):List (List Pt):=P.map (List.drop n)
def at_ (n:Nat) (w:Str) (P:List (List Pt)):List (List Pt):=P.filter λps=>(ps.getD n (.hole 2)).takes w
end LG
namespace LG
open PySem L2 PySem.Builtin PySem.Builtin.Str
theorem sgn_lt {c:Nat} (h:sgn c=true):c<127:=by simp only [sgn,Bool.and_eq_true,decide_eq_true_eq] at h;lia
end LG
namespace LG
open PySem L2 PySem.Builtin PySem.Builtin.Str
def ky (n:Nat) (P Q:List (List Pt)):Key:=.inr (strV (kyD n P Q))
structure Base (m:Nat) (P0 Q0:List (List Pt)):Prop where
 m12:m<=12
 p:∀ ps∈P0,PW ps/\ps.length=m
 q:∀ ps∈Q0,PW ps/\ps.length=m
 lp:P0.length<=7
 lq:Q0.length<=8
structure KnK (P0 Q0:List (List Pt)) (kvs:List (Key×V)):Prop where
 nd:(kvs.map (·.1)).Nodup
 of:∀ k∈kvs.map (·.1),∃ n P Q,n<13/\P.Sublist P0/\Q.Sublist Q0/\k=ky n P Q
end LG
namespace LG
open PySem L2
section
variable {K:PySem.W.Frag}
def ptV:Pt->List V
 | .word w=>[.str "word",.str w]
 | .hole k=>[.str "hole",.str (kindS k)]
def PtAt (H:Hp) (v:V) (p:Pt):Prop:=∃ t,v = .ref t/\H t=some (.tup (ptV p))
def tO (H:Hp):Hp:=λa=>match H a with
 | some (.lst _)=>none
 | o=>o
inductive PL (K:PySem.W.Frag) (H:Hp):List Addr->List (List Pt)->Prop
 | nil:PL K H [] []
 | cons {a:Addr}{ys:List V}{as:List Addr}{ps:List Pt}{pss:List (List Pt)} (h1:H a=some (.lst ys)) (h2:Dens K (tO H) ys (ps.map Pt.dat)) (h3:a∉as) (t:PL K H as pss):PL K H (a::as) (ps::pss)
end
end LG
namespace LG
open PySem L2
mutual
inductive Ld (H:Hp):V->PyData->Prop
 | non:Ld H .non .none
 | bl (b:Bool):Ld H (.bl b) (.bool b)
 | int (i:Int):Ld H (.int i) (.int i)
 | str {x:Str} (h:TOk x):Ld H (.str x) (.str x)
 | lst {a:Addr}{xs:List V}{ds:List PyData} (h:H a=some (.lst xs)) (t:Lds H xs ds):Ld H (.ref a) (.list ds)
 | tup {a:Addr}{xs:List V}{ds:List PyData} (h:H a=some (.tup xs)) (t:Lds H xs ds):Ld H (.ref a) (.tuple ds)
inductive Lds (H:Hp):List V->List PyData->Prop
 | nil:Lds H [] []
 | cons {x:V}{xs:List V}{d:PyData}{ds:List PyData} (h:Ld H x d) (t:Lds H xs ds):Lds H (x::xs) (d::ds)
end
section
variable {K:PySem.W.Frag}{H H':Hp}
mutual
theorem Ld.den:∀ {v:V}{d:PyData},Ld H v d->Den K H v d
 | _,_,.non=>.non
 | _,_,.bl b=>.bl b
 | _,_,.int i=>.int i
 | _,_,.str h=>.str h.2
 | _,_,.lst h t=>.lst (.of h) t.den
 | _,_,.tup h t=>.tup (.of h) t.den
theorem Lds.den:∀ {v:List V}{d:List PyData},Lds H v d->Dens K H v d
 | _,_,.nil=>.nil
 | _,_,.cons h t=>.cons h.den t.den
end
mutual
theorem Ld.keep (h1:∀ a xs,H a=some (.lst xs)->H' a=some (.lst xs)) (h2:∀ a xs,H a=some (.tup xs)->H' a=some (.tup xs)):∀ {v:V}{d:PyData},Ld H v d->Ld H' v d
 | _,_,.non=>.non
 | _,_,.bl b=>.bl b
 | _,_,.int i=>.int i
 | _,_,.str h=>.str h
 | _,_,.lst h t=>.lst (h1 _ _ h) (Lds.keep h1 h2 t)
 | _,_,.tup h t=>.tup (h2 _ _ h) (Lds.keep h1 h2 t)
theorem Lds.keep (h1:∀ a xs,H a=some (.lst xs)->H' a=some (.lst xs)) (h2:∀ a xs,H a=some (.tup xs)->H' a=some (.tup xs)):∀ {v:List V}{d:List PyData},Lds H v d->Lds H' v d
 | _,_,.nil=>.nil
 | _,_,.cons h t=>.cons (Ld.keep h1 h2 h) (Lds.keep h1 h2 t)
end
theorem Ld.same {v:V}{d:PyData} (h:Ld H v d) (s:Same H H'):Ld H' v d:=h.keep (λ_ _ e=>s _ _ e) λ_ _ e=>s _ _ e
theorem Lds.same {v:List V}{d:List PyData} (h:Lds H v d) (s:Same H H'):Lds H' v d:=h.keep (λ_ _ e=>s _ _ e) λ_ _ e=>s _ _ e
theorem Lds.length:∀ {xs:List V}{ds:List PyData},Lds H xs ds->xs.length=ds.length
 | _,_,.nil=>rfl
 | _,_,.cons _ t=>by rw [List.length_cons,List.length_cons,t.length]
theorem Lds.append:∀ {xs ys:List V}{ds es:List PyData},Lds H xs ds->Lds H ys es->Lds H (xs++ys) (ds++es)
 | _,_,_,_,.nil,s=>s
 | _,_,_,_,.cons r t,s=>.cons r (t.append s)
theorem Lds.get:∀ {xs:List V}{ds:List PyData}{i:Nat}{x:V},Lds H xs ds->xs[i]? = some x->∃ d,ds[i]? = some d/\Ld H x d
 | _,_,_,_,.nil,e=>by simp at e
 | _,_,0,_,.cons r _,e=>by simp at e;subst e;exact ⟨_,rfl,r⟩
 | _,_,i+1,x,.cons _ t,e=>by
  obtain ⟨d,a,b⟩:=Lds.get (i:=i) (x:=x) t (by simpa using e)
  exact ⟨d,by simpa using a,b⟩
theorem Lds.set:∀ {xs:List V}{ds:List PyData} (i:Nat) {x:V}{d:PyData},Lds H xs ds->Ld H x d->Lds H (xs.set i x) (ds.set i d)
 | _,_,_,_,_,.nil,_=>.nil
 | _,_,0,_,_,.cons _ t,r=>.cons r t
 | _,_,i+1,_,_,.cons r t,q=>.cons r (t.set i q)
end
def isStrD:PyData->Bool
 | .str _=>true
 | _=>false
def isListD:PyData->Bool
 | .list _=>true
 | _=>false
def isTupD:PyData->Bool
 | .tuple _=>true
 | _=>false
theorem Ld.ty {K:PySem.W.Frag}{H:Hp}{v:V}{d:PyData} (h:Ld H v d):∃ t,TyOf K H v t/\PySem.W.kitOne K t (.type "str")=some (isStrD d)/\PySem.W.kitOne K t (.type "list")=some (isListD d)/\PySem.W.kitOne K t (.type "tuple")=some (isTupD d):=by
 cases h with
 | non=>exact ⟨_,.non,rfl,rfl,rfl⟩
 | bl b=>exact ⟨_,.bl b,rfl,rfl,rfl⟩
 | int i=>exact ⟨_,.int i,rfl,rfl,rfl⟩
 | str h=>exact ⟨_,.str _,rfl,rfl,rfl⟩
 | lst h t=>exact ⟨_,.lst h,rfl,rfl,rfl⟩
 | tup h t=>exact ⟨_,.tup h,rfl,rfl,rfl⟩
def wordD:PyData->Bool
 | .str z=>wordB z
 | _=>false
def partD:PyData->Bool
 | .tuple [a,b]=>if PyData.eqv a (.str "word")=true then wordD b else PyData.eqv a (.str "hole") && ([.str "number",.str "name",.str "any"]:List PyData).any λe=>PyData.eqv e b
 | _=>false
def patB:PyData->Bool
 | .list ds=>decide (1<=ds.length/\ds.length<=12) && ds.all partD
 | _=>false
theorem Ld.str' {H:Hp}{v:V}{d:PyData} (h:Ld H v d):(∃ z,v = .str z/\d = .str z/\TOk z)\/isStrD d=false:=by
 cases h with
 | str h=>exact .inl ⟨_,rfl,rfl,h⟩
 | _=>exact .inr rfl
theorem Ld.lst' {H:Hp}{v:V}{d:PyData} (h:Ld H v d):(∃ a xs ds,v = .ref a/\d = .list ds/\H a=some (.lst xs)/\Lds H xs ds)\/isListD d=false:=by
 cases h with
 | lst h t=>exact .inl ⟨_,_,_,rfl,rfl,h,t⟩
 | _=>exact .inr rfl
theorem Ld.tup' {H:Hp}{v:V}{d:PyData} (h:Ld H v d):(∃ a xs ds,v = .ref a/\d = .tuple ds/\H a=some (.tup xs)/\Lds H xs ds)\/isTupD d=false:=by
 cases h with
 | tup h t=>exact .inl ⟨_,_,_,rfl,rfl,h,t⟩
 | _=>exact .inr rfl
theorem Lds.two {H:Hp}{xs:List V}{ds:List PyData} (h:Lds H xs ds) (h2:ds.length=2):∃ x0 x1 d0 d1,xs=[x0,x1]/\ds=[d0,d1]/\Ld H x0 d0/\Ld H x1 d1:=by
 match ds,h2,h with
 | [d0,d1],_,.cons l0 (.cons l1 .nil)=>exact ⟨_,_,_,_,rfl,rfl,l0,l1⟩
end LG
namespace LG
open PySem L2
def PtsAt (H:Hp) (ys:List V) (ps:List Pt):Prop:=ys.length=ps.length/\∀ (i:Nat) x p,ys[i]? = some x->ps[i]? = some p->PtAt H x p
section
variable {H H':Hp}{ys:List V}{ps:List Pt}
theorem PtsAt.tup (h:PtsAt H ys ps) (f:∀ c xs,H c=some (.tup xs)->H' c=some (.tup xs)):PtsAt H' ys ps:=⟨h.1,λi x p h1 h2=>by
 obtain ⟨t,e,q⟩:=h.2 i x p h1 h2
 exact ⟨t,e,f _ _ q⟩⟩
theorem PtsAt.same (h:PtsAt H ys ps) (s:Same H H'):PtsAt H' ys ps:=h.tup λ_ _ e=>s _ _ e
theorem PtsAt.nil:PtsAt H [] []:=⟨rfl,λi x p h=>by cases h⟩
theorem PtsAt.snoc {x:V}{p:Pt} (h:PtsAt H ys ps) (hx:PtAt H x p):PtsAt H (ys++[x]) (ps++[p]):=by
 refine ⟨by rw [List.length_append,List.length_append,h.1];rfl,λi y q h1 h2=>?_⟩
 rcases Nat.lt_trichotomy i ys.length with e | e | e
 ·rw [List.getElem?_append_left e] at h1
  rw [List.getElem?_append_left (by rw [<-h.1];exact e)] at h2
  exact h.2 i y q h1 h2
 ·subst e
  rw [List.getElem?_append_right (Nat.le_refl _),Nat.sub_self] at h1
  rw [h.1,List.getElem?_append_right (Nat.le_refl _),Nat.sub_self] at h2
  cases h1
  cases h2
  exact hx
 ·rw [List.getElem?_eq_none (by rw [List.length_append,List.length_singleton];lia)] at h1
  cases h1
theorem pt_ld {x:V}{p:Pt} (h:PtAt H x p) (hp:p.ok):Ld H x p.dat:=by
 obtain ⟨t,rfl,ht⟩:=h
 cases p with
 | word w=>exact .tup ht (.cons (.str ⟨by decide,by decide +kernel⟩) (.cons (.str hp) .nil))
 | hole k=>
  have hk:TOk (kindS k):=by
   have:k=0\/k=1\/k=2:=by have:k<3:=hp;lia
   rcases this with rfl | rfl | rfl <;> exact ⟨by decide,by decide +kernel⟩
  exact .tup ht (.cons (.str ⟨by decide,by decide +kernel⟩) (.cons (.str hk) .nil))
theorem PtsAt.lds:∀ {ys:List V}{ps:List Pt},PtsAt H ys ps->(∀ p∈ps,p.ok)->Lds H ys (ps.map Pt.dat)
 | [],[],_,_=>.nil
 | [],_::_,h,_=>by have:=h.1;cases this
 | _::_,[],h,_=>by have:=h.1;cases this
 | x::ys,p::ps,h,hp=>.cons (pt_ld (h.2 0 x p rfl rfl) (hp p (.head _))) (PtsAt.lds ⟨Nat.succ.inj h.1,λi y q h1 h2=>h.2 (i+1) y q h1 h2⟩ λq hq=>hp q (.tail _ hq))
end
def PatL (H:Hp) (d:Addr) (z:Str) (F L:Addr) (n i:Nat) (σ:St) (H3:Hp):Prop:=
 (∃ u1 u2 u3,σ=[some (.ref d),some (.str z),some (.ref F),u1,u2,u3])/\Same (wo d H) H3/\Dk H3 d (n+i)/\H3 L=some (.lst ((Txt.split z " ").map V.str)) /\
 ∃ (acc:List V) (ps:List Pt),H3 F=some (.lst acc)/\ps.length=i/\(∀ (j:Nat) w p,(Txt.split z " ")[j]? = some w->ps[j]? = some p->Drawn w p)/\PtsAt H3 acc ps
theorem PatL.step {H H5:Hp}{d F L t:Addr}{z a b wd:Str}{acc:List V}{n i:Nat}{σ:St}{ps:List Pt}{pt:Pt} (hdF:d≠F) (hFL:F≠L) (hF:H F=none)
  (hσ:∃ u1 u2 u3,σ=[some (.ref d),some (.str z),some (.ref F),u1,u2,u3]) (s5:Same (wo d H) H5) (dk5:Dk H5 d (n+(i+1))) (hL:H5 L=some (.lst ((Txt.split z " ").map V.str))) (hF5:H5 F=some (.lst acc)) (hps:ps.length=i)
  (hdr:∀ (j:Nat) w p,(Txt.split z " ")[j]? = some w->ps[j]? = some p->Drawn w p) (dn:PtsAt H5 acc ps) (hw:(Txt.split z " ")[i]? = some wd) (hd:Drawn wd pt) (e:ptV pt=[.str a,.str b]) (ht:H5 t=none) :
  PatL H d z F L n (i+1) σ (upd (upd H5 t (.tup [.str a,.str b])) F (.lst (acc++[.ref t]))):=by
 have hFt:F≠t:=ne_of_none hF5 ht
 have hLt:L≠t:=ne_of_none hL ht
 have st:Same H5 (upd H5 t (.tup [.str a,.str b])):=Same.new ht
 refine ⟨hσ,snap_upd (by rw [wo_at hdF.symm];exact hF) (s5.trans st),(dk5.same st).upd hdF,by rw [upd_ne hFL.symm];exact st _ _ hL,acc++[.ref t],ps++[pt],upd_same,by simp [hps],λj w p hj hp=>?_,?_⟩
 ·rcases Nat.lt_trichotomy j ps.length with q | q | q
  ·rw [List.getElem?_append_left q] at hp
   exact hdr j w p hj hp
  ·subst q
   rw [List.getElem?_append_right (Nat.le_refl _)] at hp
   simp at hp
   subst hp
   rw [hps,hw] at hj
   cases hj
   exact hd
  ·rw [List.getElem?_eq_none (by rw [List.length_append,List.length_singleton];lia)] at hp
   cases hp
 ·have f:∀ c xs,H5 c=some (.tup xs)->(upd (upd H5 t (.tup [.str a,.str b])) F (.lst (acc++[.ref t]))) c=some (.tup xs):=λc xs h=>by
   rw [upd_ne (λz=>by rw [z,hF5] at h;cases h)]
   exact st _ _ h
  refine (dn.tup f).snoc ⟨t,rfl,?_⟩
  rw [upd_ne hFt.symm,upd_same,e]
end LG
namespace LG
open PySem L2 PySem.Builtin PySem.Builtin.Str PySem.StrLaws
def readQ (z:Str):Option Pt:=
 if Txt.startswith z "<" = true then (if z=showP (.hole 0) then some (.hole 0) else if z=showP (.hole 1) then some (.hole 1) else if z=showP (.hole 2) then some (.hole 2) else none)
 else if wordB (Txt.removeprefix z "=")=true/\showP (.word (Txt.removeprefix z "="))=z then some (.word (Txt.removeprefix z "=")) else none
def PtK:Pt->Prop
 | .word w=>wordB w=true/\TOk w
 | .hole k=>k<3
theorem PtK.ok {p:Pt} (h:PtK p):p.ok:=by
 cases p with
 | word w=>exact h.2
 | hole k=>exact h
theorem three {k:Nat} (h:k<3):k=0\/k=1\/k=2:=by lia
theorem show_holes:showP (.hole 0)≠showP (.hole 1)/\showP (.hole 0)≠showP (.hole 2)/\showP (.hole 1)≠showP (.hole 2):=by decide +kernel
theorem readQ_hole {k:Nat} (h:k<3):readQ (showP (.hole k))=some (.hole k):=by
 have h1:=(hole_txt k h).1
 unfold readQ
 rw [show showP (.hole k) = "<" ++ kindS k ++ ">" from rfl,if_pos h1,<-show showP (.hole k) = "<" ++ kindS k ++ ">" from rfl]
 obtain ⟨a,b,c⟩:=show_holes
 rcases three h with rfl | rfl | rfl
 ·rw [if_pos rfl]
 ·rw [if_neg (Ne.symm a),if_pos rfl]
 ·rw [if_neg (Ne.symm b),if_neg (Ne.symm c),if_pos rfl]
theorem readQ_show {z:Str}{p:Pt} (h:readQ z=some p):showP p=z:=by
 unfold readQ at h
 split at h
 ·split at h
  ·rename_i e;cases h;exact e.symm
  ·split at h
   ·rename_i e;cases h;exact e.symm
   ·split at h
    ·rename_i e;cases h;exact e.symm
    ·cases h
 ·split at h
  ·rename_i e;cases h;exact e.2
  ·cases h
theorem readQ_showP {p:Pt} (h:PtK p):readQ (showP p)=some p:=by
 cases p with
 | hole k=>exact readQ_hole h
 | word w=>
  obtain ⟨h1,h2⟩:=show_word (w:=w)
  unfold readQ
  rw [if_neg (by rw [h1];exact Bool.false_ne_true),h2,if_pos ⟨h.1,rfl⟩]
theorem rm_sub {z y:Str} (hz:PyData.strOk z=true):PyData.strOk (Txt.removeprefix z y)=true/\(Txt.removeprefix z y).length<=z.length:=by
 unfold Txt.removeprefix Txt.affix
 split
 ·split
  ·exact ⟨hz,Nat.le_refl _⟩
  ·exact ok_strSub hz
 ·exact ⟨hz,Nat.le_refl _⟩
theorem readQ_ok {z:Str}{p:Pt} (hz:TOk z) (h:readQ z=some p):PtK p:=by
 unfold readQ at h
 split at h
 ·split at h
  ·cases h;exact (by decide:0<3)
  ·split at h
   ·cases h;exact (by decide:1<3)
   ·split at h
    ·cases h;exact (by decide:2<3)
    ·cases h
 ·split at h
  ·rename_i e
   cases h
   have:=rm_sub (y:= "=") hz.2
   exact ⟨e.1,Nat.le_trans this.2 hz.1,this.1⟩
  ·cases h
theorem readQ_lt {z:Str} (hs:Txt.startswith z "<" = true):(∃ m,m<3/\Txt.slice z (some 1) (some (-1))=kindS m/\showP (.hole m)=z/\readQ z=some (.hole m)) \/
  (readQ z=none/\∀ m,m<3->showP (.hole m)≠z):=by
 by_cases h:∃ m,m<3/\showP (.hole m)=z
 ·obtain ⟨m,hm,e⟩:=h
  refine .inl ⟨m,hm,?_,e,?_⟩
  ·rw [<-e];exact (hole_txt m hm).2
  ·rw [<-e];exact readQ_hole hm
 ·refine .inr ⟨?_,λm hm e=>h ⟨m,hm,e⟩⟩
  unfold readQ
  rw [if_pos hs,if_neg λe=>h ⟨0,by decide,e.symm⟩,if_neg λe=>h ⟨1,by decide,e.symm⟩,if_neg λe=>h ⟨2,by decide,e.symm⟩]
theorem readQ_wd {z:Str} (hs:Txt.startswith z "<" = false):readQ z=if wordB (Txt.removeprefix z "=")=true/\showP (.word (Txt.removeprefix z "="))=z then some (.word (Txt.removeprefix z "=")) else none:=by
 unfold readQ
 rw [if_neg (by rw [hs];exact Bool.false_ne_true)]
theorem starts_lt (z:Str):Txt.startswith z "<" = decide (z.cps.toList.head? = some 60):=by
 rw [starts1 lt_cps]
 cases z.cps.toList with
 | nil=>rfl
 | cons a r=>simp
theorem rm_eq {z:Str}:(Txt.removeprefix z "=").cps.toList=if z.cps.toList.head? = some 61 then z.cps.toList.drop 1 else z.cps.toList:=by
 cases e:z.cps.toList with
 | nil=>
  rw [rm1_no eq_cps λr q=>by rw [e] at q;cases q]
  rw [e];rfl
 | cons c r=>
  by_cases hc:c=61
  ·subst hc
   have ez:z = "=" ++ (⟨r.toArray⟩:Str):=PySem.Str.ext' (Array.toList_inj.mp (by rw [PySem.Str.cps_append,Array.toList_append,eq_cps,e];rfl))
   rw [ez,rm1_yes eq_cps]
   simp
  ·rw [rm1_no eq_cps λr' q=>by rw [e] at q;cases q;exact hc rfl,e]
   simp [hc]
theorem wordB_three:∀ k<3,wordB (showP (.hole k))=true:=by decide +kernel
theorem sgn_61:sgn 61=true:=by decide
theorem eq_head {z:Str}{r:List Nat} (e:z.cps.toList=61::r):z = "=" ++ Txt.removeprefix z "=" /\ (Txt.removeprefix z "=").cps.toList=r:=by
 have h:(Txt.removeprefix z "=").cps.toList=r:=by rw [rm_eq,e];rfl
 refine ⟨?_,h⟩
 exact PySem.Str.ext' (Array.toList_inj.mp (by rw [PySem.Str.cps_append,Array.toList_append,eq_cps,e,h];rfl))
theorem wordB_eq {z:Str}{r:List Nat} (e:z.cps.toList=61::r) (hw:wordB (Txt.removeprefix z "=")=true):wordB z=true:=by
 have h:=(eq_head e).2
 unfold wordB onlyB at hw ⊢
 rw [h,Bool.and_eq_true] at hw
 rw [e]
 show (true && (sgn 61 && r.all sgn))=true
 rw [hw.2,sgn_61];rfl
theorem rm_self {z:Str} (h:z.cps.toList.head? ≠ some 61):Txt.removeprefix z "=" = z:=by
 refine PySem.Str.ext' (Array.toList_inj.mp ?_)
 rw [rm_eq,if_neg h]
theorem readQ_bad {z:Str} (h:wordB z=false):readQ z=none:=by
 by_cases hs:Txt.startswith z "<" = true
 ·rcases readQ_lt hs with ⟨m,hm,_,e,_⟩ | ⟨e,_⟩
  ·rw [<-e,wordB_three m hm] at h;cases h
  ·exact e
 ·rw [readQ_wd (Bool.eq_false_iff.mpr hs),if_neg]
  rintro ⟨h1,_⟩
  by_cases hd:z.cps.toList.head? = some 61
  ·cases e:z.cps.toList with
   | nil=>rw [e] at hd;cases hd
   | cons c r=>
    rw [e] at hd
    cases hd
    rw [wordB_eq e h1] at h;cases h
  ·rw [rm_self hd,h] at h1;cases h1
theorem readQ_less {z:Str} (hn:∀ m,m<3->z≠showP (.hole m)) (h:z.cps.toList.head? = some 60):readQ z=none:=by
 rcases readQ_lt (z:=z) (by rw [starts_lt,h];rfl) with ⟨m,hm,_,e,_⟩ | ⟨e,_⟩
 ·exact (hn m hm e.symm).elim
 ·exact e
theorem show_eq_len {w:Str}:(showP (.word w) = "=" ++ w)↔spec2 w=true:=by
 show ((if spec2 w=true then "=" ++ w else w) = "=" ++ w)↔_
 constructor
 ·intro h
  by_cases hs:spec2 w=true
  ·exact hs
  ·rw [if_neg hs] at h
   have:=congrArg PySem.Str.length h
   rw [PySem.Str.length_append,show (("=" : Str)).length=1 from rfl] at this
   lia
 ·intro h;rw [if_pos h]
theorem spec2_head {w:Str}:spec2 w=(decide (w.cps.toList.head? = some 60) || decide (w.cps.toList.head? = some 61)):=by
 unfold spec2
 cases w.cps.toList with
 | nil=>rfl
 | cons c r=>simp
theorem readQ_eq {z:Str}{r:List Nat} (e:z.cps.toList=61::r) (hw:wordB z=true):readQ z=if r.head? = some 60\/r.head? = some 61 then some (.word (Txt.removeprefix z "=")) else none:=by
 obtain ⟨ez,er⟩:=eq_head e
 have hs:Txt.startswith z "<" = false:=by rw [starts_lt,e];rfl
 rw [readQ_wd hs]
 have e2:spec2 (Txt.removeprefix z "=")=(decide (r.head? = some 60) || decide (r.head? = some 61)):=by rw [spec2_head,er]
 by_cases h:r.head? = some 60\/r.head? = some 61
 ·rw [if_pos h,if_pos]
  refine ⟨?_,?_⟩
  ·unfold wordB onlyB at hw ⊢
   rw [er]
   rw [e] at hw
   have hall:(sgn 61 && r.all sgn)=true:=by
    have:(true && (sgn 61 && r.all sgn))=true:=hw
    simpa using this
   rw [Bool.and_eq_true] at hall
   rw [hall.2]
   cases r with
   | nil=>rcases h with h | h <;> cases h
   | cons a r=>rfl
  ·have:=(show_eq_len (w:=Txt.removeprefix z "=")).mpr (by rw [e2];rcases h with h | h <;> rw [h] <;> decide)
   rw [this,<-ez]
 ·rw [if_neg h,if_neg]
  rintro ⟨_,h2⟩
  have h3:=(show_eq_len (w:=Txt.removeprefix z "=")).mp (by rw [h2];exact ez)
  rw [e2] at h3
  simp at h3
  exact h h3
theorem readQ_else {z:Str} (h0:z.cps.toList.head? ≠ some 60) (h1:z.cps.toList.head? ≠ some 61) (hw:wordB z=true):readQ z=some (.word z):=by
 have hs:Txt.startswith z "<" = false:=by rw [starts_lt];exact decide_eq_false h0
 rw [readQ_wd hs,rm_self h1,if_pos]
 refine ⟨hw,?_⟩
 show (if spec2 z=true then "=" ++ z else z)=z
 rw [if_neg]
 rw [spec2_head]
 simp [h0,h1]
def totS (l:List Str):Nat:=(l.map λx=>x.length+1).sum
theorem totS_app (a b:List Str):totS (a++b)=totS a+totS b:=by unfold totS;rw [List.map_append,List.sum_append]
theorem totS_one (x:Str):totS [x]=x.length+1:=by unfold totS;simp
theorem totS_len (l:List Str):l.length<=totS l:=by
 induction l with
 | nil=>exact Nat.le_refl _
 | cons a r ih=>
  have:totS (a::r)=a.length+1+totS r:=by unfold totS;simp
  rw [List.length_cons];lia
theorem join_totS {y:Str} (hy:y.length=1):∀ {l:List Str},l≠[]->(Str.join y l).length+1=totS l
 | [],h=>(h rfl).elim
 | [x],_=>by rw [totS_one];rfl
 | x::x2::r,_=>by
  have e:Str.join y (x::x2::r)=x++y++Str.join y (x2::r):=rfl
  have ih:=join_totS hy (l:=x2::r) (by simp)
  have e2:totS (x::x2::r)=x.length+1+totS (x2::r):=by unfold totS;simp
  rw [e,PySem.Str.length_append,PySem.Str.length_append,hy,e2,<-ih]
  lia
theorem txt_join (y:Str) (l:List Str):Txt.join y l=Str.join y l:=glued_eq_join y l
theorem split_totS {z y:Str} (hy:y.length=1):totS (Txt.split z y)=z.length+1:=by
 have hne:Txt.split z y≠[]:=λe=>by have:=(L2.split_len1 (z:=z) (y:=y)).1;rw [e] at this;cases this
 rw [<-join_totS hy hne,join_split]
theorem join_le {y:Str} (hy:y.length=1) (l:List Str):(Txt.join y l).length<=totS l:=by
 cases l with
 | nil=>exact Nat.zero_le _
 | cons a r=>
  have:=join_totS hy (l:=a::r) (by simp)
  rw [txt_join];lia
theorem totS_take (l:List Str) (n:Nat):totS (l.take n)+totS (l.drop n)=totS l:=by
 rw [<-totS_app,List.take_append_drop]
theorem totS_mem {l:List Str}{x:Str} (h:x∈l):x.length+1<=totS l:=by
 obtain ⟨a,b,rfl⟩:=List.append_of_mem h
 rw [totS_app,show x::b=[x]++b from rfl,totS_app,totS_one]
 lia
theorem read_back {ws:List Str}{ps:List Pt} (h:ws.map readQ=ps.map some):ps.map showP=ws:=by
 have hl:ws.length=ps.length:=by have:=congrArg List.length h;simpa using this
 refine List.ext_getElem? λi=>?_
 have hi:(ws.map readQ)[i]? = (ps.map some)[i]?:=by rw [h]
 rw [List.getElem?_map,List.getElem?_map] at hi
 rw [List.getElem?_map]
 cases e:ws[i]? with
 | none=>
  rw [e] at hi
  cases e2:ps[i]? with
  | none=>rfl
  | some p=>rw [e2] at hi;cases hi
 | some z=>
  rw [e] at hi
  cases e2:ps[i]? with
  | none=>rw [e2] at hi;cases hi
  | some p=>
   rw [e2] at hi
   have hi:readQ z=some p:=by simpa using hi
   show some (showP p)=some z
   rw [readQ_show hi]
end LG
namespace LG
open PySem L2
def grpPut {α:Type} (st:List (Key×List α)) (k:Key) (x:α):List (Key×List α):=
 if (st.any λp=>decide (p.1=k))=true then st.map (λp=>if p.1=k then (p.1,p.2++[x]) else p) else st++[(k,[x])]
def grpAll {α:Type} (l:List (Key×α)):List (Key×List α):=l.foldl (λst p=>grpPut st p.1 p.2) []
def grp {α:Type} (ks:List Key) (xs:List α):List (List α):=(grpAll (ks.zip xs)).map (·.2)
inductive All2 {α β:Type} (R:α->β->Prop):List α->List β->Prop
 | nil:All2 R [] []
 | cons {a:α}{b:β}{l:List α}{m:List β} (h:R a b) (t:All2 R l m):All2 R (a::l) (b::m)
inductive GL (H0 H:Hp) (D:Addr):List Addr->List (Key×V)->List (Key×List V)->Prop
 | nil:GL H0 H D [] [] []
 | cons {a:Addr}{k:Key}{g:List V}{as:List Addr}{kvs:List (Key×V)}{st:List (Key×List V)} (h:H a=some (.lst g)) (hn:H0 a=none) (hD:a≠D) (ha:a∉as) (hk:k∉kvs.map (·.1)) (hs:st.map (·.1)=kvs.map (·.1)) (t:GL H0 H D as kvs st):GL H0 H D (a::as) ((k,.ref a)::kvs) ((k,g)::st)
end LG
namespace LG
open PySem L2
structure GOk (n:Nat) (wss:List (List Str)):Prop where
 ne:wss≠[]
 le:wss.length<64
 le12:n<=12
 pos:0<n
 row:∀ ws∈wss,ws.length=n/\∀ w∈ws,PtW (.word w)
def wAt (wss:List (List Str)) (p:Nat):List Str:=wss.map λws=>ws.getD p Str.empty
def uAt (wss:List (List Str)) (p:Nat):List Str:=dedS [] (wAt wss p)
def fitAt (wss:List (List Str)) (p:Nat) (s l:Int):Bool:=decide (2<=((uAt wss p).length:Int)) && (decide (((uAt wss p).length:Int)<=s) && (uAt wss p).all λw=>decide (l<=((wAt wss p).countP λz=>decide (z=w):Nat)))
section
variable {K:PySem.W.Frag}{H:Hp}
end
end LG
namespace LG
open PySem L2
section
variable {K:PySem.W.Frag}{H H':Hp}{P:Addr}
end
def plcs (wss:List (List Str)) (n:Nat) (s l:Int):List Nat:=(List.range n).filter λp=>fitAt wss p s l
def plc (wss:List (List Str)) (n:Nat) (s l:Int):Option Nat:=if plcs wss n s l=[] then none else some ((plcs wss n s l).getD (leastIx ((plcs wss n s l).map λp=>.int (uAt wss p).length)) 0)
end LG
namespace LG
open PySem L2
structure GpOk {α:Type} (l:List (Key×α)) (p:Key×List α):Prop where
 ne:p.2≠[]
 of:∀ x∈p.2,(p.1,x)∈l
 le:p.2.length<=l.length
def byW (wss:List (List Str)) (p:Nat):List (List (List Str)):=grp ((wAt wss p).map Sum.inr) wss
def two (wss:List (List Str)) (p:Nat):Bool:=decide (2<=(uAt wss p).length)
def mu (n:Nat) (wss:List (List Str)):Nat:=(List.range n).countP (two wss)
def prt (n:Nat) (s l:Int):Nat->List (List Str)->List (List (List Str))
 | 0,g=>[g]
 | N+1,g=>match plc g n s l with
  | none=>[g]
  | some p=>(byW g p).flatMap (prt n s l N)
end LG
namespace LG
open PySem L2
def tot {α:Type} (st:List (Key×List α)):Nat:=(st.map λp=>p.2.length).sum
section
variable {A B H:Hp}
end
end LG
namespace LG
open PySem L2
def wPat (ws:List Str):List Pt:=ws.map Pt.word
def byL (rss:List (List Str)):List (List (List Str)):=grp (rss.map λws=>(Sum.inl (ws.length:Int):Key)) rss
def gn (g:List (List Str)):Nat:=(g.headD []).length
def gth1 (s l:Int) (g:List (List Str)):List (List Pt):=(prt (gn g) s l 13 g).map λg'=>joinAll (g'.map wPat) (gn g)
def gth (s l:Int) (rss:List (List Str)):List (List Pt):=(byL rss).flatMap (gth1 s l)
end LG
namespace LG
open PySem L2
end LG
namespace LG
open PySem L2
end LG
namespace LG
open PySem L2
end LG
namespace LG
open PySem L2
end LG
namespace L2
open PySem
end L2
namespace LG
open PySem L2
section
variable {s l:Int}{zs ms:List Str}{g:List (List Str)}
end
end LG
namespace LG
open PySem L2
section
variable {wss:List (List Str)}{s l:Int}{n:Nat}
end
end LG
namespace LG
open PySem L2
theorem ups_exists (us:List Str):∃ ms:List Str,ms.Perm us/\UpS ms:=by
 have o:=Sh.ok .str
 have hs:∀ x:Str,Sh.str.has (.str x):=λx=>⟨x,rfl⟩
 refine ⟨us.mergeSort λx y=>!ltv (.str y) (.str x),List.mergeSort_perm _ _,?_⟩
 refine (List.pairwise_mergeSort (λa b c h1 h2=>?_) (λa b=>?_) us).imp λ{a b} h=>by simpa using h
 ·cases q:ltv (.str c) (.str a) with
  | false=>rfl
  | true=>
   rcases o.neg (hs c) (hs b) (hs a) q with e | e
   ·rw [e] at h2;cases h2
   ·rw [e] at h1;cases h1
 ·cases q:ltv (.str b) (.str a) with
  | false=>rfl
  | true=>rw [o.asymm (hs b) (hs a) q];rfl
end LG
namespace LG
open PySem L2
noncomputable def msOf (zs:List Str):List Str:=(ups_exists (dedS [] zs)).choose
noncomputable def gthZ (s l:Int) (zs:List Str):List (List Pt):=gth s l ((msOf zs).map λz=>Txt.split z " ")
noncomputable def newsB (s l:Int) (zs:List Str) (z:Str):Bool:=!((gthZ s l zs).any λp=>takesAll p (Txt.split z " "))
noncomputable def newsL (s l:Int) (zs:List Str) (n:Nat):List Nat:=(List.range n).filter λi=>newsB s l (zs.take i) (zs.getD i Str.empty)
end LG
namespace LG
open PySem L2
def FstR (bs:List (List Pt)) (z:Str) (o:Option (List Pt)):Prop:=(bs.filter (fitsB z)=[]/\o=none)\/∃ p,o=some p/\Least (bs.filter (fitsB z)) p
def FallR (bs fs:List (List Pt)) (z:Str) (o:Option (List Pt)):Prop:=(∃ p,o=some p/\Least (bs.filter (fitsB z)) p)\/(bs.filter (fitsB z)=[]/\FstR fs z o)
def FallsR (bs fs:List (List Pt)) (zs:List Str) (os:List (Option (List Pt))):Prop:=os.length=zs.length/\∀ (i:Nat) z o,zs[i]? = some z->os[i]? = some o->FallR bs fs z o
structure IsGth (s l:Int) (zs:List Str) (ps:List (List Pt)):Prop where
 ex:∃ ms:List Str,ms.Perm (dedS [] zs)/\UpS ms/\ps.Perm (gth s l (ms.map λz=>Txt.split z " "))
 ord:KOrd ps
 ok:PsOk ps
 lt:ps.length<64
def offB (bs:List (List Pt)) (zs:List Str):List Str:=zs.filter λz=>(bs.filter (fitsB z)).isEmpty
section
variable {K:PySem.W.Frag}{H H':Hp}{g C dx:Addr}{fs:List (Str×V)}
theorem new_ex {a:Addr} (o:HO) (h:H a=none):∃ H',upd H a o=H'/\Same H H'/\H' a=some o:=⟨_,rfl,Same.new h,upd_same⟩
end
def core (H:Hp):Hp:=λc=>match H c with | some (.ins _ _ _)=>none | some (.tbl _)=>none | o=>o
structure StV where
 rs:List (Int×Str)
 bs:List (List Pt)
 fs:List (List Pt)
 os:List (Option (List Pt))
def StV.zs (v:StV):List Str:=v.rs.map (·.2)
structure StV.Ok (v:StV) (s l:Int):Prop where
 gth:IsGth s l (offB v.bs v.zs) v.fs
 fls:FallsR v.bs v.fs v.zs v.os
 lns:∀ q∈v.rs,∃ ws,LnOk 12 q.2 ws
 hnd:PsOk v.bs
 rl:v.rs.length<64
 bl:v.bs.length<64
structure LogV where
 s:Int
 l:Int
 cur:StV
 ah:StV
 past:List (List (Int×Str)×List (List Pt))
 tbk:List (List (Int×Str)×List (List Pt))
section
variable {K:PySem.W.Frag}{B B':Hp}{xs:List V}{x:V}{l:List (List (Int×Str)×List (List Pt))}{h:List (Int×Str)×List (List Pt)}
end
section
variable {K:PySem.W.Frag}{CL CS:Addr}{B B' H H':Hp}{g pa tb d:Addr}{v:LogV}
end
section
variable {B H H':Hp}{g pa tb c:Addr}{o:HO}
end
end LG
namespace LG
open PySem L2
def sp__law_deckT (K:PySem.W.Frag):Sp:=λvs H Q _=>∃ (c:Int) (m:Nat),vs=[.int c,.int m]/\m<10000/\∀ d H',H d=none->Same H H'->Dk H' d m->Q (.ref d) H'
end LG
namespace K13
open PySem L2 LG
set_option genSizeOf false in
set_option genInjectivity false in
structure Ad where
 f_has_only:Addr
 d_has_only:FuncData
 f_is_word:Addr
 d_is_word:FuncData
 f_is_part:Addr
 d_is_part:FuncData
 f_is_pattern:Addr
 d_is_pattern:FuncData
 f_is_hole:Addr
 d_is_hole:FuncData
 f_show_part:Addr
 d_show_part:FuncData
 f_show_pattern:Addr
 d_show_pattern:FuncData
 f_read_part:Addr
 d_read_part:FuncData
 f_read_pattern:Addr
 d_read_pattern:FuncData
 f__law_deck:Addr
 d__law_deck:FuncData
 f__law_pick:Addr
 d__law_pick:FuncData
 f__law_name_of:Addr
 d__law_name_of:FuncData
 f__law_kind:Addr
 d__law_kind:FuncData
 f__law_word:Addr
 d__law_word:FuncData
 f__law_line:Addr
 d__law_line:FuncData
 f__law_pattern:Addr
 d__law_pattern:FuncData
 f__law_signs:Addr
 d__law_signs:FuncData
 f__law_sign_bent:Addr
 d__law_sign_bent:FuncData
 f__law_list_bent:Addr
 d__law_list_bent:FuncData
 f__law_bent:Addr
 d__law_bent:FuncData
 f__law_told:Addr
 d__law_told:FuncData
 f__law_written:Addr
 d__law_written:FuncData
 f__law_read:Addr
 d__law_read:FuncData
 f__law_reads:Addr
 d__law_reads:FuncData
 f_law:Addr
 d_law:FuncData
 a_HOLE_KINDS:Addr
 c_GatherError:Addr
 c_NoFit:Addr
 c_NoJoin:Addr
 c_NoLine:Addr
 c_NoMoment:Addr
 c_NoPattern:Addr
 c_TooMany:Addr
 c_NothingLeft:Addr
 c_NoText:Addr
 c_NoRow:Addr
structure Tx (K:PySem.W.Frag) (mg:Str->Option Value) (A:Ad):Prop where
 n_ValueError:mg "ValueError" = none
 n_all:mg "all" = none
 n_int:mg "int" = none
 n_isinstance:mg "isinstance" = none
 n_len:mg "len" = none
 n_list:mg "list" = none
 n_range:mg "range" = none
 n_str:mg "str" = none
 n_tuple:mg "tuple" = none
 n_zip:mg "zip" = none
 g_WORD_SIGNS:∃ t,mg "WORD_SIGNS" = some (.str SIGNS t)
 g_MOST_PARTS:∃ t,mg "MOST_PARTS" = some (.int 12 t)
 g_HOLE_KINDS:mg "HOLE_KINDS" = some (.ref A.a_HOLE_KINDS)
 t_HOLE_KINDS:∀ H,SqT K H A.a_HOLE_KINDS [.str "number",.str "name",.str "any"]
 y_HOLE_KINDS:∃ o,K.lookup A.a_HOLE_KINDS=some o/\o.cls = .type "tuple" /\ o.dict=none
 has_only:DefAt K mg "has_only" (top 13) ["text","signs"] A.f_has_only A.d_has_only
 is_word:DefAt K mg "is_word" (top 14) ["thing"] A.f_is_word A.d_is_word
 is_part:DefAt K mg "is_part" (top 18) ["thing"] A.f_is_part A.d_is_part
 is_pattern:DefAt K mg "is_pattern" (top 19) ["thing"] A.f_is_pattern A.d_is_pattern
 is_hole:DefAt K mg "is_hole" (top 20) ["part"] A.f_is_hole A.d_is_hole
 show_part:DefAt K mg "show_part" (top 22) ["part"] A.f_show_part A.d_show_part
 show_pattern:DefAt K mg "show_pattern" (top 23) ["pattern"] A.f_show_pattern A.d_show_pattern
 read_part:DefAt K mg "read_part" (top 24) ["text"] A.f_read_part A.d_read_part
 read_pattern:DefAt K mg "read_pattern" (top 25) ["text"] A.f_read_pattern A.d_read_pattern
 _law_deck:DefAt K mg "_law_deck" (top 27) ["cell","turn"] A.f__law_deck A.d__law_deck
 _law_pick:DefAt K mg "_law_pick" (top 28) ["deck","many"] A.f__law_pick A.d__law_pick
 _law_name_of:DefAt K mg "_law_name_of" (top 29) ["e"] A.f__law_name_of A.d__law_name_of
 _law_kind:DefAt K mg "_law_kind" (top 30) ["word"] A.f__law_kind A.d__law_kind
 _law_word:DefAt K mg "_law_word" (top 33) ["deck"] A.f__law_word A.d__law_word
 _law_line:DefAt K mg "_law_line" (top 34) ["deck","most"] A.f__law_line A.d__law_line
 _law_pattern:DefAt K mg "_law_pattern" (top 36) ["deck","line"] A.f__law_pattern A.d__law_pattern
 _law_signs:DefAt K mg "_law_signs" (top 37) [] A.f__law_signs A.d__law_signs
 _law_sign_bent:DefAt K mg "_law_sign_bent" (top 38) ["deck","text"] A.f__law_sign_bent A.d__law_sign_bent
 _law_list_bent:DefAt K mg "_law_list_bent" (top 39) ["deck","some"] A.f__law_list_bent A.d__law_list_bent
 _law_bent:DefAt K mg "_law_bent" (top 40) ["deck","text","joints"] A.f__law_bent A.d__law_bent
 _law_told:DefAt K mg "_law_told" (top 41) ["text"] A.f__law_told A.d__law_told
 _law_written:DefAt K mg "_law_written" (top 42) ["pattern"] A.f__law_written A.d__law_written
 _law_read:DefAt K mg "_law_read" (top 43) ["text"] A.f__law_read A.d__law_read
 _law_reads:DefAt K mg "_law_reads" (top 44) ["text"] A.f__law_reads A.d__law_reads
 m_GatherError:mg "GatherError" = some (.ref A.c_GatherError)
 m_NoFit:mg "NoFit" = some (.ref A.c_NoFit)
 m_NoJoin:mg "NoJoin" = some (.ref A.c_NoJoin)
 m_NoLine:mg "NoLine" = some (.ref A.c_NoLine)
 m_NoMoment:mg "NoMoment" = some (.ref A.c_NoMoment)
 m_NoPattern:mg "NoPattern" = some (.ref A.c_NoPattern)
 m_TooMany:mg "TooMany" = some (.ref A.c_TooMany)
 m_NothingLeft:mg "NothingLeft" = some (.ref A.c_NothingLeft)
 m_NoText:mg "NoText" = some (.ref A.c_NoText)
 m_NoRow:mg "NoRow" = some (.ref A.c_NoRow)
 x_GatherError:PySem.W.excIn K A.c_GatherError VEs "ValueError.__new__" = true
 x_NoText:PySem.W.excIn K A.c_NoText VEs "ValueError.__new__" = true
 k_NoText:ExcK K A.c_NoText
 r_NoText:L2.mroIn K A.c_NoText A.c_GatherError=true
 i_NoText_NoFit:kitV K A.c_NoText (.ref A.c_NoFit)=some false
 i_NoText_NoJoin:kitV K A.c_NoText (.ref A.c_NoJoin)=some false
 i_NoText_NoLine:kitV K A.c_NoText (.ref A.c_NoLine)=some false
 i_NoText_NoMoment:kitV K A.c_NoText (.ref A.c_NoMoment)=some false
 i_NoText_NoPattern:kitV K A.c_NoText (.ref A.c_NoPattern)=some false
 i_NoText_NoRow:kitV K A.c_NoText (.ref A.c_NoRow)=some false
 i_NoText_NoText:kitV K A.c_NoText (.ref A.c_NoText)=some true
 i_NoText_NothingLeft:kitV K A.c_NoText (.ref A.c_NothingLeft)=some false
 i_NoText_TooMany:kitV K A.c_NoText (.ref A.c_TooMany)=some false
 i_NoText_V:kitV K A.c_NoText (.ty "ValueError")=some true
section
variable {P:Program}{w:World}{K:PySem.W.Frag}{mg:Str->Option Value}{base:Heap}{A:Ad}
theorem sc_has_only:FnScope ["text","signs"] ["text","signs"] (defScope (top 13)):=⟨rfl,rfl,rfl,by decide +kernel,rfl,by decide +kernel,by decide +kernel⟩
set_option maxHeartbeats 8000000 in
theorem ok_has_only (T:Tx K mg A):FnOk P w K mg base CX0 1 A.f_has_only A.d_has_only ["text","signs"] (sp_has_only K):=by
 refine T.has_only.fn.ok sc_has_only (λvs H Q E h=>?_) (λcdv Ar outer s H vs Q E hr h=>?_)
 ·obtain ⟨z,y,rfl,_⟩:=h;rfl
 ·obtain ⟨z,y,rfl,hz,k⟩:=h
  refine ⟨_,pss_one (ps_ret (pe_and (pe_cmpR (op_ne) (pv 0) (pe_str) (nomark _)) (pe_one (pe_cmpR (op_eq) (pe_bm PySem.F.plainAttrs_str PySem.F.slot_str_strip PySem.F.type_str_strip mt_stripC (pv 0) (pa_cons (pv 1) (pa_nil))) (pe_str) (nomark _))))),?_⟩
  refine ⟨_,rfl,rfl,_,rfl,?_⟩
  have e:=only_eq z y
  by_cases hn:z.cps.toList.isEmpty=true
  ·have e1:(!decide (V.str z=V.str ""))=false:=by rw [dec_nil,hn];rfl
   rw [e1,Bool.false_and] at e
   rw [e1,if_neg Bool.false_ne_true,e]
   exact k
  ·have e1:(!decide (V.str z=V.str ""))=true:=by rw [dec_nil,Bool.eq_false_iff.mpr hn];rfl
   rw [e1,Bool.true_and] at e
   rw [e1,if_pos rfl]
   refine ⟨_,rfl,rfl,_,rfl,z,y,rfl,rfl,hz.s,rfl,?_⟩
   rw [e]
   exact k
theorem sc_is_word:FnScope ["thing"] ["thing"] (defScope (top 14)):=⟨rfl,rfl,rfl,by decide +kernel,rfl,by decide +kernel,by decide +kernel⟩
set_option maxHeartbeats 8000000 in
theorem ok_is_word (T:Tx K mg A):FnOk P w K mg base CX0 2 A.f_is_word A.d_is_word ["thing"] (sp_is_word K):=by
 have G_has_only:FnOk P w K mg base CX0 1 A.f_has_only A.d_has_only ["text","signs"] (sp_has_only K):=(ok_has_only T).mono (by decide)
 refine T.is_word.fn.ok sc_is_word (λvs H Q E h=>?_) (λcdv Ar outer s H vs Q E hr h=>?_)
 ·obtain ⟨z,rfl,_⟩:=h;rfl
 ·obtain ⟨z,rfl,hz,k⟩:=h
  refine ⟨_,pss_one (ps_ret (pe_and (pe_callB (r:=rIsi K) call_isi (by rfl) T.n_isinstance bt_isinstance (pa_cons (pv 0) (pa_cons (pe_bltn (v:=.ty "str") (by rfl) T.n_str bt_str rfl) (pa_nil)))) (pe_one (pe_call G_has_only hr (by rfl) T.has_only.mg T.has_only.fn.kp T.has_only.bd .nil pass0 (pa_cons (pv 0) (pa_cons (pe_glob (v:=.str SIGNS) (by rfl) (Exists.choose_spec T.g_WORD_SIGNS) ⟨_,rfl⟩) (pa_nil))))))),?_⟩
  refine ⟨_,rfl,_,"str",_,true,rfl,.str z,by rfl,_,rfl,iteT ?_⟩
  refine ⟨_,rfl,z,SIGNS,rfl,hz,?_⟩
  rw [has_signs]
  exact k
theorem sc_is_hole:FnScope ["part"] ["part"] (defScope (top 20)):=⟨rfl,rfl,rfl,by decide +kernel,rfl,by decide +kernel,by decide +kernel⟩
set_option maxHeartbeats 8000000 in
theorem ok_is_hole (T:Tx K mg A):FnOk P w K mg base CX0 1 A.f_is_hole A.d_is_hole ["part"] (sp_is_hole K):=by
 refine T.is_hole.fn.ok sc_is_hole (λvs H Q E h=>?_) (λcdv Ar outer s H vs Q E hr h=>?_)
 ·obtain ⟨v,pt,rfl,_⟩:=h;rfl
 ·obtain ⟨v,pt,rfl,hd,k⟩:=h
  obtain ⟨a,x,y,rfl,hq,_,_,hx⟩:=den_pt hd
  refine ⟨_,pss_one (ps_ret (pe_cmpR (op_eq) (pe_ix (r:=rIxT K) ix_tup (pv 0) (pe_int) (λ_ _=>rfl)) (pe_str) (nomark _))),?_⟩
  refine ⟨_,rfl,a,_,0,_,rfl,rfl,hq,rfl,rfl,?_⟩
  cases pt with
  | word w=>
   obtain ⟨rfl,_⟩:=hx
   rw [decide_eq_false (by decide)]
   exact k
  | hole m=>
   obtain ⟨rfl,_⟩:=hx
   rw [decide_eq_true rfl]
   exact k
end
end K13
namespace K13
open PySem L2 LG
section
variable {P:Program}{w:World}{K:PySem.W.Frag}{mg:Str->Option Value}{base:Heap}{A:Ad}
def sp_is_wordD (K:PySem.W.Frag):Sp:=λvs H Q _=>∃ (v:V) (d:PyData),vs=[v]/\Ld H v d/\Q (.bl (wordD d)) H
def sp_is_part (K:PySem.W.Frag):Sp:=λvs H Q _=>∃ (v:V) (d:PyData),vs=[v]/\Ld H v d/\d.depth<=90/\Q (.bl (partD d)) H
def sp_is_pattern (K:PySem.W.Frag):Sp:=λvs H Q _=>∃ (v:V) (d:PyData),vs=[v]/\Ld H v d/\d.depth<=90/\(∀ ds,d = .list ds->ds.length<=1000)/\∀ H',Same H H'->Q (.bl (patB d)) H'
theorem partD_len {ds:List PyData} (h:ds.length≠2):partD (.tuple ds)=false:=by
 unfold partD
 split
 ·rename_i e;cases e;exact absurd rfl h
 ·rfl
theorem partD_no {d:PyData} (h:isTupD d=false):partD d=false:=by
 unfold partD
 split
 ·cases h
 ·rfl
theorem patB_no {d:PyData} (h:isListD d=false):patB d=false:=by
 unfold patB
 split
 ·cases h
 ·rfl
theorem wordD_no {d:PyData} (h:isStrD d=false):wordD d=false:=by
 unfold wordD
 split
 ·cases h
 ·rfl
theorem dep_in {ds:List PyData}{d:PyData}{n:Nat} (h:(PyData.tuple ds).depth<=n) (hd:d∈ds):d.depth<=n:=by
 rw [PyData.depth] at h
 have:∀ l:List PyData,d∈l->d.depth<=PyData.depthAll l:=λl=>by
  induction l with
  | nil=>intro e;cases e
  | cons a l ih=>
   intro e
   rw [PyData.depthAll]
   rcases List.mem_cons.mp e with e | e
   ·rw [e];lia
   ·have:=ih e;lia
 have:=this ds hd
 lia
theorem dep_inL {ds:List PyData}{d:PyData}{n:Nat} (h:(PyData.list ds).depth<=n) (hd:d∈ds):d.depth<=n:=by
 rw [PyData.depth] at h
 exact dep_in (ds:=ds) (by rw [PyData.depth];exact h) hd
set_option maxHeartbeats 8000000 in
theorem okd_is_word (T:Tx K mg A):FnOk P w K mg base CX0 2 A.f_is_word A.d_is_word ["thing"] (sp_is_wordD K):=by
 have G_has_only:FnOk P w K mg base CX0 1 A.f_has_only A.d_has_only ["text","signs"] (sp_has_only K):=(ok_has_only T).mono (by decide)
 refine T.is_word.fn.ok sc_is_word (λvs H Q E h=>?_) (λcdv Ar outer s H vs Q E hr h=>?_)
 ·obtain ⟨v,d,rfl,_⟩:=h;rfl
 ·obtain ⟨v,d,rfl,hl,k⟩:=h
  refine ⟨_,pss_one (ps_ret (pe_and (pe_callB (r:=rIsi K) call_isi (by rfl) T.n_isinstance bt_isinstance (pa_cons (pv 0) (pa_cons (pe_bltn (v:=.ty "str") (by rfl) T.n_str bt_str rfl) (pa_nil)))) (pe_one (pe_call G_has_only hr (by rfl) T.has_only.mg T.has_only.fn.kp T.has_only.bd .nil pass0 (pa_cons (pv 0) (pa_cons (pe_glob (v:=.str SIGNS) (by rfl) (Exists.choose_spec T.g_WORD_SIGNS) ⟨_,rfl⟩) (pa_nil))))))),?_⟩
  obtain ⟨t,ht,hk,_⟩:=hl.ty (K:=K)
  refine ⟨_,rfl,_,"str",t,isStrD d,rfl,ht,hk,_,rfl,?_⟩
  rcases hl.str' with ⟨z,rfl,rfl,hz⟩ | hno
  ·refine iteT ?_
   refine ⟨_,rfl,z,SIGNS,rfl,hz.1,?_⟩
   rw [has_signs]
   exact k
  ·rw [hno]
   rw [wordD_no hno] at k
   exact iteF k
theorem sc_is_part:FnScope ["thing"] ["thing"] (defScope (top 18)):=⟨rfl,rfl,rfl,by decide +kernel,rfl,by decide +kernel,by decide +kernel⟩
set_option maxHeartbeats 8000000 in
theorem ok_is_part (T:Tx K mg A):FnOk P w K mg base CX0 3 A.f_is_part A.d_is_part ["thing"] (sp_is_part K):=by
 have G_is_word:FnOk P w K mg base CX0 2 A.f_is_word A.d_is_word ["thing"] (sp_is_word K):=(ok_is_word T).mono (by decide)
 refine T.is_part.fn.ok sc_is_part (λvs H Q E h=>?_) (λcdv Ar outer s H vs Q E hr h=>?_)
 ·obtain ⟨v,d,rfl,_⟩:=h;rfl
 ·obtain ⟨v,d,rfl,hl,hdep,k⟩:=h
  have G_is_wordD:FnOk P w K mg base CX0 2 A.f_is_word A.d_is_word ["thing"] (sp_is_wordD K):=okd_is_word T
  refine ⟨_,pss_cons (ps_if ((pw_or (pt_not (pt_val (pe_callB (r:=rIsi K) call_isi (by rfl) T.n_isinstance bt_isinstance (pa_cons (pv 0) (pa_cons (pe_bltn (v:=.ty "tuple") (by rfl) T.n_tuple bt_tuple rfl) (pa_nil)))))) (pw_or1 (pt_cmpR (op_ne) (pe_callB (r:=rLenS K) call_lenS (by rfl) T.n_len PySem.boot_len (pa_cons (pv 0) (pa_nil))) (pe_int) (nomark _)))).pt) (pss_one (ps_ret (pe_bl))) (pss_nil))
   (pss_cons (ps_if (pt_cmpR (r:=rEqD K) (op_eqD hr) (pe_ix (r:=rIxT K) ix_tup (pv 0) (pe_int) (λ_ _=>rfl)) (pe_str) (nomark _)) (pss_one (ps_ret (pe_call G_is_wordD hr (by rfl) T.is_word.mg T.is_word.fn.kp T.is_word.bd .nil pass0 (pa_cons (pe_ix (r:=rIxT K) ix_tup (pv 0) (pe_int) (λ_ _=>rfl)) (pa_nil))))) (pss_nil))
   (pss_one (ps_ret (pe_and (pe_cmpR (r:=rEqD K) (op_eqD hr) (pe_ix (r:=rIxT K) ix_tup (pv 0) (pe_int) (λ_ _=>rfl)) (pe_str) (nomark _)) (pe_one (pe_cmpR (r:=rInT K) (op_inT hr) (pe_ix (r:=rIxT K) ix_tup (pv 0) (pe_int) (λ_ _=>rfl)) (pe_glob (v:=.ref A.a_HOLE_KINDS) (by rfl) T.g_HOLE_KINDS rfl) (by rfl))))))),?_⟩
  obtain ⟨t,ht,_,_,hk⟩:=hl.ty (K:=K)
  refine ⟨_,rfl,_,"tuple",t,isTupD d,rfl,ht,hk,_,rfl,?_⟩
  rcases hl.tup' with ⟨a,xs,ds,rfl,rfl,ha,hds⟩ | hno
  ·have hq:SqT K H a xs:=.of ha
   refine iteF ?_
   refine ⟨_,rfl,a,xs,rfl,.inr hq,rfl,_,rfl,?_⟩
   have hxl:=hds.length
   by_cases h2:ds.length=2
   ·obtain ⟨x0,x1,d0,d1,rfl,rfl,l0,l1⟩:=hds.two h2
    rw [show decide (V.int (([x0,x1]:List V).length:Int)=V.int 2)=true from decide_eq_true rfl]
    refine iteF ?_
    have e0:=dep_in hdep (.head _)
    have e1:=dep_in hdep (.tail _ (.head _))
    have hw:PyData.strOk "word" = true:=by decide +kernel
    have hh:PyData.strOk "hole" = true:=by decide +kernel
    refine ⟨_,rfl,a,_,0,_,rfl,rfl,hq,rfl,d0,.str "word",l0.den,.str hw,by lia,_,rfl,?_⟩
    have k':Q (.bl (if PyData.eqv d0 (.str "word")=true then wordD d1 else PyData.eqv d0 (.str "hole") && ([.str "number",.str "name",.str "any"]:List PyData).any λe=>PyData.eqv e d1)) H:=k
    cases hb:PyData.eqv d0 (.str "word") with
    | true=>
     rw [hb,if_pos rfl] at k'
     exact iteT ⟨_,rfl,a,_,1,_,rfl,rfl,hq,rfl,x1,d1,rfl,l1,k'⟩
    | false=>
     rw [hb,if_neg Bool.false_ne_true] at k'
     refine iteF ⟨_,rfl,a,_,0,_,rfl,rfl,hq,rfl,d0,.str "hole",l0.den,.str hh,by lia,_,rfl,?_⟩
     cases hc:PyData.eqv d0 (.str "hole") with
     | false=>
      rw [hc,Bool.false_and] at k'
      exact iteF k'
     | true=>
      rw [hc,Bool.true_and] at k'
      have hsn:PyData.strOk "number" = true/\PyData.strOk "name" = true/\PyData.strOk "any" = true:=by decide +kernel
      exact iteT ⟨_,rfl,a,_,1,_,rfl,rfl,hq,rfl,_,d1,.tup (T.t_HOLE_KINDS _) (.cons (.str hsn.1) (.cons (.str hsn.2.1) (.cons (.str hsn.2.2) .nil))),l1.den,by lia,k'⟩
   ·rw [show decide (V.int (xs.length:Int)=V.int 2)=false from decide_eq_false (λz=>by injection z with z;lia)]
    rw [partD_len h2] at k
    exact iteT k
  ·rw [hno]
   rw [partD_no hno] at k
   exact iteT (iteT k)
theorem sc_is_pattern:FnScope ["thing"] ["thing"] (defScope (top 19)):=⟨rfl,rfl,rfl,by decide +kernel,rfl,by decide +kernel,by decide +kernel⟩
set_option maxHeartbeats 8000000 in
theorem ok_is_pattern (T:Tx K mg A):FnOk P w K mg base CX0 4 A.f_is_pattern A.d_is_pattern ["thing"] (sp_is_pattern K):=by
 have G_is_part:FnOk P w K mg base CX0 3 A.f_is_part A.d_is_part ["thing"] (sp_is_part K):=(ok_is_part T).mono (by decide)
 refine T.is_pattern.fn.ok sc_is_pattern (λvs H Q E h=>?_) (λcdv Ar outer s H vs Q E hr h=>?_)
 ·obtain ⟨v,d,rfl,_⟩:=h;rfl
 ·obtain ⟨v,d,rfl,hl,hdep,hlen,k⟩:=h
  refine ⟨_,pss_cons (ps_if (pt_not (pt_val (pe_callB (r:=rIsi K) call_isi (by rfl) T.n_isinstance bt_isinstance (pa_cons (pv 0) (pa_cons (pe_bltn (v:=.ty "list") (by rfl) T.n_list bt_list rfl) (pa_nil)))))) (pss_one (ps_ret (pe_bl))) (pss_nil))
   (pss_one (ps_ret (pe_and (pe_chain op_le op_le (pe_int) (pe_callB (r:=rLenS K) call_lenS (by rfl) T.n_len PySem.boot_len (pa_cons (pv 0) (pa_nil))) (pe_glob (v:=.int 12) (by rfl) (Exists.choose_spec T.g_MOST_PARTS) ⟨_,rfl⟩)) (pe_one (pe_callB (r:=rAll K) (call_all rfl) (by rfl) T.n_all bt_all (pa_cons (pe_comp (N':=["part"]) (n:=1) (fi:=[]) (g:=gName 0) rfl (cscope (defScope (top 19)) ["thing"] (by decide +kernel)) (pi_list (pv 0)) (λs H fp=>pg_name (i:=0) (show (["part"]:List Str).Nodup by decide +kernel) rfl (Or.inl rfl) (.inr rfl)) (λs H fp=>pifs_nil) (λs H fp=>pe_call G_is_part hr (by rfl) T.is_part.mg T.is_part.fn.kp T.is_part.bd .nil pass0 (pa_cons (pv 0) (pa_nil)))) (pa_nil))))))),?_⟩
  obtain ⟨t,ht,_,hk,_⟩:=hl.ty (K:=K)
  refine ⟨_,rfl,_,"list",t,isListD d,rfl,ht,hk,_,rfl,?_⟩
  rcases hl.lst' with ⟨a,xs,ds,rfl,rfl,ha,hds⟩ | hno
  ·refine iteF ?_
   have hq:SqL K H a xs:=.of ha
   have hxl:=hds.length
   have hdl:=hlen ds rfl
   have k':∀ H',Same H H'->Q (.bl (decide (1<=ds.length/\ds.length<=12) && ds.all partD)) H':=k
   refine ⟨_,rfl,a,xs,rfl,.inl hq,_,_,rfl,rfl,_,rfl,?_⟩
   by_cases h1:1<=ds.length
   ·rw [decide_eq_true (show (1:Int)<=(xs.length:Int) by lia)]
    refine iteT ⟨_,_,rfl,rfl,_,rfl,?_⟩
    by_cases h12:ds.length<=12
    ·rw [decide_eq_true (show (xs.length:Int)<=12 by lia)]
     refine iteT ⟨_,rfl,a,rfl,⟨_,hq⟩,λD hD=>?_⟩
     refine comp_list (K:=K) (xs:=xs) (λi acc σ H2=>(∃ u,σ=[u])/\Same H H2/\acc=((ds.take i).map partD).map V.bl) upd_same ⟨⟨_,rfl⟩,Same.new hD,rfl⟩ (λi acc σ H2 _ _ q=>q.2.1.seq hq) (λi x acc σ H2 hx hDx q=>?_) (λacc σ H2 hDx q=>?_)
     ·obtain ⟨q0,s2,rfl⟩:=q
      apply ex_1 q0
      clear q0
      intro u
      obtain ⟨d1,hd1,l1⟩:=hds.get hx
      have hi:=ge_len hd1
      refine compY ⟨_,rfl,x,d1,rfl,l1.same s2,dep_inL hdep (List.mem_of_getElem? hd1),_,hDx,small (by rw [List.length_map,List.length_map,List.length_take];lia),_,upd_same,⟨_,rfl⟩,snap_upd hD s2,?_⟩
      rw [List.take_add_one,hd1,List.map_append,List.map_append]
      rfl
     ·obtain ⟨_,s2,rfl⟩:=q
      rw [hxl,List.take_length] at hDx
      refine ⟨D,_,rfl,.of hDx,?_⟩
      have:=k' H2 s2
      rw [decide_eq_true ⟨h1,h12⟩,Bool.true_and] at this
      have e:(ds.map partD).all id=ds.all partD:=by rw [List.all_map];rfl
      rw [e]
      exact this
    ·rw [decide_eq_false (show ¬ (xs.length:Int)<=12 by lia)]
     have:=k' H (Same.refl H)
     rw [decide_eq_false (λz=>h12 z.2),Bool.false_and] at this
     exact iteF this
   ·rw [decide_eq_false (show ¬ (1:Int)<=(xs.length:Int) by lia)]
    have:=k' H (Same.refl H)
    rw [decide_eq_false (λz=>h1 z.1),Bool.false_and] at this
    exact iteF ⟨_,rfl,iteF this⟩
  ·rw [hno]
   have:=k H (Same.refl H)
   rw [patB_no hno] at this
   exact iteT this
theorem none_left2 (l:List Nat) (f:Nat->Bool):PyData.eqv (.list (((l.filter f).map sg).map .str)) (.list [])=l.all λc=>!f c:=by
 have:PyData.eqv (.list (((l.filter f).map sg).map .str)) (.list [])=(l.filter f).isEmpty:=by
  cases l.filter f with
  | nil=>rfl
  | cons a r=>rfl
 rw [this,Bool.eq_iff_iff,List.isEmpty_iff,List.filter_eq_nil_iff,List.all_eq_true]
 simp
end
end K13
namespace K13
open PySem L2 LG
section
variable {P:Program}{w:World}{K:PySem.W.Frag}{mg:Str->Option Value}{base:Heap}{A:Ad}
theorem word_ne {w:Str} (h:wordB w=true):w.cps.toList≠[]:=λe=>by
 unfold wordB onlyB at h
 rw [e] at h
 cases h
theorem in_spec {c:Nat}:inV (.str ⟨#[c]⟩) [.str "<",.str "="]=(decide (c=60) || decide (c=61)):=by
 have e1:(("<" : Str))=⟨#[60]⟩:=by decide +kernel
 have e2:(("=" : Str))=⟨#[61]⟩:=by decide +kernel
 unfold inV
 rw [e1,e2]
 have e3:∀ a:Nat,((⟨#[a]⟩:Str) == ⟨#[c]⟩)=decide (c=a):=λa=>by
  rw [Bool.eq_iff_iff,beq_iff_eq,decide_eq_true_eq]
  constructor
  ·intro h;injection h with h;simpa using h.symm
  ·intro h;rw [h]
 show (((⟨#[60]⟩:Str) == ⟨#[c]⟩) || (((⟨#[61]⟩:Str) == ⟨#[c]⟩) || false))=_
 rw [e3,e3,Bool.or_false]
theorem show_le {p:Pt} (h:PtK p):(showP p).length<=10001:=by
 cases p with
 | hole k=>
  have:∀ k<3,(showP (.hole k)).length<=10001:=by decide +kernel
  exact this k h
 | word w=>
  show (if spec2 w=true then "=" ++ w else w).length<=10001
  have:=h.2.1
  split
  ·rw [PySem.Str.length_append]
   have:(("=" : Str)).length=1:=rfl
   lia
  ·lia
def sp_show_part (K:PySem.W.Frag):Sp:=λvs H Q _=>∃ (v:V) (p:Pt),vs=[v]/\Den K H v p.dat/\PtK p/\∀ H',Same H H'->Q (.str (showP p)) H'
def sp_show_pattern (K:PySem.W.Frag):Sp:=λvs H Q _=>∃ (v:V) (ps:List Pt),vs=[v]/\Den K H v (patD ps)/\(∀ p∈ps,PtK p)/\ps.length<=100/\∀ H',Same H H'->Q (.str (Txt.join " " (ps.map showP))) H'
theorem sc_show_part:FnScope ["part","text"] ["part"] (defScope (top 22)):=⟨rfl,rfl,rfl,by decide +kernel,rfl,by decide +kernel,by decide +kernel⟩
set_option maxHeartbeats 8000000 in
theorem ok_show_part (T:Tx K mg A):FnOk P w K mg base CX0 2 A.f_show_part A.d_show_part ["part"] (sp_show_part K):=by
 have G_is_hole:FnOk P w K mg base CX0 1 A.f_is_hole A.d_is_hole ["part"] (sp_is_hole K):=(ok_is_hole T).mono (by decide)
 refine T.show_part.fn.ok sc_show_part (λvs H Q E h=>?_) (λcdv Ar outer s H vs Q E hr h=>?_)
 ·obtain ⟨v,p,rfl,_⟩:=h;rfl
 ·obtain ⟨v,p,rfl,hd,hp,k⟩:=h
  obtain ⟨a,x,y,ev,hq,_,_,hx⟩:=den_pt hd
  refine ⟨_,pss_cons (ps_set (i:=1) sc_show_part.nd rfl (Or.inl rfl) (pe_ix (r:=rIxT K) ix_tup (pv 0) (pe_int) (λ_ _=>rfl)))
   (pss_cons (ps_if (pt_val (pe_call G_is_hole hr (by rfl) T.is_hole.mg T.is_hole.fn.kp T.is_hole.bd .nil pass0 (pa_cons (pv 0) (pa_nil)))) (pss_one (ps_ret (pe_fst (pv 1)))) (pss_nil))
   (pss_one (ps_ret (pe_ifExp (pt_cmpR (r:=rIn K false) (op_in_seq) (pe_ix ix_str (pv 1) (pe_int) (λ_ _=>rfl)) (pe_tup (pa_cons (pe_str) (pa_cons (pe_str) (pa_nil)))) (by rfl)) (pe_fst1 (pv 1)) (pv 1))))),?_⟩
  subst ev
  refine ⟨_,rfl,a,_,1,_,rfl,rfl,hq,rfl,?_⟩
  refine ⟨_,rfl,.ref a,p,rfl,hd,_,rfl,?_⟩
  cases p with
  | hole m=>
   obtain ⟨rfl,rfl⟩:=hx
   refine iteT ⟨_,rfl,_,rfl,?_,k H (Same.refl _)⟩
   have:∀ m<3,(kindS m).length<=100000:=by decide +kernel
   exact this m hp
  | word w=>
   obtain ⟨rfl,rfl⟩:=hx
   have hne:=word_ne hp.1
   have hl:=hp.2.1
   refine iteF ?_
   have hk:=k
   cases hc:y.cps.toList with
   | nil=>exact (hne hc).elim
   | cons c r=>
    refine ⟨_,rfl,y,0,c,rfl,rfl,?_,by rw [hc];exact atI_nat (j:=0) rfl,(by show 2<=sizeLine;decide),λt ht=>⟨t,_,rfl,.inr (.of upd_same),rfl,rfl,_,rfl,?_⟩⟩
    ·exact Nat.le_of_lt (small (by lia))
    ·rw [if_neg Bool.false_ne_true,in_spec]
     have es:spec2 y=(decide (c=60) || decide (c=61)):=by unfold spec2;rw [hc]
     rw [<-es]
     have st:=Same.new (o:=.tup [.str "<",.str "="]) ht
     have k2:=k _ st
     have e3:showP (.word y)=if spec2 y=true then "=" ++ y else y:=rfl
     rw [e3] at k2
     cases hs:spec2 y with
     | true=>
      rw [hs,if_pos rfl] at k2
      exact iteT ⟨_,rfl,y,rfl,by lia,k2⟩
     | false=>
      rw [hs,if_neg Bool.false_ne_true] at k2
      exact iteF ⟨_,rfl,k2⟩
theorem sc_show_pattern:FnScope ["pattern"] ["pattern"] (defScope (top 23)):=⟨rfl,rfl,rfl,by decide +kernel,rfl,by decide +kernel,by decide +kernel⟩
set_option maxHeartbeats 8000000 in
theorem ok_show_pattern (T:Tx K mg A):FnOk P w K mg base CX0 3 A.f_show_pattern A.d_show_pattern ["pattern"] (sp_show_pattern K):=by
 have G_show_part:FnOk P w K mg base CX0 2 A.f_show_part A.d_show_part ["part"] (sp_show_part K):=(ok_show_part T).mono (by decide)
 refine T.show_pattern.fn.ok sc_show_pattern (λvs H Q E h=>?_) (λcdv Ar outer s H vs Q E hr h=>?_)
 ·obtain ⟨v,ps,rfl,_⟩:=h;rfl
 ·obtain ⟨v,ps,rfl,hd,hp,hl,k⟩:=h
  obtain ⟨a,xs,ev,hqa,hda⟩:=den_pat hd
  have hxl:xs.length=ps.length:=by rw [hda.length,List.length_map]
  refine ⟨_,pss_one (ps_ret (pe_bm (r:=rJoin K) PySem.F.plainAttrs_str PySem.F.slot_str_join PySem.F.type_str_join mt_join (pe_str) (pa_cons (pe_comp (N':=["part"]) (n:=1) (fi:=[]) (g:=gName 0) rfl (cscope (defScope (top 23)) ["pattern"] (by decide +kernel)) (pi_list (pv 0)) (λs H fp=>pg_name (i:=0) (show (["part"]:List Str).Nodup by decide +kernel) rfl (Or.inl rfl) (.inr rfl)) (λs H fp=>pifs_nil) (λs H fp=>pe_call G_show_part hr (by rfl) T.show_part.mg T.show_part.fn.kp T.show_part.bd .nil pass0 (pa_cons (pv 0) (pa_nil)))) (pa_nil)))),?_⟩
  subst ev
  refine ⟨rfl,_,rfl,a,rfl,⟨_,hqa⟩,λD hD=>?_⟩
  refine comp_list (K:=K) (xs:=xs) (λi acc σ H2=>(∃ u,σ=[u])/\Same H H2/\acc=((ps.take i).map showP).map V.str) upd_same ⟨⟨_,rfl⟩,Same.new hD,rfl⟩ (λi acc σ H2 _ _ q=>q.2.1.seq hqa) (λi x acc σ H2 hx hDx q=>?_) (λacc σ H2 hDx q=>?_)
  ·obtain ⟨q0,s2,rfl⟩:=q
   apply ex_1 q0
   clear q0
   intro u
   obtain ⟨p,hpi,hdp⟩:=dens_pt hda hx
   have hi:=ge_len hpi
   refine compY ⟨_,rfl,x,p,rfl,hdp.same s2,hp p (List.mem_of_getElem? hpi),λH3 s3=>⟨_,s3 _ _ hDx,small (by rw [List.length_map,List.length_map,List.length_take];lia),_,upd_same,⟨_,rfl⟩,snap_upd hD (s2.trans s3),?_⟩⟩
   rw [List.take_add_one,hpi,List.map_append,List.map_append]
   rfl
  ·obtain ⟨_,s2,rfl⟩:=q
   rw [List.take_of_length_le (by lia)] at hDx
   have h1:((" " : Str)).length=1:=rfl
   refine ⟨" ",D,_,rfl,rfl,.of hDx,join_fits (m:=10001) (λy hy=>?_) (by rw [h1,List.length_map];lia),k H2 s2⟩
   obtain ⟨p,hpm,rfl⟩:=List.mem_map.mp hy
   exact show_le (hp p hpm)
theorem partD_word (w:Str):partD (.tuple [.str "word",.str w])=wordB w:=by
 show (if PyData.eqv (.str "word") (.str "word")=true then wordD (.str w) else PyData.eqv (.str "word") (.str "hole") && ([.str "number",.str "name",.str "any"]:List PyData).any λe=>PyData.eqv e (.str w))=_
 rw [if_pos (show PyData.eqv (.str "word") (.str "word")=true by decide +kernel)]
 rfl
theorem partD_hole {z:Str} (h:partD (.tuple [.str "hole",.str z])=true):∃ m,m<3/\z=kindS m:=by
 have e:partD (.tuple [.str "hole",.str z])=(PyData.eqv (.str "hole") (.str "hole") && ([.str "number",.str "name",.str "any"]:List PyData).any λe=>PyData.eqv e (.str z)):=by
  exact if_neg (t:=wordD (.str z)) (show ¬ PyData.eqv (.str "hole") (.str "word")=true by decide +kernel)
 rw [e,Bool.and_eq_true,List.any_eq_true] at h
 obtain ⟨_,d,hd,hz⟩:=h
 have q:∀ y:Str,PyData.eqv (.str y) (.str z)=true->z=y:=λy h=>by
  have:y=z:=by simpa [PyData.eqv] using h
  exact this.symm
 simp only [List.mem_cons,List.not_mem_nil,or_false] at hd
 rcases hd with rfl | rfl | rfl
 ·exact ⟨0,by decide,q _ hz⟩
 ·exact ⟨1,by decide,q _ hz⟩
 ·exact ⟨2,by decide,q _ hz⟩
theorem partD_kind:∀ m<3,partD (.tuple [.str "hole",.str (kindS m)])=true:=by decide +kernel
def spx_read_part (K:PySem.W.Frag) (C:Addr):Sp:=λvs H Q E=>∃ z:Str,vs=[.str z]/\TOk z/\(∀ p,readQ z=some p->∀ t H',H t=none->Same H H'->H' t=some (.tup (ptV p))->Q (.ref t) H')/\(readQ z=none->∀ ea H',Same H H'->E (.ref C) (some ea) H')
theorem sc_read_part:FnScope ["text","part"] ["text"] (defScope (top 24)):=⟨rfl,rfl,rfl,by decide +kernel,rfl,by decide +kernel,by decide +kernel⟩
set_option maxHeartbeats 8000000 in
theorem okx_read_part (T:Tx K mg A):FnOk P w K mg base (CXe P w) 4 A.f_read_part A.d_read_part ["text"] (spx_read_part K A.c_NoText):=by
 have G_is_part:FnOk P w K mg base CX0 3 A.f_is_part A.d_is_part ["thing"] (sp_is_part K):=(ok_is_part T).mono (by decide)
 have G_show_part:FnOk P w K mg base CX0 3 A.f_show_part A.d_show_part ["part"] (sp_show_part K):=(ok_show_part T).mono (by decide)
 refine T.read_part.fn.okE sc_read_part (λvs H Q E h=>?_) (λcdv Ar outer s H vs Q E hr h=>?_)
 ·obtain ⟨z,rfl,_⟩:=h;rfl
 ·obtain ⟨z,rfl,hz,k1,k2⟩:=h
  refine ⟨_,pss_cons (ps_set (i:=1) sc_read_part.nd rfl (Or.inl rfl) (pe_ifExp (pt_val (pe_bm PySem.F.plainAttrs_str PySem.F.slot_str_startswith PySem.F.type_str_startswith mt_starts (pv 0) (pa_cons (pe_str) (pa_nil)))) (pe_tup (pa_cons (pe_str) (pa_cons (pe_slice sl_str (pv 0) (po_some (pe_int)) (po_some (pe_un un_neg (pe_int)))) (pa_nil)))) (pe_tup (pa_cons (pe_str) (pa_cons (pe_bm PySem.F.plainAttrs_str PySem.F.slot_str_removeprefix PySem.F.type_str_removeprefix mt_rmpre (pv 0) (pa_cons (pe_str) (pa_nil))) (pa_nil))))))
   (pss_cons (ps_if ((pw_or (pt_not (pt_val (pe_call G_is_part hr (by rfl) T.is_part.mg T.is_part.fn.kp T.is_part.bd .nil pass0 (pa_cons (pv 1) (pa_nil))))) (pw_or1 (pt_cmpR (op_ne) (pe_call G_show_part hr (by rfl) T.show_part.mg T.show_part.fn.kp T.show_part.bd .nil pass0 (pa_cons (pv 1) (pa_nil))) (pv 0) (nomark _)))).pt) (pss_one (ps_raise (E:=E) (λ_ _ z ↦ z) rfl rfl rfl rfl (by rfl) T.m_NoText T.x_NoText (pa_cons (pe_str) (pa_nil)))) (pss_nil))
   (pss_one (ps_ret (pv 1)))),?_⟩
  have hl:=hz.1
  refine ⟨_,rfl,rfl,_,"<",rfl,rfl,_,rfl,?_⟩
  cases hs:Txt.startswith z "<" with
  | true=>
   refine iteT ?_
   refine ⟨_,rfl,1,rfl,1,rfl,-1,rfl,_,rfl,Nat.le_of_lt (small (by lia)),(by show 2<=sizeLine;decide),λt ht=>?_⟩
   have st:=Same.new (o:=.tup [.str "hole",.str (Txt.slice z (some 1) (some (-1)))]) ht
   have hut:(upd H t (.tup [.str "hole",.str (Txt.slice z (some 1) (some (-1)))])) t=some (.tup [.str "hole",.str (Txt.slice z (some 1) (some (-1)))]):=upd_same
   have hso:=ok_slice (z:=z) (l:=some 1) (u:=some (-1)) hz.2
   have hlt:=readQ_lt hs
   generalize upd H t (.tup [.str "hole",.str (Txt.slice z (some 1) (some (-1)))])=H1 at st hut ⊢
   generalize Txt.slice z (some 1) (some (-1))=y at st hut hso hlt ⊢
   have hld:Ld H1 (.ref t) (.tuple [.str "hole",.str y]):=.tup hut (.cons (.str ⟨by decide,by decide +kernel⟩) (.cons (.str ⟨by lia,hso.1⟩) .nil))
   refine ⟨_,rfl,.ref t,_,rfl,hld,(by show 1<=90;decide),_,rfl,?_⟩
   cases hp:partD (.tuple [.str "hole",.str y]) with
   | false=>
    refine iteT ?_
    rcases hlt with ⟨m,hm,e,_⟩ | ⟨e,_⟩
    ·rw [e,partD_kind m hm] at hp;cases hp
    ·exact iteT ⟨(by show 1<=sizeLine;decide),λea _=>k2 e ea _ st⟩
   | true=>
    obtain ⟨m,hm,rfl⟩:=partD_hole hp
    refine iteF ?_
    have pa:PtAt H1 (.ref t) (.hole m):=⟨t,rfl,hut⟩
    refine ⟨_,rfl,.ref t,.hole m,rfl,(pt_ld pa hm).den,hm,λH2 s2=>⟨_,rfl,rfl,_,rfl,?_⟩⟩
    by_cases e:showP (.hole m)=z
    ·rw [e,decide_eq_true rfl]
     have hr:readQ z=some (.hole m):=by rw [<-e];exact readQ_hole hm
     exact iteF ⟨_,rfl,k1 _ hr t _ ht (st.trans s2) (s2 _ _ hut)⟩
    ·rw [decide_eq_false (λq=>e (by injection q))]
     rcases hlt with ⟨m',hm',e1,e2,_⟩ | ⟨e1,_⟩
     ·have:m=m':=by
       have e3:showP (.hole m)=showP (.hole m'):=by
        show "<" ++ kindS m ++ ">" = "<" ++ kindS m' ++ ">"
        rw [e1]
       exact (e (e3.trans e2)).elim
      exact (e (by rw [this];exact e2)).elim
     ·exact iteT ⟨(by show 1<=sizeLine;decide),λea _=>k2 e1 ea _ (st.trans s2)⟩
  | false=>
   refine iteF ?_
   refine ⟨_,rfl,rfl,_,"=",rfl,rfl,Nat.le_of_lt (small (by lia)),(by show 2<=sizeLine;decide),λt ht=>?_⟩
   have st:=Same.new (o:=.tup [.str "word",.str (Txt.removeprefix z "=")]) ht
   have hut:(upd H t (.tup [.str "word",.str (Txt.removeprefix z "=")])) t=some (.tup [.str "word",.str (Txt.removeprefix z "=")]):=upd_same
   have hso:=rm_sub (y:= "=") hz.2
   have hlt:=readQ_wd hs
   generalize upd H t (.tup [.str "word",.str (Txt.removeprefix z "=")])=H1 at st hut ⊢
   generalize Txt.removeprefix z "=" = y at st hut hso hlt ⊢
   have hty:TOk y:=⟨by lia,hso.1⟩
   have hld:Ld H1 (.ref t) (.tuple [.str "word",.str y]):=.tup hut (.cons (.str ⟨by decide,by decide +kernel⟩) (.cons (.str hty) .nil))
   refine ⟨_,rfl,.ref t,_,rfl,hld,(by show 1<=90;decide),_,rfl,?_⟩
   rw [partD_word]
   cases hp:wordB y with
   | false=>
    rw [if_neg (λq=>by rw [hp] at q;cases q.1)] at hlt
    exact iteT (iteT ⟨(by show 1<=sizeLine;decide),λea _=>k2 hlt ea _ st⟩)
   | true=>
    refine iteF ?_
    have pa:PtAt H1 (.ref t) (.word y):=⟨t,rfl,hut⟩
    refine ⟨_,rfl,.ref t,.word y,rfl,(pt_ld pa hty).den,⟨hp,hty⟩,λH2 s2=>⟨_,rfl,rfl,_,rfl,?_⟩⟩
    by_cases e:showP (.word y)=z
    ·rw [if_pos ⟨hp,e⟩] at hlt
     rw [e,decide_eq_true rfl]
     exact iteF ⟨_,rfl,k1 _ hlt t _ ht (st.trans s2) (s2 _ _ hut)⟩
    ·rw [if_neg (λq=>e q.2)] at hlt
     rw [decide_eq_false (λq=>e (by injection q))]
     exact iteT ⟨(by show 1<=sizeLine;decide),λea _=>k2 hlt ea _ (st.trans s2)⟩
end
end K13
namespace K13
open PySem L2 LG
section
variable {P:Program}{w:World}{K:PySem.W.Frag}{mg:Str->Option Value}{base:Heap}{A:Ad}
theorem bt_ValueError:bootBuiltins "ValueError" = some (.type "ValueError"):=by decide +kernel
def sp_name (K:PySem.W.Frag) (c:Addr) (z:Str):Addr->Addr->Sp:=λea C vs H Q _=>vs=[.ref ea]/\C=c/\∀ H',Same H H'->Q (.str z) H'
def nameZ:List Str:=["NoFit","NoJoin","NoLine","NoMoment","NoPattern","NoRow","NoText","NothingLeft","TooMany","+"]
def kindB:List Bool:=[false,false,false,false,false,false,true,false,false,true]
def nameA (n:Nat):List V:=(((nameZ.zip kindB).take n).filter λx=>x.2).map λx=>V.str x.1
theorem bls_at {bs:List Bool}{i:Nat}{y:V} (h:(bs.map V.bl)[i]? = some y):∃ b,bs[i]? = some b/\y = .bl b:=by
 rw [List.getElem?_map] at h
 cases e:bs[i]? with
 | none=>rw [e] at h;cases h
 | some b=>rw [e] at h;cases h;exact ⟨b,rfl,rfl⟩
theorem nameA_next {i:Nat}{z:Str}{b:Bool} (hz:nameZ[i]? = some z) (hb:kindB[i]? = some b):nameA (i+1)=nameA i++if b=true then [.str z] else []:=by
 unfold nameA
 have e:(nameZ.zip kindB)[i]? = some (z,b):=List.getElem?_zip_eq_some.mpr ⟨hz,hb⟩
 rw [List.take_add_one,e,List.filter_append,List.map_append]
 cases b <;> rfl
theorem sc__law_name_of:FnScope ["e","kinds","names"] ["e"] (defScope (top 29)):=⟨rfl,rfl,rfl,by decide +kernel,rfl,by decide +kernel,by decide +kernel⟩
set_option maxHeartbeats 8000000 in
theorem okh__law_name_of (T:Tx K mg A):FnOkH P w K mg base CX0 1 A.f__law_name_of A.d__law_name_of ["e"] (sp_name K A.c_NoText "NoText+"):=by
 refine T._law_name_of.fn.okH sc__law_name_of (λea C vs H Q E h=>?_) (λcdv ea C oe vv Ar outer s H vs Q E hr hA hc hd hv v2 h=>?_)
 ·obtain ⟨rfl,_⟩:=h;rfl
 ·obtain ⟨rfl,rfl,k⟩:=h
  refine ⟨_,(pssj_cons ⟨ps_set (i:=1) sc__law_name_of.nd rfl (Or.inl rfl) (pe_lstj (paj_cons (pe_callB (r:=rIsiX K ea A.c_NoText) (call_isiX (oe:=oe) (.head _) hc hd hv T.k_NoText) (by rfl) T.n_isinstance bt_isinstance (pa_cons (pv 0) (pa_cons (pe_cls (by rfl) T.m_NoFit) (pa_nil)))) (paj_cons (pe_callB (r:=rIsiX K ea A.c_NoText) (call_isiX (oe:=oe) (.head _) hc hd hv T.k_NoText) (by rfl) T.n_isinstance bt_isinstance (pa_cons (pv 0) (pa_cons (pe_cls (by rfl) T.m_NoJoin) (pa_nil)))) (paj_cons (pe_callB (r:=rIsiX K ea A.c_NoText) (call_isiX (oe:=oe) (.head _) hc hd hv T.k_NoText) (by rfl) T.n_isinstance bt_isinstance (pa_cons (pv 0) (pa_cons (pe_cls (by rfl) T.m_NoLine) (pa_nil)))) (paj_cons (pe_callB (r:=rIsiX K ea A.c_NoText) (call_isiX (oe:=oe) (.head _) hc hd hv T.k_NoText) (by rfl) T.n_isinstance bt_isinstance (pa_cons (pv 0) (pa_cons (pe_cls (by rfl) T.m_NoMoment) (pa_nil)))) (paj_nil))))))⟩
   (pssj_cons ⟨ps_set (i:=1) sc__law_name_of.nd rfl (Or.inl rfl) (pe_op (r:=rCatS K) op_catS (pv 1) (pe_lstj (paj_cons (pe_callB (r:=rIsiX K ea A.c_NoText) (call_isiX (oe:=oe) (.head _) hc hd hv T.k_NoText) (by rfl) T.n_isinstance bt_isinstance (pa_cons (pv 0) (pa_cons (pe_cls (by rfl) T.m_NoPattern) (pa_nil)))) (paj_cons (pe_callB (r:=rIsiX K ea A.c_NoText) (call_isiX (oe:=oe) (.head _) hc hd hv T.k_NoText) (by rfl) T.n_isinstance bt_isinstance (pa_cons (pv 0) (pa_cons (pe_cls (by rfl) T.m_NoRow) (pa_nil)))) (paj_cons (pe_callB (r:=rIsiX K ea A.c_NoText) (call_isiX (oe:=oe) (.head _) hc hd hv T.k_NoText) (by rfl) T.n_isinstance bt_isinstance (pa_cons (pv 0) (pa_cons (pe_cls (by rfl) T.m_NoText) (pa_nil)))) (paj_nil))))))⟩
   (pssj_cons ⟨ps_set (i:=1) sc__law_name_of.nd rfl (Or.inl rfl) (pe_op (r:=rCatS K) op_catS (pv 1) (pe_lstj (paj_cons (pe_callB (r:=rIsiX K ea A.c_NoText) (call_isiX (oe:=oe) (.head _) hc hd hv T.k_NoText) (by rfl) T.n_isinstance bt_isinstance (pa_cons (pv 0) (pa_cons (pe_cls (by rfl) T.m_NothingLeft) (pa_nil)))) (paj_cons (pe_callB (r:=rIsiX K ea A.c_NoText) (call_isiX (oe:=oe) (.head _) hc hd hv T.k_NoText) (by rfl) T.n_isinstance bt_isinstance (pa_cons (pv 0) (pa_cons (pe_cls (by rfl) T.m_TooMany) (pa_nil)))) (paj_cons (pe_callB (r:=rIsiX K ea A.c_NoText) (call_isiX (oe:=oe) (.head _) hc hd hv T.k_NoText) (by rfl) T.n_isinstance bt_isinstance (pa_cons (pv 0) (pa_cons (pe_bltn (v:=.ty "ValueError") (by rfl) T.n_ValueError bt_ValueError rfl) (pa_nil)))) (paj_nil))))))⟩
   (pssj_cons ⟨ps_set (i:=2) sc__law_name_of.nd rfl (Or.inl rfl) (pe_lstj (paj_s (paj_s (paj_s (paj_s (paj_s (paj_s (paj_s (paj_s (paj_s (paj_s (paj_nil))))))))))))⟩
   (pssj_cons ⟨ps_ret (pe_bm (r:=rJoin K) PySem.F.plainAttrs_str PySem.F.slot_str_join PySem.F.type_str_join mt_join (pe_str) (pa_cons (pe_compH (N':=["name","kind"]) (n:=2) (fi:=[]) (g:=gTup K 2 (gCons (gName 0) (gCons (gName 1) (gNil)))) (hd_pin (oe:=oe) hA (.head _) hv v2) (cscope (defScope (top 29)) ["e","kinds","names"] (by decide +kernel)) (pi_zipH (hd_pin (oe:=oe) hA (.head _) hv v2) (by rfl) T.n_zip (pa_cons (pv 2) (pa_cons (pv 1) (pa_nil)))) (λs H fp=>λhy ↦ pg_tupH hy (pgs_cons (pg_name (i:=0) (show (["name","kind"]:List Str).Nodup by decide +kernel) rfl (Or.inl rfl) (.inr rfl)) (pgs_cons (pg_name (i:=1) (show (["name","kind"]:List Str).Nodup by decide +kernel) rfl (Or.inl rfl) (.inr rfl)) (pgs_nil)))) (λs H fp=>pifs_one (pt_val (pv 1))) (λs H fp=>pv 0)) (pa_nil)))⟩
   (⟨pss_nil⟩)))))).go,?_⟩
  refine ⟨_,rfl,_,_,rfl,T.i_NoText_NoFit,_,rfl,_,_,rfl,T.i_NoText_NoJoin,_,rfl,_,_,rfl,T.i_NoText_NoLine,_,rfl,_,_,rfl,T.i_NoText_NoMoment,(by show 4<=sizeLine;decide),λL1 hL1=>?_⟩
  generalize hH1:upd H L1 _=H1
  have s1:Same H H1:=by rw [<-hH1];exact Same.new hL1
  have h1:H1 L1=some (.lst ((kindB.take 4).map V.bl)):=by rw [<-hH1,upd_same];rfl
  clear hH1
  refine ⟨_,rfl,_,rfl,_,_,rfl,T.i_NoText_NoPattern,_,rfl,_,_,rfl,T.i_NoText_NoRow,_,rfl,_,_,rfl,T.i_NoText_NoText,(by show 3<=sizeLine;decide),λL2 hL2=>?_⟩
  generalize hH2:upd H1 L2 _=H2
  have s2:Same H1 H2:=by rw [<-hH2];exact Same.new hL2
  have h2:H2 L2=some (.lst (((kindB.drop 4).take 3).map V.bl)):=by rw [<-hH2,upd_same];rfl
  clear hH2
  refine ⟨L1,L2,_,_,rfl,rfl,.of (s2 _ _ h1),.of h2,(by show 7<=sizeLine;decide),λM1 hM1=>?_⟩
  generalize hH3:upd H2 M1 _=H3
  have s3:Same H2 H3:=by rw [<-hH3];exact Same.new hM1
  have h3:H3 M1=some (.lst ((kindB.take 7).map V.bl)):=by rw [<-hH3,upd_same];rfl
  clear hH3
  refine ⟨_,rfl,_,rfl,_,_,rfl,T.i_NoText_NothingLeft,_,rfl,_,_,rfl,T.i_NoText_TooMany,_,rfl,_,_,rfl,T.i_NoText_V,(by show 3<=sizeLine;decide),λL3 hL3=>?_⟩
  generalize hH4:upd H3 L3 _=H4
  have s4:Same H3 H4:=by rw [<-hH4];exact Same.new hL3
  have h4:H4 L3=some (.lst ((kindB.drop 7).map V.bl)):=by rw [<-hH4,upd_same];rfl
  clear hH4
  refine ⟨M1,L3,_,_,rfl,rfl,.of (s4 _ _ h3),.of h4,(by show 10<=sizeLine;decide),λM2 hM2=>?_⟩
  generalize hH5:upd H4 M2 _=H5
  have s5:Same H4 H5:=by rw [<-hH5];exact Same.new hM2
  have h5:H5 M2=some (.lst (kindB.map V.bl)):=by rw [<-hH5,upd_same];rfl
  clear hH5
  refine ⟨(by show 10<=sizeLine;decide),λL4 hL4=>?_⟩
  generalize hH6:upd H5 L4 _=H6
  have s6:Same H5 H6:=by rw [<-hH6];exact Same.new hL4
  have h6:H6 L4=some (.lst (nameZ.map V.str)):=by rw [<-hH6,upd_same];rfl
  clear hH6
  have h56:=s6 _ _ h5
  refine ⟨rfl,_,rfl,_,rfl,L4,M2,rfl,⟨_,.of h6⟩,⟨_,.of h56⟩,λD hD=>?_⟩
  refine comp_zipH (K:=K) (xs:=nameZ.map V.str) (ys:=kindB.map V.bl) (λi acc σ H7=>(∃ u v,σ=[u,v])/\Same H6 H7/\acc=nameA i) (by decide) upd_same ⟨⟨_,_,rfl⟩,Same.new hD,rfl⟩ (λi acc σ H7 _ q=>⟨.of (q.2.1 _ _ h6),.of (q.2.1 _ _ h56)⟩) (λi x y acc σ H7 p hx hy hDx q hp=>?_) (λacc σ H7 hDx q=>?_)
  ·obtain ⟨q0,s7,rfl⟩:=q
   apply ex_2 q0
   clear q0
   intro u v
   obtain ⟨z,hz,rfl⟩:=strs_at hx
   obtain ⟨b,hb,rfl⟩:=bls_at hy
   have sp:=Same.new (o:=.tup [.str z,.bl b]) hp
   have hal:(nameA i).length<=10:=by
    unfold nameA
    rw [List.length_map]
    refine Nat.le_trans (List.length_filter_le _ _) ?_
    rw [List.length_take]
    exact Nat.le_trans (Nat.min_le_right _ _) (by decide)
   refine ⟨p,_,rfl,.of upd_same,rfl,_,_,rfl,_,_,rfl,rfl,?_⟩
   refine ⟨_,rfl,_,rfl,?_⟩
   rw [nameA_next hz hb]
   cases b with
   | true=>exact iteT ⟨_,rfl,_,sp _ _ hDx,small (by lia),_,upd_same,⟨_,_,rfl⟩,snap_upd hD (s7.trans sp),rfl⟩
   | false=>exact iteF ⟨_,sp _ _ hDx,⟨_,_,rfl⟩,s7.trans sp,(List.append_nil _).symm⟩
  ·obtain ⟨_,s7,rfl⟩:=q
   have e:nameA (nameZ.map V.str).length=(["NoText","+"]:List Str).map V.str:=rfl
   rw [e] at hDx
   have e2:Txt.join "" ["NoText","+"] = "NoText+" :=by decide +kernel
   refine ⟨"",D,["NoText","+"],rfl,rfl,.of hDx,by decide +kernel,?_⟩
   rw [e2]
   exact k _ (((((s1.trans s2).trans s3).trans s4).trans s5).trans (s6.trans s7))
end
end K13
namespace K13
open PySem L2 LG
section
variable {P:Program}{w:World}{K:PySem.W.Frag}{mg:Str->Option Value}{base:Heap}{A:Ad}
def spx_read_pattern (K:PySem.W.Frag) (C:Addr):Sp:=λvs H Q E=>∃ z:Str,vs=[.str z]/\PyData.strOk z=true/\z.length<=990 /\
 (∀ ps,(Txt.split z " ").map readQ=ps.map some->ps.length<=12->∀ D acc H',H D=none->Same H H'->H' D=some (.lst acc)->PtsAt H' acc ps->Q (.ref D) H') /\
 (((∃ x∈Txt.split z " ",readQ x=none)\/12<(Txt.split z " ").length)->∀ ea H',Same H H'->E (.ref C) (some ea) H')
theorem sc_read_pattern:FnScope ["text","pattern"] ["text"] (defScope (top 25)):=⟨rfl,rfl,rfl,by decide +kernel,rfl,by decide +kernel,by decide +kernel⟩
def NRq (ws:List Str) (H1:Hp) (i:Nat) (acc:List V) (σ:St) (H2:Hp):Prop:=(∃ u,σ=[u])/\Same H1 H2/\∃ ps,(ws.take i).map readQ=ps.map some/\PtsAt H2 acc ps
theorem part_b {p:Pt} (h:PtK p):partD p.dat=true:=by
 cases p with
 | word w=>exact (partD_word w).trans h.1
 | hole k=>exact partD_kind k h
theorem read_len {ws:List Str}{ps:List Pt} (h:ws.map readQ=ps.map some):ps.length=ws.length:=by
 have:=congrArg List.length h
 simpa using this.symm
theorem read_each {ws:List Str}{ps:List Pt} (h:ws.map readQ=ps.map some) (hz:∀ x∈ws,TOk x):∀ p∈ps,PtK p:=λp hp=>by
 obtain ⟨i,hi,rfl⟩:=List.getElem_of_mem hp
 have hiw:i<ws.length:=by rw [<-read_len h];exact hi
 have e:(ws.map readQ)[i]? = (ps.map some)[i]?:=by rw [h]
 rw [List.getElem?_map,List.getElem?_map,List.getElem?_eq_getElem hi,List.getElem?_eq_getElem hiw] at e
 exact readQ_ok (hz _ (List.getElem_mem hiw)) (by simpa using e)
set_option maxHeartbeats 8000000 in
theorem okx_read_pattern (T:Tx K mg A):FnOk P w K mg base (CXe P w) 5 A.f_read_pattern A.d_read_pattern ["text"] (spx_read_pattern K A.c_NoText):=by
 have G_read_part:FnOk P w K mg base (CXe P w) 4 A.f_read_part A.d_read_part ["text"] (spx_read_part K A.c_NoText):=(okx_read_part T).mono (by decide)
 have G_is_pattern:FnOk P w K mg base CX0 4 A.f_is_pattern A.d_is_pattern ["thing"] (sp_is_pattern K):=(ok_is_pattern T).mono (by decide)
 refine T.read_pattern.fn.okE sc_read_pattern (λvs H Q E h=>?_) (λcdv Ar outer s H vs Q E hr h=>?_)
 ·obtain ⟨z,rfl,_⟩:=h;rfl
 ·obtain ⟨z,rfl,hzs,hzl,k1,k2⟩:=h
  refine ⟨_,pss_cons (ps_compE (E:=E) (i:=1) (N':=["piece"]) (n:=1) (fi:=[]) (g:=gName 0) (λ_ _ z ↦ z) rfl rfl rfl sc_read_pattern.nd rfl (Or.inl rfl) rfl (cscope (defScope (top 25)) ["text","pattern"] (by decide +kernel)) (pi_list (pe_bm PySem.F.plainAttrs_str PySem.F.slot_str_split PySem.F.type_str_split mt_split (pv 0) (pa_cons (pe_str) (pa_nil)))) (λs H fp=>pg_name (i:=0) (show (["piece"]:List Str).Nodup by decide +kernel) rfl (Or.inl rfl) (.inr rfl)) (λs H fp=>pifs_nil) (λs H fp pn xe E hx=>pe_callS G_read_part hr (by rfl) T.read_part.mg T.read_part.fn.kp T.read_part.bd hx (pa_cons (pv 0) (pa_nil))))
   (pss_cons (ps_if (pt_not (pt_val (pe_call G_is_pattern hr (by rfl) T.is_pattern.mg T.is_pattern.fn.kp T.is_pattern.bd .nil pass0 (pa_cons (pv 1) (pa_nil))))) (pss_one (ps_raise (E:=E) (λ_ _ z ↦ z) rfl rfl rfl rfl (by rfl) T.m_NoText T.x_NoText (pa_cons (pe_str) (pa_nil)))) (pss_nil))
   (pss_one (ps_ret (pv 1)))),?_⟩
  have hsl:=split_len1 (z:=z) (y:= " ")
  have htok:∀ x∈Txt.split z " ",TOk x:=λx hx=>by
   have:=ok_split (y:= " ") hzs x hx
   exact ⟨by lia,this.1⟩
  refine ⟨_,rfl,rfl,_," ",rfl,rfl,by decide +kernel,Nat.le_of_lt (small (by lia)),λL hL=>⟨L,rfl,⟨_,.of upd_same⟩,λD hD=>?_⟩⟩
  have sL:Same H (upd H L (.lst ((Txt.split z " ").map V.str))):=Same.new hL
  have hLL:(upd H L (.lst ((Txt.split z " ").map V.str))) L=some (.lst ((Txt.split z " ").map V.str)):=upd_same
  generalize upd H L (.lst ((Txt.split z " ").map V.str))=H1 at sL hLL hD ⊢
  have hHD:H D=none:=sL.free hD
  generalize Txt.split z " " = ws at hsl htok hLL k1 k2 ⊢
  refine comp_list (K:=K) (xs:=ws.map V.str) (NRq ws H1) upd_same ⟨⟨_,rfl⟩,Same.new hD,[],rfl,.nil⟩ (λi acc σ H2 _ _ q=>.of (q.2.1 _ _ hLL)) (λi x acc σ H2 hx hDx q=>?_) (λacc σ H2 hDx q=>?_)
  ·obtain ⟨q0,s2,ps,hps,hat⟩:=q
   apply ex_1 q0
   clear q0
   intro u
   obtain ⟨y,hy,rfl⟩:=strs_at hx
   have hi:=ge_len hy
   have hym:=List.mem_of_getElem? hy
   have hal:acc.length<=i:=by
    rw [hat.1,read_len hps,List.length_take];lia
   refine compY ⟨_,rfl,y,rfl,htok y hym,λp hp t H3 ht s3 htp=>?_,λhn ea H3 s3=>k2 (.inl ⟨y,hym,hn⟩) ea H3 ((sL.trans s2).trans s3)⟩
   refine ⟨_,s3 _ _ hDx,small (by lia),_,upd_same,⟨_,rfl⟩,snap_upd hD (s2.trans s3),ps++[p],?_,?_⟩
   ·rw [List.take_add_one,hy,List.map_append,hps,List.map_append]
    show _++[readQ y]=_++[some p]
    rw [hp]
   ·have f:∀ c xs,H3 c=some (.tup xs)->(upd H3 D (.lst (acc++[.ref t]))) c=some (.tup xs):=λc xs h=>by
     rw [upd_ne (λz=>by rw [z,s3 _ _ hDx] at h;cases h)]
     exact h
    exact ((hat.same s3).tup f).snoc ⟨t,rfl,f _ _ htp⟩
  ·obtain ⟨_,s2,ps,hps,hat⟩:=q
   rw [List.length_map,List.take_length] at hps
   have hpk:=read_each hps htok
   have hpl:=read_len hps
   refine ⟨_,rfl,.ref D,.list (ps.map Pt.dat),rfl,.lst hDx (hat.lds λp hp=>(hpk p hp).ok),?_,λds e=>?_,λH3 s3=>⟨_,rfl,?_⟩⟩
   ·have:PyData.depthAll (ps.map Pt.dat)<=1:=depthAll_le _ λd hd=>by
     obtain ⟨p,_,rfl⟩:=List.mem_map.mp hd
     cases p <;> exact Nat.le_refl _
    show PyData.depthAll _+1<=90
    lia
   ·cases e
    rw [List.length_map,hpl];lia
   ·have e:patB (.list (ps.map Pt.dat))=decide (ps.length<=12):=by
     show (decide (1<=(ps.map Pt.dat).length/\(ps.map Pt.dat).length<=12) && (ps.map Pt.dat).all partD)=_
     have h2:(ps.map Pt.dat).all partD=true:=List.all_eq_true.mpr λd hd=>by
      obtain ⟨p,hp,rfl⟩:=List.mem_map.mp hd
      exact part_b (hpk p hp)
     rw [h2,Bool.and_true,List.length_map]
     refine decide_eq_decide.mpr ⟨λq=>q.2,λq=>⟨by lia,q⟩⟩
    rw [e]
    by_cases h12:ps.length<=12
    ·rw [decide_eq_true h12]
     exact iteF ⟨_,rfl,k1 ps hps h12 D acc H3 hHD ((sL.trans s2).trans s3) (s3 _ _ hDx) (hat.same s3)⟩
    ·rw [decide_eq_false h12]
     exact iteT ⟨(by show 1<=sizeLine;decide),λea _=>k2 (.inr (by lia)) ea _ ((sL.trans s2).trans s3)⟩
def BadT (z:Str):Prop:=(∃ x∈Txt.split z " ",readQ x=none)\/12<(Txt.split z " ").length
def sp__law_told (K:PySem.W.Frag):Sp:=λvs H Q _=>∃ z:Str,vs=[.str z]/\PyData.strOk z=true/\z.length<=990 /\
 (∀ ps,(Txt.split z " ").map readQ=ps.map some->ps.length<=12->∀ t D acc H1 H',H D=none->Same H H1->H1 D=some (.lst acc)->PtsAt H1 acc ps->H1 t=none->H' = upd H1 t (.tup [.ref D,.str ""])->Q (.ref t) H') /\
 (BadT z->∀ t H1 H',Same H H1->H1 t=none->H' = upd H1 t (.tup [.non,.str "NoText+"])->Q (.ref t) H')
theorem sc__law_told:FnScope ["text","told","fault","e"] ["text"] (defScope (top 41)):=⟨rfl,rfl,rfl,by decide +kernel,rfl,by decide +kernel,by decide +kernel⟩
set_option maxHeartbeats 8000000 in
theorem ok__law_told (T:Tx K mg A):FnOk P w K mg base CX0 6 A.f__law_told A.d__law_told ["text"] (sp__law_told K):=by
 refine T._law_told.fn.ok sc__law_told (λvs H Q E h=>?_) (λcdv Ar outer s H vs Q E hr h=>?_)
 ·obtain ⟨z,rfl,_⟩:=h;rfl
 ·have Gx:FnOk P w K mg base (CXe P w) 5 A.f_read_pattern A.d_read_pattern ["text"] (spx_read_pattern K A.c_NoText):=(okx_read_pattern T).mono (by decide)
  have Gh:FnOkH P w K mg base CX0 5 A.f__law_name_of A.d__law_name_of ["e"] (sp_name K A.c_NoText "NoText+"):=(okh__law_name_of T).mono (by decide)
  refine ⟨_,pss_cons (ps_set (i:=1) sc__law_told.nd rfl (Or.inl rfl) pe_non) (pss_cons (ps_set (i:=2) sc__law_told.nd rfl (Or.inl rfl) pe_str) (pss_cons (ps_try (i:=3) rfl rfl rfl (by rfl) T.m_GatherError T.x_GatherError sc__law_told.nd rfl rfl
   (λpn xe E hx=>pss_one (ps_set (i:=1) sc__law_told.nd rfl (Or.inl rfl) (pe_callS Gx hr (by rfl) T.read_pattern.mg T.read_pattern.fn.kp T.read_pattern.bd hx (pa_cons (pv 0) (pa_nil)))))
   (λpins ea C oe vs hc hd hv v2=>pss_one (ps_set (i:=2) sc__law_told.nd rfl (Or.inl rfl) (pe_callH Gh (hr.mark _) rfl (List.mem_append_right _ (.head _)) hc hd hv v2 (by rfl) T._law_name_of.mg T._law_name_of.fn.kp T._law_name_of.bd (pa_cons (pv 3) (pa_nil))))))
   (pss_one (ps_ret (pe_tup (pa_cons (pv 1) (pa_cons (pv 2) (pa_nil)))))))),?_⟩
  obtain ⟨z,rfl,hzs,hzl,k1,k2⟩:=h
  refine ⟨_,rfl,z,rfl,hzs,hzl,λps hps hl D acc H1 hD s1 hDD hat=>?_,λhb ea H1 s1=>?_⟩
  ·exact ⟨_,rfl,_,rfl,(by show 2<=sizeLine;decide),λt ht=>k1 ps hps hl t D acc H1 _ hD s1 hDD hat ht rfl⟩
  ·refine ⟨ea,_,rfl,rfl,T.x_NoText,T.r_NoText,?_⟩
   refine ⟨_,rfl,rfl,rfl,λH2 s2=>?_⟩
   exact ⟨_,rfl,_,rfl,(by show 2<=sizeLine;decide),λt ht=>k2 hb t H2 _ (s1.trans s2) ht rfl⟩
end
end K13
namespace K13
open PySem L2 LG
section
variable {P:Program}{w:World}{K:PySem.W.Frag}{mg:Str->Option Value}{base:Heap}{A:Ad}
open PySem.Builtin PySem.Builtin.Str in
theorem slice_12 (z:Str):(Txt.slice z (some 1) (some 2)).cps.toList=(z.cps.toList.drop 1).take 1:=by
 have hz:z.length=z.cps.toList.length:=by simp [Str.length]
 have h:strSliceIndices (some 1) (some 2) 1 z.length=(List.range (min 1 (z.length - 1))).map λk=>min 1 z.length+k:=by
  (unfold strSliceIndices sliceRange)
  simp only [show (1:Int) > 0 by decide,if_true,show ¬ (1:Int)<0 by decide,show ¬ (2:Int)<0 by decide,if_false]
  have e:(if max 0 (min 1 (z.length:Int))<max 0 (min 2 (z.length:Int)) then (max 0 (min 2 (z.length:Int)) - max 0 (min 1 (z.length:Int))+1 - 1) / 1 else 0).toNat=min 1 (z.length - 1):=by
   split <;> lia
  rw [e]
  refine List.map_congr_left λk hk=>?_
  have:=List.mem_range.mp hk
  lia
 rw [slice_idx z h (by lia)]
 rcases Nat.eq_zero_or_pos z.length with q | q
 ·have:z.cps.toList=[]:=List.eq_nil_of_length_eq_zero (by lia)
  rw [this];simp
 ·rw [Nat.min_eq_left q]
  cases e:z.cps.toList.drop 1 with
  | nil=>simp
  | cons a r=>
   have:(z.cps.toList.drop 1).length=r.length+1:=by rw [e];rfl
   rw [List.length_drop] at this
   rw [Nat.min_eq_left (by lia)]
theorem slice_0 (z:Str):Txt.slice z (some 0) none=z:=by
 refine PySem.Str.ext' (Array.toList_inj.mp ?_)
 exact (slice_from (z:=z) (n:=0) (Nat.zero_le _)).trans rfl
theorem slice_rm {z:Str}{r:List Nat} (e:z.cps.toList=61::r):Txt.slice z (some 1) none=Txt.removeprefix z "=" :=by
 refine PySem.Str.ext' (Array.toList_inj.mp ?_)
 rw [slice_tail,(eq_head e).2,e]
 rfl
theorem one_str {x:Str}{a c:Nat} (h:x=⟨#[a]⟩):decide (V.str ⟨#[c]⟩=V.str x)=decide (c=a):=by
 subst h
 refine decide_eq_decide.mpr ⟨λq=>?_,λq=>by rw [q]⟩
 injection q with q
 injection q with q
 simpa using q
theorem lt_one:(("<" : Str))=⟨#[60]⟩:=by decide +kernel
theorem eq_one:(("=" : Str))=⟨#[61]⟩:=by decide +kernel
theorem in_le:∀ c<127,(!(Builtin.Str.occurrences "<=" ⟨#[c]⟩ 0 (("<=" : Str)).length 1).isEmpty)=(decide (c=60) || decide (c=61)):=by decide +kernel
theorem in_12 (z:Str):inV (.str (Txt.slice z (some 1) (some 2))) [.str "<",.str "="]=decide ((z.cps.toList.drop 1).head? = some 60\/(z.cps.toList.drop 1).head? = some 61):=by
 have e:inV (.str (Txt.slice z (some 1) (some 2))) [.str "<",.str "="]=decide (Txt.slice z (some 1) (some 2)∈(["<","="]:List Str)):=inV_strs _ ["<","="]
 rw [e]
 have hs:=slice_12 z
 refine decide_eq_decide.mpr ⟨λh=>?_,λh=>?_⟩
 ·simp only [List.mem_cons,List.not_mem_nil,or_false] at h
  rcases h with h | h
  ·rw [h,lt_cps] at hs
   cases q:z.cps.toList.drop 1 with
   | nil=>rw [q] at hs;cases hs
   | cons a r=>rw [q] at hs;simp at hs;rw [<-hs];exact .inl rfl
  ·rw [h,eq_cps] at hs
   cases q:z.cps.toList.drop 1 with
   | nil=>rw [q] at hs;cases hs
   | cons a r=>rw [q] at hs;simp at hs;rw [<-hs];exact .inr rfl
 ·have go:∀ a,(z.cps.toList.drop 1).head? = some a->Txt.slice z (some 1) (some 2)=⟨#[a]⟩:=λa h=>by
   refine PySem.Str.ext' (Array.toList_inj.mp ?_)
   rw [hs]
   cases q:z.cps.toList.drop 1 with
   | nil=>rw [q] at h;cases h
   | cons b r=>rw [q] at h;cases h;rfl
  rcases h with h | h
  ·rw [go _ h,<-lt_one];simp
  ·rw [go _ h,<-eq_one];simp
def sp__law_written (K:PySem.W.Frag):Sp:=λvs H Q _=>∃ (v:V) (ps:List Pt),vs=[v]/\Den K H v (patD ps)/\(∀ p∈ps,PtK p)/\ps.length<=100/\∀ H',Same H H'->Q (.str (Txt.join " " (ps.map showP))) H'
theorem sc__law_written:FnScope ["pattern","words","part"] ["pattern"] (defScope (top 42)):=⟨rfl,rfl,rfl,by decide +kernel,rfl,by decide +kernel,by decide +kernel⟩
set_option maxHeartbeats 8000000 in
theorem ok__law_written (T:Tx K mg A):FnOk P w K mg base CX0 1 A.f__law_written A.d__law_written ["pattern"] (sp__law_written K):=by
 refine T._law_written.fn.ok sc__law_written (λvs H Q E h=>?_) (λcdv Ar outer s H vs Q E hr h=>?_)
 ·obtain ⟨v,ps,rfl,_⟩:=h;rfl
 ·obtain ⟨v,ps,rfl,hd,hp,hl,k⟩:=h
  obtain ⟨a,xs,ev,hqa,hda⟩:=den_pat hd
  have hxl:xs.length=ps.length:=by rw [hda.length,List.length_map]
  refine ⟨_,pss_cons (ps_set (i:=1) sc__law_written.nd rfl (Or.inl rfl) (pe_lst (pa_nil)))
   (pss_cons (ps_for PassesOwn.never rfl (pi_list (pv 0)) (pg_name (i:=2) sc__law_written.nd rfl (Or.inl rfl)) (pss_one (ps_if (pt_cmpR (op_eq) (pe_ix (r:=rIxT K) ix_tup (pv 2) (pe_int) (λ_ _=>rfl)) (pe_str) (nomark _)) (pss_one (ps_expr (pe_bm PySem.F.plainAttrs_list PySem.F.slot_list_append PySem.F.type_list_append mt_append (pv 1) (pa_cons (pe_op op_add_str (pe_op op_add_str (pe_str) (pe_ix (r:=rIxT K) ix_tup (pv 2) (pe_int) (λ_ _=>rfl))) (pe_str)) (pa_nil))))) (pss_one (ps_expr (pe_bm PySem.F.plainAttrs_list PySem.F.slot_list_append PySem.F.type_list_append mt_append (pv 1) (pa_cons (pe_op op_add_str (pe_ix (r:=rIxL K) ix_list (pe_lst (pa_cons (pe_str) (pa_cons (pe_str) (pa_nil)))) (pe_callTy call_int1 (by rfl) T.n_int bt_int (pa_cons (pe_cmpR (op_in_str) (pe_ix ix_str (pe_ix (r:=rIxT K) ix_tup (pv 2) (pe_int) (λ_ _=>rfl)) (pe_int) (λ_ _=>rfl)) (pe_str) (by rfl)) (pa_nil))) (λ_ _=>rfl)) (pe_ix (r:=rIxT K) ix_tup (pv 2) (pe_int) (λ_ _=>rfl))) (pa_nil))))))))
   (pss_one (ps_ret (pe_bm (r:=rJoin K) PySem.F.plainAttrs_str PySem.F.slot_str_join PySem.F.type_str_join mt_join (pe_str) (pa_cons (pv 1) (pa_nil)))))),?_⟩
  subst ev
  refine ⟨Nat.zero_le _,λF hF=>?_⟩
  have sF:Same H (upd H F (.lst [])):=Same.new hF
  refine ⟨_,rfl,a,rfl,⟨_,sF.seq hqa⟩,?_⟩
  refine for_list (K:=K) (xs:=xs) (λi σ H2=>(∃ u,σ=[some (.ref a),some (.ref F),u])/\Same H H2/\H2 F=some (.lst (((ps.take i).map showP).map V.str))) ⟨⟨_,rfl⟩,sF,upd_same⟩ (λi σ H2 _ q=>q.2.1.seq hqa) (λi x σ H2 hx q=>?_) (λσ H2 q=>?_)
  ·obtain ⟨q0,s2,hF2⟩:=q
   apply ex_1 q0
   clear q0
   intro u
   obtain ⟨p,hpi,hdp⟩:=dens_pt hda hx
   have hi:=ge_len hpi
   obtain ⟨b,x0,y,rfl,hqb0,_,_,hxy⟩:=den_pt hdp
   have hqb:=s2.seqT hqb0
   have hpk:=hp p (List.mem_of_getElem? hpi)
   have hal:(((ps.take i).map showP).map V.str).length=i:=by rw [List.length_map,List.length_map,List.length_take];lia
   have fin:∀ H3:Hp,Same H2 H3->(∃ u:Option V,[some (V.ref a),some (V.ref F),some (.ref b)]=[some (.ref a),some (.ref F),u])/\Same H (upd H3 F (.lst (((ps.take i).map showP).map V.str++[.str (showP p)])))/\(upd H3 F (.lst (((ps.take i).map showP).map V.str++[.str (showP p)]))) F=some (.lst (((ps.take (i+1)).map showP).map V.str)):=λH3 s3=>by
    refine ⟨⟨_,rfl⟩,snap_upd hF (s2.trans s3),?_⟩
    rw [upd_same,List.take_add_one,hpi,List.map_append,List.map_append]
    rfl
   refine ⟨_,rfl,b,_,0,_,rfl,rfl,hqb,rfl,rfl,_,rfl,?_⟩
   cases p with
   | hole m=>
    obtain ⟨rfl,rfl⟩:=hxy
    have hk:∀ m<3,(kindS m).length<=10:=by decide +kernel
    have hk:=hk m hpk
    have hl1:(("<" : Str)).length=1:=rfl
    have hl2:((">" : Str)).length=1:=rfl
    refine iteT ⟨_,rfl,.inl ⟨rfl,_,.of hF2⟩,_,rfl,b,_,1,_,rfl,rfl,hqb,rfl,_,_,rfl,rfl,Nat.le_of_lt (small (by lia)),_,_,rfl,rfl,Nat.le_of_lt (small (by rw [PySem.Str.length_append];lia)),F,_,_,rfl,rfl,hF2,small (by lia),?_⟩
    exact fin H2 (Same.refl _)
   | word w=>
    obtain ⟨rfl,rfl⟩:=hxy
    have hne:=word_ne hpk.1
    have hyl:=hpk.2.1
    refine iteF ⟨_,rfl,.inl ⟨rfl,_,.of hF2⟩,(by show 2<=sizeLine;decide),λl hl=>?_⟩
    have sl:Same H2 (upd H2 l (.lst [.str "",.str "="])):=Same.new hl
    have hll:(upd H2 l (.lst [.str "",.str "="])) l=some (.lst [.str "",.str "="]):=upd_same
    generalize upd H2 l (.lst [.str "",.str "="])=H3 at sl hll ⊢
    have hqb3:=sl.seqT hqb
    cases hc:y.cps.toList with
    | nil=>exact (hne hc).elim
    | cons c r=>
     have hsc:sgn c=true:=by
      have:=hpk.1
      unfold wordB onlyB at this
      rw [hc,Bool.and_eq_true] at this
      exact List.all_eq_true.mp this.2 c (.head _)
     refine ⟨_,rfl,b,_,1,_,rfl,rfl,hqb3,rfl,y,0,c,rfl,rfl,Nat.le_of_lt (small (by lia)),by rw [hc];exact atI_nat (j:=0) rfl,_,_,rfl,rfl,.inr ⟨_,rfl,?_⟩⟩
     rw [in_le c (sgn_lt hsc)]
     have es:spec2 y=(decide (c=60) || decide (c=61)):=by unfold spec2;rw [hc]
     rw [<-es]
     have e3:showP (.word y)=if spec2 y=true then "=" ++ y else y:=rfl
     rw [e3] at fin
     cases hs:spec2 y with
     | true=>
      rw [hs,if_pos rfl] at fin
      refine ⟨l,_,1,.str "=",rfl,rfl,.of hll,rfl,_,rfl,b,_,1,_,rfl,rfl,hqb3,rfl,_,_,rfl,rfl,?_,F,_,_,rfl,rfl,sl _ _ hF2,small (by lia),fin H3 sl⟩
      have:(("=" : Str)).length=1:=rfl
      exact Nat.le_of_lt (small (by lia))
     | false=>
      rw [hs,if_neg Bool.false_ne_true] at fin
      have e0:("" : Str)++y=y:=PySem.Str.ext' (by rw [PySem.Str.cps_append];show #[]++y.cps=y.cps;simp)
      refine ⟨l,_,0,.str "",rfl,rfl,.of hll,rfl,_,rfl,b,_,1,_,rfl,rfl,hqb3,rfl,_,_,rfl,rfl,?_,F,_,_,rfl,rfl,sl _ _ hF2,small (by lia),?_⟩
      ·have:(("" : Str)).length=0:=rfl
       exact Nat.le_of_lt (small (by lia))
      ·rw [e0]
       exact fin H3 sl
  ·obtain ⟨q0,s2,hF2⟩:=q
   apply ex_1 q0
   clear q0
   intro u
   rw [List.take_of_length_le (by lia)] at hF2
   have h1:((" " : Str)).length=1:=rfl
   refine ⟨rfl,_,rfl," ",F,_,rfl,rfl,.of hF2,join_fits (m:=10001) (λy hy=>?_) (by rw [h1,List.length_map];lia),k H2 s2⟩
   obtain ⟨p,hpm,rfl⟩:=List.mem_map.mp hy
   exact show_le (hp p hpm)
end
end K13
namespace K13
open PySem L2 LG
section
variable {P:Program}{w:World}{K:PySem.W.Frag}{mg:Str->Option Value}{base:Heap}{A:Ad}
def threeL:List Str:=["<number>","<name>","<any>"]
theorem three_is {y:Str}:y∈threeL↔∃ m,m<3/\y=showP (.hole m):=by
 have e:threeL=[showP (.hole 0),showP (.hole 1),showP (.hole 2)]:=by decide +kernel
 rw [e]
 constructor
 ·intro h
  simp only [List.mem_cons,List.not_mem_nil,or_false] at h
  rcases h with h | h | h
  ·exact ⟨0,by decide,h⟩
  ·exact ⟨1,by decide,h⟩
  ·exact ⟨2,by decide,h⟩
 ·rintro ⟨m,hm,rfl⟩
  rcases three hm with rfl | rfl | rfl <;> simp
def sp__law_read (K:PySem.W.Frag):Sp:=λvs H Q _=>∃ z:Str,vs=[.str z]/\PyData.strOk z=true/\z.length<=990 /\
 (∀ ps,(Txt.split z " ").map readQ=ps.map some->ps.length<=12->∀ F acc H',H F=none->Same H H'->H' F=some (.lst acc)->PtsAt H' acc ps->Q (.ref F) H')/\(BadT z->∀ H',Same H H'->Q .non H')
def RdInv (H:Hp) (z:Str) (ws:List Str) (F L:Addr) (i:Nat) (σ:St) (H3:Hp):Prop:=
 (∃ u2 u3,σ=[some (.str z),some (.ref F),u2,u3])/\Same H H3/\H3 L=some (.lst (ws.map V.str))/\∃ (acc:List V) (ps:List Pt),H3 F=some (.lst acc)/\(ws.take i).map readQ=ps.map some/\PtsAt H3 acc ps
theorem RdInv.step {H H5:Hp}{F L t:Addr}{z y:Str}{ws:List Str}{acc:List V}{i:Nat}{σ:St}{ps:List Pt}{p:Pt}{a b:Str} (hFL:F≠L) (hF:H F=none) (hσ:∃ u2 u3,σ=[some (.str z),some (.ref F),u2,u3]) (s5:Same H H5) (hL:H5 L=some (.lst (ws.map V.str))) (hF5:H5 F=some (.lst acc))
  (hps:(ws.take i).map readQ=ps.map some) (hat:PtsAt H5 acc ps) (hy:ws[i]? = some y) (hp:readQ y=some p) (e:ptV p=[.str a,.str b]) (ht:H5 t=none):RdInv H z ws F L (i+1) σ (upd (upd H5 t (.tup [.str a,.str b])) F (.lst (acc++[.ref t]))):=by
 have hFt:F≠t:=ne_of_none hF5 ht
 have st:Same H5 (upd H5 t (.tup [.str a,.str b])):=Same.new ht
 refine ⟨hσ,snap_upd hF (s5.trans st),by rw [upd_ne hFL.symm];exact st _ _ hL,acc++[.ref t],ps++[p],upd_same,?_,?_⟩
 ·rw [List.take_add_one,hy,List.map_append,hps,List.map_append]
  show _++[readQ y]=_++[some p]
  rw [hp]
 ·have f:∀ c xs,H5 c=some (.tup xs)->(upd (upd H5 t (.tup [.str a,.str b])) F (.lst (acc++[.ref t]))) c=some (.tup xs):=λc xs h=>by
   rw [upd_ne (λz=>by rw [z,hF5] at h;cases h)]
   exact st _ _ h
  refine (hat.tup f).snoc ⟨t,rfl,?_⟩
  rw [upd_ne hFt.symm,upd_same,e]
theorem sc__law_read:FnScope ["text","found","word","bad"] ["text"] (defScope (top 43)):=⟨rfl,rfl,rfl,by decide +kernel,rfl,by decide +kernel,by decide +kernel⟩
set_option maxHeartbeats 8000000 in
theorem ok__law_read (T:Tx K mg A):FnOk P w K mg base CX0 1 A.f__law_read A.d__law_read ["text"] (sp__law_read K):=by
 refine T._law_read.fn.ok sc__law_read (λvs H Q E h=>?_) (λcdv Ar outer s H vs Q E hr h=>?_)
 ·obtain ⟨z,rfl,_⟩:=h;rfl
 ·obtain ⟨z,rfl,hzs,hzl,k1,k2⟩:=h
  refine ⟨_,pss_cons (ps_set (i:=1) sc__law_read.nd rfl (Or.inl rfl) (pe_lst (pa_nil)))
   (pss_cons (ps_for PassesOwn.never rfl (pi_list (pe_bm PySem.F.plainAttrs_str PySem.F.slot_str_split PySem.F.type_str_split mt_split (pv 0) (pa_cons (pe_str) (pa_nil)))) (pg_name (i:=2) sc__law_read.nd rfl (Or.inl rfl)) (pss_cons (ps_comp (i:=3) (N':=["sign"]) (n:=1) (fi:=[]) (g:=gName 0) sc__law_read.nd rfl (Or.inl rfl) rfl (cscope (defScope (top 43)) ["text","found","word","bad"] (by decide +kernel)) (pi_str (pv 2)) (λs H fp=>pg_name (i:=0) (show (["sign"]:List Str).Nodup by decide +kernel) rfl (Or.inl rfl) (.inr rfl)) (λs H fp=>pifs_one ((pw_and (pt_not (pt_chain op_le_str op_le_str (pe_str) (pv 0) (pe_str))) (pw_and1 (pt_not (pt_chain op_le_str op_le_str (pe_str) (pv 0) (pe_str))))).pt)) (λs H fp=>pv 0))
   (pss_cons (ps_if ((pw_or (pt_cmpR (op_eq) (pv 2) (pe_str) (nomark _)) (pw_or1 (pt_cmpR (r:=rNeD K) (op_neD hr) (pv 3) (pe_lst (pa_nil)) (nomark _)))).pt) (pss_one (ps_ret (pe_non))) (pss_nil))
   (pss_one (ps_if (pt_cmpR (r:=rIn K false) (op_in_seq) (pv 2) (pe_tup (pa_cons (pe_str) (pa_cons (pe_str) (pa_cons (pe_str) (pa_nil))))) (by rfl)) (pss_one (ps_expr (pe_bm PySem.F.plainAttrs_list PySem.F.slot_list_append PySem.F.type_list_append mt_append (pv 1) (pa_cons (pe_tup (pa_cons (pe_str) (pa_cons (pe_slice sl_str (pv 2) (po_some (pe_int)) (po_some (pe_un un_neg (pe_int)))) (pa_nil)))) (pa_nil))))) (pss_one (ps_if ((pw_or (pt_cmpR (op_eq) (pe_ix ix_str (pv 2) (pe_int) (λ_ _=>rfl)) (pe_str) (nomark _)) (pw_or1 ((pw_and (pt_cmpR (op_eq) (pe_ix ix_str (pv 2) (pe_int) (λ_ _=>rfl)) (pe_str) (nomark _)) (pw_and1 (pt_cmpR (r:=rIn K true) (op_notIn_seq) (pe_slice sl_str (pv 2) (po_some (pe_int)) (po_some (pe_int))) (pe_tup (pa_cons (pe_str) (pa_cons (pe_str) (pa_nil)))) (by rfl)))).pt))).pt) (pss_one (ps_ret (pe_non))) (pss_one (ps_expr (pe_bm PySem.F.plainAttrs_list PySem.F.slot_list_append PySem.F.type_list_append mt_append (pv 1) (pa_cons (pe_tup (pa_cons (pe_str) (pa_cons (pe_slice sl_str (pv 2) (po_some (pe_callTy call_int1 (by rfl) T.n_int bt_int (pa_cons (pe_cmpR (op_eq) (pe_ix ix_str (pv 2) (pe_int) (λ_ _=>rfl)) (pe_str) (nomark _)) (pa_nil)))) (po_none)) (pa_nil)))) (pa_nil))))))))))))
   (pss_one (ps_ret (pe_ifExp (pt_cmpR (op_lt) (pe_callB (r:=rLenS K) call_lenS (by rfl) T.n_len PySem.boot_len (pa_cons (pv 1) (pa_nil))) (pe_int) (nomark _)) (pv 1) (pe_non))))),?_⟩
  have hsl:=split_len1 (z:=z) (y:= " ")
  have htok:∀ x∈Txt.split z " ",TOk x:=λx hx=>by
   have:=ok_split (y:= " ") hzs x hx
   exact ⟨by lia,this.1⟩
  refine ⟨Nat.zero_le _,λF hF=>?_⟩
  have sF:Same H (upd H F (.lst [])):=Same.new hF
  refine ⟨_,rfl,rfl,z," ",rfl,rfl,by decide +kernel,Nat.le_of_lt (small (by lia)),λL hL=>⟨L,rfl,⟨_,.of upd_same⟩,?_⟩⟩
  have hLF:F≠L:=ne_of_none (upd_same (H:=H)) hL
  have sL:Same (upd H F (.lst [])) (upd (upd H F (.lst [])) L (.lst ((Txt.split z " ").map V.str))):=Same.new hL
  have k2':((∃ x∈Txt.split z " ",readQ x=none)\/12<(Txt.split z " ").length)->∀ H',Same H H'->Q .non H':=k2
  have h0:RdInv H z (Txt.split z " ") F L 0 [some (.str z),some (.ref F),none,none] (upd (upd H F (.lst [])) L (.lst ((Txt.split z " ").map V.str))):=⟨⟨_,_,rfl⟩,sF.trans sL,upd_same,[],[],sL _ _ upd_same,rfl,.nil⟩
  generalize upd (upd H F (.lst [])) L (.lst ((Txt.split z " ").map V.str))=H1 at h0 ⊢
  generalize Txt.split z " " = ws at hsl htok k1 k2' h0 ⊢
  refine for_list (K:=K) (xs:=ws.map V.str) (RdInv H z ws F L) h0 (λi σ H3 _ q=>.of q.2.2.1) (λi x σ H3 hx q=>?_) (λσ H3 q=>?_)
  ·obtain ⟨q0,s3,hL3,acc,ps,hF3,hps,hat⟩:=q
   apply ex_2 q0
   clear q0
   intro u1 u2
   obtain ⟨y,hy,rfl⟩:=strs_at hx
   have hi:=ge_len hy
   have hym:=List.mem_of_getElem? hy
   have hyt:=htok y hym
   have hal:acc.length<=i:=by rw [hat.1,read_len hps,List.length_take];lia
   have ew:wordB y=(!y.cps.toList.isEmpty && y.cps.toList.all rng):=by
    rw [show rng=sgn from funext rng_sgn]
    rfl
   refine ⟨_,rfl,y,rfl,λD hD=>?_⟩
   have c33:("!" : Str)=⟨#[33]⟩:=by decide +kernel
   have c36:("$" : Str)=⟨#[36]⟩:=by decide +kernel
   have c38:("&" : Str)=⟨#[38]⟩:=by decide +kernel
   have c126:("~" : Str)=⟨#[126]⟩:=by decide +kernel
   refine comp_signsX (λc=>!rng c) hyt.2 (Nat.le_trans hyt.1 (by decide)) hD (λc H2 R h=>?_) λH4 s4 hD4=>?_
   ·refine not_betweenX c33 c36 ?_
    by_cases h1:(decide (33<=c) && decide (c<=36))=true
    ·rw [h1]
     refine iteF ?_
     have:rng c=true:=by unfold rng;rw [h1];rfl
     rw [this] at h
     exact h
    ·rw [Bool.eq_false_iff.mpr h1]
     refine iteT (not_betweenX c38 c126 ?_)
     have:rng c=(decide (38<=c) && decide (c<=126)):=by unfold rng;rw [Bool.eq_false_iff.mpr h1,Bool.false_or]
     rw [this] at h
     exact h
   have bad:∀ H',Same H3 H'->readQ y=none->Q .non H':=λH' s' hn=>k2' (.inl ⟨y,hym,hn⟩) H' (s3.trans s')
   refine ⟨_,rfl,rfl,_,rfl,?_⟩
   rw [dec_nil]
   cases he:y.cps.toList.isEmpty with
   | true=>
    refine iteT (iteT ?_)
    exact bad H4 s4 (readQ_bad (by rw [ew,he];rfl))
   | false=>
    refine iteF ⟨_,rfl,Nat.zero_le _,λp hp=>?_⟩
    refine ⟨.list (((y.cps.toList.filter λc=>!rng c).map sg).map .str),.list [],.lst (.of (by rw [upd_ne (ne_of_none hD4 hp)];exact hD4)) (dens_strs (ok_sg hyt.2)),.lst (.of upd_same) .nil,?_,_,rfl,?_⟩
    ·have:PyData.depthAll (((y.cps.toList.filter λc=>!rng c).map sg).map PyData.str)<=0:=depthAll_le _ λd hd=>by
      obtain ⟨x,_,rfl⟩:=List.mem_map.mp hd
      exact Nat.le_refl _
     show PyData.depthAll _+1<=100
     lia
    have s5:Same H3 (upd H4 p (.lst [])):=s4.trans (Same.new hp)
    generalize upd H4 p (.lst [])=H5 at s5 ⊢
    rw [none_left2]
    have e:(y.cps.toList.all λc=>!(!rng c))=y.cps.toList.all rng:=by simp only [Bool.not_not]
    rw [e]
    cases hall:y.cps.toList.all rng with
    | false=>
     refine iteT ?_
     exact bad H5 s5 (readQ_bad (by rw [ew,hall,Bool.and_false]))
    | true=>
     have hwb:wordB y=true:=by rw [ew,he,hall];rfl
     have s35:Same H H5:=s3.trans s5
     have hL5:=s5 _ _ hL3
     have hF5:=s5 _ _ hF3
     have hat5:=hat.same s5
     have hne:=word_ne hwb
     refine iteF ⟨_,rfl,(by show 3<=sizeLine;decide),λq hq=>⟨q,_,rfl,.inr (.of upd_same),rfl,rfl,_,rfl,?_⟩⟩
     rw [if_neg Bool.false_ne_true]
     have e3:inV (.str y) [.str "<number>",.str "<name>",.str "<any>"]=decide (y∈threeL):=inV_strs y threeL
     rw [e3]
     have s6:Same H5 (upd H5 q (.tup [.str "<number>",.str "<name>",.str "<any>"])):=Same.new hq
     generalize upd H5 q (.tup [.str "<number>",.str "<name>",.str "<any>"])=H6 at s6 ⊢
     have hF6:=s6 _ _ hF5
     have hL6:=s6 _ _ hL5
     have hat6:=hat5.same s6
     have s36:=s35.trans s6
     have hyl:y.length<=10000:=hyt.1
     by_cases h3:y∈threeL
     ·rw [decide_eq_true h3]
      obtain ⟨m,hm,rfl⟩:=three_is.mp h3
      refine iteT ⟨_,rfl,.inl ⟨rfl,_,.of hF6⟩,_,rfl,1,rfl,1,rfl,-1,rfl,_,rfl,Nat.le_of_lt (small (by lia)),(by show 2<=sizeLine;decide),λt ht=>⟨F,acc,_,rfl,rfl,Same.new ht _ _ hF6,small (by lia),?_⟩⟩
      have es:Txt.slice (showP (.hole m)) (some 1) (some (-1))=kindS m:=(hole_txt m hm).2
      rw [es]
      exact RdInv.step hLF hF ⟨_,_,rfl⟩ s36 hL6 hF6 hps hat6 hy (readQ_hole hm) rfl ht
     ·rw [decide_eq_false h3]
      have hn3:∀ m,m<3->y≠showP (.hole m):=λm hm e=>h3 (three_is.mpr ⟨m,hm,e⟩)
      refine iteF ?_
      cases hc:y.cps.toList with
      | nil=>exact (hne hc).elim
      | cons c r=>
       have hix:atI y.cps.toList 0=some c:=by rw [hc];exact atI_nat (j:=0) rfl
       have hys:y.length<=sizeLine:=Nat.le_of_lt (small (by lia))
       refine ⟨_,rfl,y,0,c,rfl,rfl,hys,hix,rfl,_,rfl,?_⟩
       rw [one_str lt_one]
       by_cases h60:c=60
       ·rw [decide_eq_true h60]
        refine iteT (iteT ?_)
        exact bad H6 (s5.trans s6) (readQ_less hn3 (by rw [hc,h60];rfl))
       ·rw [decide_eq_false h60]
        refine iteF ⟨_,rfl,y,0,c,rfl,rfl,hys,hix,rfl,_,rfl,?_⟩
        rw [one_str eq_one]
        by_cases h61:c=61
        ·subst h61
         rw [decide_eq_true rfl]
         refine iteT ⟨_,rfl,1,rfl,2,rfl,y,rfl,hys,(by show 2<=sizeLine;decide),λq2 hq2=>⟨q2,_,rfl,.inr (.of upd_same),rfl,rfl,_,rfl,?_⟩⟩
         rw [if_pos rfl,in_12,hc]
         have s7:Same H6 (upd H6 q2 (.tup [.str "<",.str "="])):=Same.new hq2
         generalize upd H6 q2 (.tup [.str "<",.str "="])=H7 at s7 ⊢
         have hre:=readQ_eq hc hwb
         show if (!decide (r.head? = some 60\/r.head? = some 61))=true then _ else _
         by_cases hr2:r.head? = some 60\/r.head? = some 61
         ·rw [decide_eq_true hr2]
          rw [if_pos hr2] at hre
          refine iteF ⟨_,rfl,.inl ⟨rfl,_,.of (s7 _ _ hF6)⟩,_,rfl,_,rfl,y,0,61,rfl,rfl,hys,hix,rfl,.inr ⟨_,rfl,?_⟩⟩
          rw [one_str eq_one,decide_eq_true rfl]
          refine ⟨_,rfl,y,rfl,hys,(by show 2<=sizeLine;decide),λt ht=>⟨F,acc,_,rfl,rfl,Same.new ht _ _ (s7 _ _ hF6),small (by lia),?_⟩⟩
          have es:Txt.slice y (some 1) none=Txt.removeprefix y "=" :=slice_rm hc
          show RdInv H z ws F L (i+1) _ (upd (upd H7 t (.tup [.str "word",.str (Txt.slice y (some 1) none)])) F _)
          rw [es]
          exact RdInv.step hLF hF ⟨_,_,rfl⟩ (s36.trans s7) (s7 _ _ hL6) (s7 _ _ hF6) hps (hat6.same s7) hy hre rfl ht
         ·rw [decide_eq_false hr2]
          rw [if_neg hr2] at hre
          exact iteT (bad H7 ((s5.trans s6).trans s7) hre)
        ·rw [decide_eq_false h61]
         refine iteF (iteF ⟨_,rfl,.inl ⟨rfl,_,.of hF6⟩,_,rfl,_,rfl,y,0,c,rfl,rfl,hys,hix,rfl,.inr ⟨_,rfl,?_⟩⟩)
         rw [one_str eq_one,decide_eq_false h61]
         refine ⟨_,rfl,y,rfl,hys,(by show 2<=sizeLine;decide),λt ht=>⟨F,acc,_,rfl,rfl,Same.new ht _ _ hF6,small (by lia),?_⟩⟩
         show RdInv H z ws F L (i+1) _ (upd (upd H6 t (.tup [.str "word",.str (Txt.slice y (some 0) none)])) F _)
         rw [slice_0]
         exact RdInv.step hLF hF ⟨_,_,rfl⟩ s36 hL6 hF6 hps hat6 hy (readQ_else (by rw [hc];simpa using h60) (by rw [hc];simpa using h61) hwb) rfl ht
  ·obtain ⟨q0,s3,hL3,acc,ps,hF3,hps,hat⟩:=q
   apply ex_2 q0
   clear q0
   intro u1 u2
   rw [List.length_map,List.take_length] at hps
   have hpl:=read_len hps
   refine ⟨_,rfl,F,acc,rfl,.inl (.of hF3),_,_,rfl,rfl,_,rfl,?_⟩
   have hal:=hat.1
   by_cases h12:ps.length<=12
   ·rw [decide_eq_true (show (acc.length:Int)<13 by lia)]
    exact iteT ⟨_,rfl,k1 ps hps h12 F acc H3 hF s3 hF3 hat⟩
   ·rw [decide_eq_false (show ¬ (acc.length:Int)<13 by lia)]
    exact iteF (k2' (.inr (by lia)) H3 s3)
end
end K13
namespace K13
open PySem L2 LG
section
variable {P:Program}{w:World}{K:PySem.W.Frag}{mg:Str->Option Value}{base:Heap}{A:Ad}
theorem den_self {K:PySem.W.Frag}{H:Hp}{v:V}{d:PyData} (h:Den K H v d):PyData.eqv d d=true:=PySem.SeqAt.eqv_refl d h.lay
theorem dich (z:Str):BadT z\/∃ ps:List Pt,(Txt.split z " ").map readQ=ps.map some/\ps.length<=12:=by
 unfold BadT
 generalize Txt.split z " " = ws
 by_cases h:∃ x∈ws,readQ x=none
 ·exact .inl (.inl h)
 ·by_cases h12:12<ws.length
  ·exact .inl (.inr h12)
  ·have go:∀ ws:List Str,(¬ ∃ x∈ws,readQ x=none)->∃ ps:List Pt,ws.map readQ=ps.map some:=λws=>by
    induction ws with
    | nil=>exact λ_=>⟨[],rfl⟩
    | cons a r ih=>
     intro h
     obtain ⟨ps,e⟩:=ih λ⟨x,hx,q⟩=>h ⟨x,.tail _ hx,q⟩
     cases q:readQ a with
     | none=>exact (h ⟨a,.head _,q⟩).elim
     | some p=>exact ⟨p::ps,by rw [List.map_cons,List.map_cons,q,e]⟩
   obtain ⟨ps,e⟩:=go ws h
   exact .inr ⟨ps,e,by rw [read_len e];lia⟩
def sp__law_reads (K:PySem.W.Frag):Sp:=λvs H Q _=>∃ z:Str,vs=[.str z]/\PyData.strOk z=true/\z.length<=990/\∀ H',Same H H'->Q (.bl true) H'
theorem pats_depth (ps:List Pt):(patD ps).depth<=100:=by
 have:PyData.depthAll (ps.map Pt.dat)<=1:=depthAll_le _ λd hd=>by
  obtain ⟨p,_,rfl⟩:=List.mem_map.mp hd
  cases p <;> exact Nat.le_refl _
 show PyData.depthAll _+1<=100
 lia
theorem sc__law_reads:FnScope ["text","due","turn","told","fault"] ["text"] (defScope (top 44)):=⟨rfl,rfl,rfl,by decide +kernel,rfl,by decide +kernel,by decide +kernel⟩
set_option maxHeartbeats 8000000 in
theorem ok__law_reads (T:Tx K mg A):FnOk P w K mg base CX0 7 A.f__law_reads A.d__law_reads ["text"] (sp__law_reads K):=by
 have G__law_read:FnOk P w K mg base CX0 6 A.f__law_read A.d__law_read ["text"] (sp__law_read K):=(ok__law_read T).mono (by decide)
 have G__law_told:FnOk P w K mg base CX0 6 A.f__law_told A.d__law_told ["text"] (sp__law_told K):=(ok__law_told T).mono (by decide)
 have G_show_pattern:FnOk P w K mg base CX0 6 A.f_show_pattern A.d_show_pattern ["pattern"] (sp_show_pattern K):=(ok_show_pattern T).mono (by decide)
 refine T._law_reads.fn.ok sc__law_reads (λvs H Q E h=>?_) (λcdv Ar outer s H vs Q E hr h=>?_)
 ·obtain ⟨z,rfl,_⟩:=h;rfl
 ·obtain ⟨z,rfl,hzs,hzl,k⟩:=h
  refine ⟨_,pss_cons (ps_set (i:=1) sc__law_reads.nd rfl (Or.inl rfl) (pe_call G__law_read hr (by rfl) T._law_read.mg T._law_read.fn.kp T._law_read.bd .nil pass0 (pa_cons (pv 0) (pa_nil))))
   (pss_cons (ps_for PassesOwn.never rfl (pi_range1 (by rfl) T.n_range (pa_cons (pe_int) (pa_nil))) (pg_name (i:=2) sc__law_reads.nd rfl (Or.inl rfl)) (pss_cons (ps_asg (pe_call G__law_told hr (by rfl) T._law_told.mg T._law_told.fn.kp T._law_told.bd .nil pass0 (pa_cons (pv 0) (pa_nil))) (pg_tup rfl (pgs_cons (pg_name (i:=3) sc__law_reads.nd rfl (Or.inl rfl)) (pgs_cons (pg_name (i:=4) sc__law_reads.nd rfl (Or.inl rfl)) (pgs_nil)))))
   (pss_one (ps_if (pt_cmpR (op_isN) (pv 1) (pe_non) (nomark _)) (pss_one (ps_if ((pw_or (pt_cmpR (op_notN) (pv 3) (pe_non) (nomark _)) (pw_or1 (pt_cmpR (op_ne) (pv 4) (pe_str) (nomark _)))).pt) (pss_one (ps_ret (pe_bl))) (pss_nil))) (pss_cons (ps_if ((pw_or (pt_cmpR (op_ne) (pv 4) (pe_str) (nomark _)) (pw_or (pt_not (pt_val (pe_callB (r:=rIsi K) call_isi (by rfl) T.n_isinstance bt_isinstance (pa_cons (pv 3) (pa_cons (pe_bltn (v:=.ty "list") (by rfl) T.n_list bt_list rfl) (pa_nil)))))) (pw_or1 (pt_cmpR (r:=rNeD K) (op_neD hr) (pv 3) (pv 1) (nomark _))))).pt) (pss_one (ps_ret (pe_bl))) (pss_nil))
   (pss_cons (ps_if (pt_cmpR (op_ne) (pe_call G_show_pattern hr (by rfl) T.show_pattern.mg T.show_pattern.fn.kp T.show_pattern.bd .nil pass0 (pa_cons (pv 3) (pa_nil))) (pv 0) (nomark _)) (pss_one (ps_ret (pe_bl))) (pss_nil))
   (pss_one (ps_expr (pe_bm PySem.F.plainAttrs_list PySem.F.slot_list_append PySem.F.type_list_append mt_append (pv 3) (pa_cons (pe_non) (pa_nil)))))))))))
   (pss_one (ps_ret (pe_bl)))),?_⟩
  rcases dich z with hb | ⟨ps,hps,h12⟩
  ·have nog:∀ ps:List Pt,(Txt.split z " ").map readQ=ps.map some->ps.length<=12->False:=λps e h12=>by
    rcases hb with ⟨x,hx,q⟩ | hb
    ·obtain ⟨i,hi,rfl⟩:=List.getElem_of_mem hx
     have e2:((Txt.split z " ").map readQ)[i]? = (ps.map some)[i]?:=by rw [e]
     rw [List.getElem?_map,List.getElem?_map,List.getElem?_eq_getElem hi,List.getElem?_eq_getElem (by rw [read_len e];exact hi)] at e2
     simp [q] at e2
    ·rw [read_len e] at h12
     lia
   refine ⟨_,rfl,z,rfl,hzs,hzl,λps e h12=>(nog ps e h12).elim,λ_ H1 s1=>?_⟩
   refine ⟨2,rfl,by decide,by decide,?_⟩
   refine for_range (λj σ H2=>(∃ u2 u3 u4,σ=[some (.str z),some .non,u2,u3,u4])/\Same H H2) ⟨⟨_,_,_,rfl⟩,s1⟩ (λj σ H2 hj q=>?_) (λσ H2 q=>?_)
   ·obtain ⟨q0,s2⟩:=q
    apply ex_3 q0
    clear q0
    intro u2 u3 u4
    refine ⟨_,rfl,z,rfl,hzs,hzl,λps e h12=>(nog ps e h12).elim,λ_ t H3 H4 s3 ht e4=>?_⟩
    subst e4
    refine ⟨t,_,rfl,.of upd_same,rfl,_,_,rfl,_,_,rfl,rfl,?_⟩
    refine ⟨_,rfl,rfl,_,rfl,iteT ⟨_,rfl,rfl,_,rfl,iteF ⟨_,rfl,rfl,_,rfl,iteF ?_⟩⟩⟩
    exact ⟨⟨_,_,_,rfl⟩,(s2.trans s3).trans (Same.new ht)⟩
   ·obtain ⟨_,s2⟩:=q
    exact k H2 s2
  ·have nob:¬ BadT z:=λhb=>by
    rcases hb with ⟨x,hx,q⟩ | hb
    ·obtain ⟨i,hi,rfl⟩:=List.getElem_of_mem hx
     have e2:((Txt.split z " ").map readQ)[i]? = (ps.map some)[i]?:=by rw [hps]
     rw [List.getElem?_map,List.getElem?_map,List.getElem?_eq_getElem hi,List.getElem?_eq_getElem (by rw [read_len hps];exact hi)] at e2
     simp [q] at e2
    ·rw [read_len hps] at h12
     lia
   have htok:∀ x∈Txt.split z " ",TOk x:=λx hx=>by
    have:=ok_split (y:= " ") hzs x hx
    exact ⟨by lia,this.1⟩
   have hpk:=read_each hps htok
   have hok:∀ p∈ps,p.ok:=λp hp=>(hpk p hp).ok
   have hback:Txt.join " " (ps.map showP)=z:=by
    rw [read_back hps,txt_join]
    exact PySem.StrLaws.join_split z " "
   have one:∀ {qs:List Pt},(Txt.split z " ").map readQ=qs.map some->qs=ps:=λ{qs} e=>by
    have:qs.map some=ps.map some:=e.symm.trans hps
    exact (List.map_inj_right (λa b h=>Option.some.inj h)).mp this
   refine ⟨_,rfl,z,rfl,hzs,hzl,λqs e _ F acc H1 hF s1 hF1 hat=>?_,λhb=>(nob hb).elim⟩
   have:=one e
   subst this
   refine ⟨2,rfl,by decide,by decide,?_⟩
   refine for_range (λj σ H2=>(∃ u2 u3 u4,σ=[some (.str z),some (.ref F),u2,u3,u4])/\Same H1 H2) ⟨⟨_,_,_,rfl⟩,Same.refl _⟩ (λj σ H2 hj q=>?_) (λσ H2 q=>?_)
   ·obtain ⟨q0,s2⟩:=q
    apply ex_3 q0
    clear q0
    intro u2 u3 u4
    refine ⟨_,rfl,z,rfl,hzs,hzl,λqs' e' _ t D acc2 H3 H4 hD s3 hD3 hat3 ht e4=>?_,λhb=>(nob hb).elim⟩
    have:=one e'
    subst this
    subst e4
    refine ⟨t,_,rfl,.of upd_same,rfl,_,_,rfl,_,_,rfl,rfl,?_⟩
    have st:Same H3 (upd H3 t (.tup [.ref D,.str ""])):=Same.new ht
    generalize upd H3 t (.tup [.ref D,.str ""])=H4 at st ⊢
    have hD4:=st _ _ hD3
    have hF4:H4 F=some (.lst acc):=st _ _ (s3 _ _ (s2 _ _ hF1))
    have dD:Den K H4 (.ref D) (patD qs'):=.lst (.of hD4) ((hat3.same st).lds hok).den
    have dF:Den K H4 (.ref F) (patD qs'):=.lst (.of hF4) ((((hat.same s2).same s3).same st).lds hok).den
    refine ⟨_,rfl,rfl,_,rfl,iteF ⟨_,rfl,rfl,_,rfl,iteF ⟨_,rfl,.ref D,"list",_,true,rfl,.lst hD4,rfl,_,rfl,iteF ⟨_,rfl,_,rfl,_,_,dD,dF,pats_depth _,_,rfl,?_⟩⟩⟩⟩
    rw [den_self dD]
    refine iteF ⟨_,rfl,.ref D,qs',rfl,dD,hpk,by lia,λH5 s5=>⟨_,rfl,rfl,_,rfl,?_⟩⟩
    rw [hback,decide_eq_true rfl]
    have hD5:=s5 _ _ hD4
    have hal:=hat3.1
    refine iteF ⟨_,rfl,.inl ⟨rfl,_,.of hD5⟩,D,_,_,rfl,rfl,hD5,small (by lia),?_⟩
    exact ⟨⟨_,_,_,rfl⟩,snap_upd (s2.free hD) (((s2.trans s3).trans st).trans s5)⟩
   ·obtain ⟨_,s2⟩:=q
    exact k H2 (s1.trans s2)
end
end K13
namespace K13
open PySem L2 LG
section
variable {P:Program}{w:World}{K:PySem.W.Frag}{mg:Str->Option Value}{base:Heap}{A:Ad}
theorem sc__law_deck:FnScope ["cell","turn"] ["cell","turn"] (defScope (top 27)):=⟨rfl,rfl,rfl,by decide +kernel,rfl,by decide +kernel,by decide +kernel⟩
set_option maxHeartbeats 8000000 in
theorem ok__law_deck (T:Tx K mg A):FnOk P w K mg base CX0 1 A.f__law_deck A.d__law_deck ["cell","turn"] (sp__law_deckT K):=by
 refine T._law_deck.fn.ok sc__law_deck (λvs H Q E h=>?_) (λcdv Ar outer s H vs Q E hr h=>?_)
 ·obtain ⟨c,m,rfl,_⟩:=h;rfl
 ·obtain ⟨c,m,rfl,hm,k⟩:=h
  refine ⟨_,pss_cons (ps_if (pt_cmpR (op_ge) (pv 0) (pe_op op_pow (pe_int) (pe_int)) (nomark _)) (pss_one (ps_ret (pe_lst (pa_cons (pe_op op_sub (pv 0) (pe_op op_pow (pe_int) (pe_int))) (pa_cons (pe_op op_mod (pv 0) (pe_int)) (pa_cons (pv 1) (pa_nil))))))) (pss_nil))
   (pss_one (ps_ret (pe_lst (pa_cons (pe_int) (pa_cons (pe_op op_mod (pv 0) (pe_int)) (pa_cons (pv 1) (pa_nil))))))),?_⟩
  refine ⟨_,rfl,_,_,rfl,rfl,⟨by decide,by decide,by decide⟩,_,_,rfl,rfl,_,rfl,?_⟩
  refine ite2 (λhc=>?_) (λhc=>?_)
  ·refine ⟨_,rfl,_,_,rfl,rfl,⟨by decide,by decide,by decide⟩,_,_,rfl,rfl,_,rfl,_,_,rfl,rfl,(by show (0:Int)<2147483579;decide),_,rfl,(by show 3<=sizeLine;decide),λd hd=>?_⟩
   have hc':(10:Int) ^ (18:Int).toNat<=c:=of_decide_eq_true hc
   exact k d _ hd (Same.new hd) ⟨_,_,_,upd_same,by lia,Int.emod_nonneg _ (by decide),Int.emod_lt_of_pos _ (by decide),Int.natCast_nonneg _,Int.le_refl _⟩
  ·refine ⟨_,rfl,_,_,rfl,rfl,(by show (0:Int)<2147483579;decide),_,rfl,(by show 3<=sizeLine;decide),λd hd=>?_⟩
   exact k d _ hd (Same.new hd) ⟨_,_,_,upd_same,by decide,Int.emod_nonneg _ (by decide),Int.emod_lt_of_pos _ (by decide),Int.natCast_nonneg _,Int.le_refl _⟩
theorem sc__law_pick:FnScope ["deck","many","found","number"] ["deck","many"] (defScope (top 28)):=⟨rfl,rfl,rfl,by decide +kernel,rfl,by decide +kernel,by decide +kernel⟩
set_option maxHeartbeats 8000000 in
theorem ok__law_pick (T:Tx K mg A):FnOk P w K mg base CX0 1 A.f__law_pick A.d__law_pick ["deck","many"] (sp__law_pick K):=by
 refine T._law_pick.fn.ok sc__law_pick (λvs H Q E h=>?_) (λcdv Ar outer s H vs Q E hr h=>?_)
 ·obtain ⟨d,m,n,rfl,_⟩:=h;rfl
 ·obtain ⟨d,m,n,rfl,hdk,hn,hm0,hm1,k⟩:=h
  refine ⟨_,pss_cons (ps_if (pt_cmpR (op_gt) (pe_ix (r:=rIxL K) ix_list (pv 0) (pe_int) (λ_ _=>rfl)) (pe_int) (nomark _)) (pss_cons (ps_set (i:=2) sc__law_pick.nd rfl (Or.inl rfl) (pe_op op_mod (pe_ix (r:=rIxL K) ix_list (pv 0) (pe_int) (λ_ _=>rfl)) (pv 1)))
   (pss_cons (ps_asg (pe_op op_fdiv (pe_ix (r:=rIxL K) ix_list (pv 0) (pe_int) (λ_ _=>rfl)) (pv 1)) (pg_sub (pv 0) (pe_int) set_list))
   (pss_one (ps_ret (pv 2))))) (pss_nil))
   (pss_cons (ps_asg (pe_op op_add (pe_ix (r:=rIxL K) ix_list (pv 0) (pe_int) (λ_ _=>rfl)) (pe_int)) (pg_sub (pv 0) (pe_int) set_list))
   (pss_cons (ps_set (i:=3) sc__law_pick.nd rfl (Or.inl rfl) (pe_op op_mod (pe_op op_pow (pe_op op_add (pe_ix (r:=rIxL K) ix_list (pv 0) (pe_int) (λ_ _=>rfl)) (pe_op op_mul (pe_int) (pe_ix (r:=rIxL K) ix_list (pv 0) (pe_int) (λ_ _=>rfl)))) (pe_int)) (pe_int)))
   (pss_cons (ps_set (i:=2) sc__law_pick.nd rfl (Or.inl rfl) (pe_op op_fdiv (pe_op op_mod (pe_op op_pow (pe_op op_add (pv 3) (pe_op op_mul (pe_int) (pe_ix (r:=rIxL K) ix_list (pv 0) (pe_int) (λ_ _=>rfl)))) (pe_int)) (pe_int)) (pe_int)))
   (pss_cons (ps_if (pt_cmpR (op_gt) (pv 1) (pe_int) (nomark _)) (pss_one ps_never) (pss_nil))
   (pss_one (ps_ret (pe_op op_mod (pv 2) (pv 1)))))))),?_⟩
  obtain ⟨a,b,c,hd,ha,hb,hb2,hc,hc2⟩:=hdk
  have hq:SqL K H d [.int a,.int b,.int c]:=.of hd
  refine ⟨_,rfl,d,_,0,_,rfl,rfl,hq,rfl,_,_,rfl,rfl,_,rfl,?_⟩
  refine ite2 (λh1=>?_) (λh1=>?_)
  ·refine ⟨_,rfl,d,_,0,_,rfl,rfl,hq,rfl,_,rfl,_,_,rfl,rfl,hm0,?_⟩
   refine ⟨_,rfl,d,_,0,_,rfl,rfl,hq,rfl,_,rfl,_,_,rfl,rfl,⟨hm0,by lia⟩,?_⟩
   refine ⟨_,rfl,d,_,0,0,rfl,rfl,hd,rfl,?_⟩
   refine ⟨_,rfl,?_⟩
   exact k _ _ same_upd ⟨_,_,_,upd_same,Int.ediv_nonneg ha (by lia),hb,hb2,hc,by lia⟩ (Int.emod_nonneg _ (by lia)) (Int.emod_lt_of_pos _ hm0)
  ·refine ⟨_,rfl,d,_,2,_,rfl,rfl,hq,rfl,_,_,rfl,rfl,?_⟩
   refine ⟨_,rfl,d,_,2,2,rfl,rfl,hd,rfl,?_⟩
   have hq2:SqL K (upd H d (.lst [.int a,.int b,.int (c+1)])) d [.int a,.int b,.int (c+1)]:=.of upd_same
   refine ⟨_,rfl,d,_,1,_,rfl,rfl,hq2,rfl,_,rfl,d,_,2,_,rfl,rfl,hq2,rfl,_,_,rfl,rfl,.inl ⟨by decide,by decide⟩,_,_,rfl,rfl,_,_,rfl,rfl,⟨by decide,by decide,by lia⟩,_,_,rfl,rfl,(by show (0:Int)<2147483647;decide),?_⟩
   refine ⟨_,rfl,_,rfl,d,_,2,_,rfl,rfl,hq2,rfl,_,_,rfl,rfl,.inl ⟨by decide,by decide⟩,_,_,rfl,rfl,_,_,rfl,rfl,⟨by decide,by decide,?_⟩,_,_,rfl,rfl,(by show (0:Int)<2147483629;decide),_,_,rfl,rfl,⟨by decide,by decide⟩,?_⟩
   ·have h2:=Int.emod_nonneg ((b+15485867 * (c+1)) ^ (5:Int).toNat) (show (2147483647:Int)≠0 by decide)
    have h3:=Int.emod_lt_of_pos ((b+15485867 * (c+1)) ^ (5:Int).toNat) (show (0:Int)<2147483647 by decide)
    lia
   ·refine ⟨_,rfl,_,_,rfl,rfl,_,rfl,?_⟩
    rw [decide_eq_false (show ¬ (1000000:Int)<m by lia)]
    refine iteF ?_
    refine ⟨_,rfl,_,rfl,_,_,rfl,rfl,hm0,?_⟩
    exact k _ _ same_upd ⟨_,_,_,upd_same,ha,hb,hb2,by lia,by lia⟩ (Int.emod_nonneg _ (by lia)) (Int.emod_lt_of_pos _ hm0)
theorem sc__law_kind:FnScope ["word","figures"] ["word"] (defScope (top 30)):=⟨rfl,rfl,rfl,by decide +kernel,rfl,by decide +kernel,by decide +kernel⟩
set_option maxHeartbeats 8000000 in
theorem ok__law_kind (T:Tx K mg A):FnOk P w K mg base CX0 1 A.f__law_kind A.d__law_kind ["word"] (sp__law_kind K):=by
 refine T._law_kind.fn.ok sc__law_kind (λvs H Q E h=>?_) (λcdv Ar outer s H vs Q E hr h=>?_)
 ·obtain ⟨z,rfl,_⟩:=h;rfl
 ·obtain ⟨z,rfl,hz,k⟩:=h
  refine ⟨_,pss_cons (ps_set (i:=1) sc__law_kind.nd rfl (Or.inl rfl) (pe_ifExp (pt_cmpR (op_eq) (pe_slice sl_str (pv 0) (po_none) (po_some (pe_int))) (pe_str) (nomark _)) (pe_slice sl_str (pv 0) (po_some (pe_int)) (po_none)) (pv 0)))
   (pss_cons (ps_if ((pw_and (pt_cmpR (op_ne) (pv 1) (pe_str) (nomark _)) (pw_and1 (pt_cmpR (r:=rEqD K) (op_eqD hr) (pe_comp (N':=["sign"]) (n:=1) (fi:=[]) (g:=gName 0) rfl (cscope (defScope (top 30)) ["word","figures"] (by decide +kernel)) (pi_str (pv 1)) (λs H fp=>pg_name (i:=0) (show (["sign"]:List Str).Nodup by decide +kernel) rfl (Or.inl rfl) (.inr rfl)) (λs H fp=>pifs_one (pt_not (pt_chain op_le_str op_le_str (pe_str) (pv 0) (pe_str)))) (λs H fp=>pv 0)) (pe_lst (pa_nil)) (nomark _)))).pt) (pss_one (ps_ret (pe_str))) (pss_nil))
   (pss_one (ps_ret (pe_ifExp (pt_cmpR (r:=rEqD K) (op_eqD hr) (pe_comp (N':=["sign"]) (n:=1) (fi:=[]) (g:=gName 0) rfl (cscope (defScope (top 30)) ["word","figures"] (by decide +kernel)) (pi_str (pv 0)) (λs H fp=>pg_name (i:=0) (show (["sign"]:List Str).Nodup by decide +kernel) rfl (Or.inl rfl) (.inr rfl)) (λs H fp=>pifs_one (pt_not (pt_chain op_le_str op_le_str (pe_str) (pv 0) (pe_str)))) (λs H fp=>pv 0)) (pe_lst (pa_nil)) (nomark _)) (pe_str) (pe_str))))),?_⟩
  have hl:z.length<=sizeLine:=Nat.le_trans hz.1 (by decide)
  have hf:=ok_slice (z:=z) (l:=some 1) (u:=none) hz.2
  have c0:("0" : Str)=⟨#[48]⟩:=by decide +kernel
  have c9:("9" : Str)=⟨#[57]⟩:=by decide +kernel
  have ca:("a" : Str)=⟨#[97]⟩:=by decide +kernel
  have cz:("z" : Str)=⟨#[122]⟩:=by decide +kernel
  have ek:lawKindL z.cps.toList=if onlyB dig (unminus z.cps.toList)=true then 0 else if z.cps.toList.all low=true then 1 else 2:=rfl
  rw [ek] at k
  refine ⟨_,rfl,_,rfl,z,rfl,hl,rfl,_,rfl,?_⟩
  rw [dash_head]
  have hfig:∃ f:Str,f.cps.toList=unminus z.cps.toList/\PyData.strOk f=true/\f.length<=10000/\(f=if z.cps.toList.head? = some 45 then Txt.slice z (some 1) none else z):=by
   by_cases hd:z.cps.toList.head? = some 45
   ·exact ⟨_,by rw [if_pos hd,slice_tail];exact unminus_yes hd,by rw [if_pos hd];exact hf.1,by rw [if_pos hd];exact Nat.le_trans hf.2 hz.1,rfl⟩
   ·exact ⟨_,by rw [if_neg hd];exact unminus_no hd,by rw [if_neg hd];exact hz.2,by rw [if_neg hd];exact hz.1,rfl⟩
  obtain ⟨f,f1,f2,f3,f4⟩:=hfig
  have tail:∀ H2,Same H H2->onlyB dig (unminus z.cps.toList)=false->tRet (tIf (tTest (tOp (rEqD K) (tComp (iStr (tVar 0)) (gName 0) (tNot (tTest (tChain (λx y H Q=>∃ i j,x = .str i/\y = .str j/\Q (.bl (!decide (j.cps.toList<i.cps.toList))) H) (λx y H Q=>∃ i j,x = .str i/\y = .str j/\Q (.bl (!decide (j.cps.toList<i.cps.toList))) H) (tC (.str "a")) (tVar 0) (tC (.str "z"))))) (tVar 0) 1 []) (tLst tNil))) (tC (.str "name")) (tC (.str "other"))) { nx:=λ_ H'=>Q .non H',rt:=Q } [some (.str z),some (.str f)] H2:=λH2 s2 hno=>by
   refine no_signsX (λc=>!(decide (97<=c) && decide (c<=122))) rfl hz.2 (Nat.le_trans hz.1 (by decide)) (λc H2 R h=>not_betweenX ca cz h) λH3 s3=>?_
   have e:(z.cps.toList.all λc=>!(!(decide (97<=c) && decide (c<=122))))=z.cps.toList.all low:=by
    congr 1
    funext c
    simp [low]
   rw [e]
   have kk:=k H3 (s2.trans s3)
   rw [hno,if_neg Bool.false_ne_true] at kk
   by_cases hb:z.cps.toList.all low=true
   ·rw [if_pos hb] at kk
    rw [hb]
    exact iteT kk
   ·rw [if_neg hb] at kk
    rw [Bool.eq_false_iff.mpr hb]
    exact iteF kk
  by_cases hd:z.cps.toList.head? = some 45
  ·rw [decide_eq_true hd]
   rw [if_pos hd] at f4
   subst f4
   refine iteT ⟨_,rfl,_,rfl,z,rfl,hl,?_⟩
   refine ⟨_,rfl,rfl,_,rfl,?_⟩
   rw [dec_nil,f1]
   by_cases he:(unminus z.cps.toList).isEmpty=true
   ·rw [he]
    refine iteF ?_
    refine iteF ?_
    exact tail H (Same.refl _) (by unfold onlyB;rw [he];rfl)
   ·rw [Bool.eq_false_iff.mpr he]
    refine iteT ?_
    refine no_signsX (λc=>!(decide (48<=c) && decide (c<=57))) rfl f2 (Nat.le_trans f3 (by decide)) (λc H2 R h=>not_betweenX c0 c9 h) λH2 s2=>?_
    have e:((Txt.slice z (some 1) none).cps.toList.all λc=>!(!(decide (48<=c) && decide (c<=57))))=(unminus z.cps.toList).all dig:=by
     rw [f1]
     congr 1
     funext c
     simp [dig]
    rw [e]
    by_cases hb:(unminus z.cps.toList).all dig=true
    ·rw [hb]
     refine iteT ?_
     have ho:onlyB dig (unminus z.cps.toList)=true:=by unfold onlyB;rw [Bool.eq_false_iff.mpr he,hb];rfl
     have kk:=k H2 s2
     rw [ho,if_pos rfl] at kk
     exact kk
    ·rw [Bool.eq_false_iff.mpr hb]
     refine iteF ?_
     exact tail H2 s2 (by unfold onlyB;rw [Bool.eq_false_iff.mpr hb,Bool.and_false])
  ·rw [decide_eq_false hd]
   rw [if_neg hd] at f4
   subst f4
   refine iteF ⟨_,rfl,?_⟩
   refine ⟨_,rfl,rfl,_,rfl,?_⟩
   rw [dec_nil,f1]
   by_cases he:(unminus f.cps.toList).isEmpty=true
   ·rw [he]
    refine iteF ?_
    refine iteF ?_
    exact tail H (Same.refl _) (by unfold onlyB;rw [he];rfl)
   ·rw [Bool.eq_false_iff.mpr he]
    refine iteT ?_
    refine no_signsX (λc=>!(decide (48<=c) && decide (c<=57))) rfl f2 (Nat.le_trans f3 (by decide)) (λc H2 R h=>not_betweenX c0 c9 h) λH2 s2=>?_
    have e:(f.cps.toList.all λc=>!(!(decide (48<=c) && decide (c<=57))))=(unminus f.cps.toList).all dig:=by
     rw [<-f1]
     congr 1
     funext c
     simp [dig]
    rw [e]
    by_cases hb:(unminus f.cps.toList).all dig=true
    ·rw [hb]
     refine iteT ?_
     have ho:onlyB dig (unminus f.cps.toList)=true:=by unfold onlyB;rw [Bool.eq_false_iff.mpr he,hb];rfl
     have kk:=k H2 s2
     rw [ho,if_pos rfl] at kk
     exact kk
    ·rw [Bool.eq_false_iff.mpr hb]
     refine iteF ?_
     exact tail H2 s2 (by unfold onlyB;rw [Bool.eq_false_iff.mpr hb,Bool.and_false])
theorem sc__law_word:FnScope ["deck","way","some"] ["deck"] (defScope (top 33)):=⟨rfl,rfl,rfl,by decide +kernel,rfl,by decide +kernel,by decide +kernel⟩
set_option maxHeartbeats 8000000 in
theorem ok__law_word (T:Tx K mg A):FnOk P w K mg base CX0 2 A.f__law_word A.d__law_word ["deck"] (sp__law_word K):=by
 have G__law_pick:FnOk P w K mg base CX0 1 A.f__law_pick A.d__law_pick ["deck","many"] (sp__law_pick K):=(ok__law_pick T).mono (by decide)
 refine T._law_word.fn.ok sc__law_word (λvs H Q E h=>?_) (λcdv Ar outer s H vs Q E hr h=>?_)
 ·obtain ⟨d,n,rfl,_⟩:=h;rfl
 ·obtain ⟨d,n,rfl,hdk,hn,k⟩:=h
  refine ⟨_,pss_cons (ps_set (i:=1) sc__law_word.nd rfl (Or.inl rfl) (pe_call G__law_pick hr (by rfl) T._law_pick.mg T._law_pick.fn.kp T._law_pick.bd .nil pass0 (pa_cons (pv 0) (pa_cons (pe_int) (pa_nil)))))
   (pss_cons (ps_if (pt_cmpR (op_lt) (pv 1) (pe_int) (nomark _)) (pss_one (ps_ret (pe_ix (r:=rIxL K) ix_list (pe_lst (pa_cons (pe_str) (pa_cons (pe_str) (pa_cons (pe_str) (pa_nil))))) (pe_call G__law_pick hr (by rfl) T._law_pick.mg T._law_pick.fn.kp T._law_pick.bd .nil pass0 (pa_cons (pv 0) (pa_cons (pe_int) (pa_nil)))) (λ_ _=>rfl)))) (pss_nil))
   (pss_cons (ps_if (pt_cmpR (op_lt) (pv 1) (pe_int) (nomark _)) (pss_one (ps_ret (pe_ix (r:=rIxL K) ix_list (pe_lst (pa_cons (pe_str) (pa_cons (pe_str) (pa_cons (pe_str) (pa_cons (pe_str) (pa_cons (pe_str) (pa_nil))))))) (pe_call G__law_pick hr (by rfl) T._law_pick.mg T._law_pick.fn.kp T._law_pick.bd .nil pass0 (pa_cons (pv 0) (pa_cons (pe_int) (pa_nil)))) (λ_ _=>rfl)))) (pss_nil))
   (pss_cons (ps_if (pt_cmpR (op_lt) (pv 1) (pe_int) (nomark _)) (pss_one (ps_ret (pe_ix (r:=rIxL K) ix_list (pe_lst (pa_cons (pe_str) (pa_cons (pe_str) (pa_cons (pe_str) (pa_cons (pe_str) (pa_cons (pe_str) (pa_cons (pe_str) (pa_cons (pe_str) (pa_cons (pe_str) (pa_nil)))))))))) (pe_call G__law_pick hr (by rfl) T._law_pick.mg T._law_pick.fn.kp T._law_pick.bd .nil pass0 (pa_cons (pv 0) (pa_cons (pe_int) (pa_nil)))) (λ_ _=>rfl)))) (pss_nil))
   (pss_cons (ps_set (i:=2) sc__law_word.nd rfl (Or.inr rfl) (pe_ix (r:=rIxL K) ix_list (pe_lst (pa_cons (pe_str) (pa_cons (pe_str) (pa_cons (pe_str) (pa_cons (pe_str) (pa_nil)))))) (pe_op op_sub (pv 1) (pe_int)) (λ_ _=>rfl)))
   (pss_one (ps_ret (pe_bm (r:=rJoin K) PySem.F.plainAttrs_str PySem.F.slot_str_join PySem.F.type_str_join mt_join (pe_str) (pa_cons (pe_comp (N':=["k","some","deck"]) (n:=1) (fi:=[2,0]) (g:=gName 0) rfl (cscope (defScope (top 33)) ["deck","way","some"] (by decide +kernel)) (pi_range1 (by rfl) T.n_range (pa_cons (pe_op op_add (pe_int) (pe_call G__law_pick hr (by rfl) T._law_pick.mg T._law_pick.fn.kp T._law_pick.bd .nil pass0 (pa_cons (pv 0) (pa_cons (pe_int) (pa_nil))))) (pa_nil))) (λs H fp=>pg_name (i:=0) (show (["k","some","deck"]:List Str).Nodup by decide +kernel) rfl (Or.inl rfl) (.inr rfl)) (λs H fp=>pifs_nil) (λs H fp=>pe_ix ix_str (pv 1) (pe_call G__law_pick hr (by rfl) T._law_pick.mg T._law_pick.fn.kp T._law_pick.bd .nil pass0 (pa_cons (pv 2) (pa_cons (pe_callB call_len_str (by rfl) T.n_len PySem.boot_len (pa_cons (pv 1) (pa_nil))) (pa_nil)))) (λ_ _=>rfl))) (pa_nil))))))))),?_⟩
  refine ⟨_,rfl,d,12,n,rfl,hdk,by lia,by decide,by decide,λway H1 s1 dk1 w0 w12=>?_⟩
  refine ⟨_,rfl,_,_,rfl,rfl,_,rfl,?_⟩
  refine ite2 (λ_=>?_) (λ_=>?_)
  ·refine ⟨(by show 3<=sizeLine;decide),λp hp=>⟨_,rfl,d,3,n+1,rfl,dk1.same (Same.new hp),by lia,by decide,by decide,λr H2 s2 dk2 r0 r1=>?_⟩⟩
   obtain ⟨x,hx,ha⟩:=at_strs (l:=words1) r0 r1
   have hp2:H2 p=some (.lst (words1.map V.str)):=keepN s2 upd_same (dk1.ne hp)
   have hw:=w1 x hx
   exact ⟨p,_,r,_,rfl,rfl,.of hp2,ha,k x H2 (wo_trans (s1.trans (Same.new hp)) s2) (dk2.mono (by lia)) ⟨hw.1,hw.2.1,hw.2.2⟩⟩
  ·refine ⟨_,rfl,_,_,rfl,rfl,_,rfl,?_⟩
   refine ite2 (λ_=>?_) (λ_=>?_)
   ·refine ⟨(by show 5<=sizeLine;decide),λp hp=>⟨_,rfl,d,5,n+1,rfl,dk1.same (Same.new hp),by lia,by decide,by decide,λr H2 s2 dk2 r0 r1=>?_⟩⟩
    obtain ⟨x,hx,ha⟩:=at_strs (l:=words2) r0 r1
    have hp2:H2 p=some (.lst (words2.map V.str)):=keepN s2 upd_same (dk1.ne hp)
    have hw:=w2 x hx
    exact ⟨p,_,r,_,rfl,rfl,.of hp2,ha,k x H2 (wo_trans (s1.trans (Same.new hp)) s2) (dk2.mono (by lia)) ⟨hw.1,hw.2.1,hw.2.2⟩⟩
   ·refine ⟨_,rfl,_,_,rfl,rfl,_,rfl,?_⟩
    refine ite2 (λ_=>?_) (λh8=>?_)
    ·refine ⟨(by show 8<=sizeLine;decide),λp hp=>⟨_,rfl,d,8,n+1,rfl,dk1.same (Same.new hp),by lia,by decide,by decide,λr H2 s2 dk2 r0 r1=>?_⟩⟩
     obtain ⟨x,hx,ha⟩:=at_strs (l:=words3) r0 r1
     have hp2:H2 p=some (.lst (words3.map V.str)):=keepN s2 upd_same (dk1.ne hp)
     have hw:=w3 x hx
     exact ⟨p,_,r,_,rfl,rfl,.of hp2,ha,k x H2 (wo_trans (s1.trans (Same.new hp)) s2) (dk2.mono (by lia)) ⟨hw.1,hw.2.1,hw.2.2⟩⟩
    ·have h8':¬ way<8:=λh=>h8 (decide_eq_true h)
     obtain ⟨x,hx,ha⟩:=at_strs (l:=words4) (r:=way - 8) (by lia) (by show way - 8<4;lia)
     have hxx:=w4 x hx
     refine ⟨(by show 4<=sizeLine;decide),λp hp=>⟨_,rfl,_,_,rfl,rfl,p,_,way - 8,_,rfl,rfl,.of upd_same,ha,?_⟩⟩
     have dkp:Dk (upd H1 p (.lst (words4.map V.str))) d (n+1):=dk1.same (Same.new hp)
     refine ⟨rfl,_,rfl,d,4,n+1,rfl,dkp,by lia,by decide,by decide,λr4 H2 s2 dk2 r0 r1=>?_⟩
     refine ⟨_,_,rfl,rfl,1+r4,rfl,by lia,by lia,λD hD=>?_⟩
     have hdD:d≠D:=dk2.ne hD
     refine comp_range (λi acc σ H3=>(∃ u,σ=[u,some (.str x),some (.ref d)])/\Same (wo d H2) H3/\Dk H3 d (n+2+i)/\∃ l:List Str,acc=l.map V.str/\l.length=i/\∀ y∈l,PyData.strOk y=true/\y.length<=1/\∃ c,y=⟨#[c]⟩/\sgn c=true) upd_same ⟨⟨_,rfl⟩,wo_same.trans (Same.new hD),dk2.same (Same.new hD),[],rfl,rfl,λy hy=>by cases hy⟩ (λi acc σ H3 hi hD3 q=>?_) (λacc σ H3 hD3 q=>?_)
     ·obtain ⟨q0,s3,dk3,l,rfl,hl,hok⟩:=q
      apply ex_1 q0
      clear q0
      intro u
      refine compY ⟨_,rfl,_,rfl,_,rfl,x,rfl,Nat.le_trans hxx.2.1 (by decide),d,x.length,n+2+i,rfl,dk3,by lia,by lia,by lia,λr H4 s4 dk4 q0 q1=>?_⟩
      obtain ⟨c,j,hc,hj⟩:=at_sign q0 q1
      have hsc:sgn c=true:=List.all_eq_true.mp hxx.2.2.2 c (by simpa using Array.mem_of_getElem? hj)
      refine ⟨x,r,c,rfl,rfl,Nat.le_trans hxx.2.1 (by decide),hc,_,keepN s4 hD3 hdD,small (by simp only [List.length_map];lia),_,upd_same,⟨_,rfl⟩,snap_upd (by rw [wo_at hdD.symm];exact hD) (wo_trans s3 s4),dk4.upd hdD,l++[⟨#[c]⟩],by simp,by simp [hl],λy hy=>?_⟩
      rcases List.mem_append.mp hy with hy | hy
      ·exact hok y hy
      ·simp only [List.mem_singleton] at hy
       subst hy
       exact ⟨ok_sign hxx.1 hj,Nat.le_refl _,c,rfl,hsc⟩
     ·obtain ⟨_,s3,dk3,l,rfl,hl,hok⟩:=q
      have hl4:l.length<=4:=by lia
      refine ⟨"",D,l,rfl,rfl,.of hD3,join_fits (λy hy=>(hok y hy).2.1) ?_,?_⟩
      ·have:(("" : Str)).length=0:=rfl
       rw [this];lia
      ·exact k _ H3 (wo_trans (wo_trans (s1.trans (Same.new hp)) s2) s3) (dk3.mono (by lia)) (join_word (by lia) hl4 hok)
theorem sc__law_line:FnScope ["deck","most"] ["deck","most"] (defScope (top 34)):=⟨rfl,rfl,rfl,by decide +kernel,rfl,by decide +kernel,by decide +kernel⟩
set_option maxHeartbeats 8000000 in
theorem ok__law_line (T:Tx K mg A):FnOk P w K mg base CX0 3 A.f__law_line A.d__law_line ["deck","most"] (sp__law_line K):=by
 have G__law_word:FnOk P w K mg base CX0 2 A.f__law_word A.d__law_word ["deck"] (sp__law_word K):=(ok__law_word T).mono (by decide)
 have G__law_pick:FnOk P w K mg base CX0 2 A.f__law_pick A.d__law_pick ["deck","many"] (sp__law_pick K):=(ok__law_pick T).mono (by decide)
 refine T._law_line.fn.ok sc__law_line (λvs H Q E h=>?_) (λcdv Ar outer s H vs Q E hr h=>?_)
 ·obtain ⟨d,m,n,rfl,_⟩:=h;rfl
 ·obtain ⟨d,m,n,rfl,hdk,hn,hm0,hm1,k⟩:=h
  refine ⟨_,pss_one (ps_ret (pe_bm (r:=rJoin K) PySem.F.plainAttrs_str PySem.F.slot_str_join PySem.F.type_str_join mt_join (pe_str) (pa_cons (pe_comp (N':=["k","deck"]) (n:=1) (fi:=[0]) (g:=gName 0) rfl (cscope (defScope (top 34)) ["deck","most"] (by decide +kernel)) (pi_range1 (by rfl) T.n_range (pa_cons (pe_op op_add (pe_int) (pe_call G__law_pick hr (by rfl) T._law_pick.mg T._law_pick.fn.kp T._law_pick.bd .nil pass0 (pa_cons (pv 0) (pa_cons (pv 1) (pa_nil))))) (pa_nil))) (λs H fp=>pg_name (i:=0) (show (["k","deck"]:List Str).Nodup by decide +kernel) rfl (Or.inl rfl) (.inr rfl)) (λs H fp=>pifs_nil) (λs H fp=>pe_call G__law_word hr (by rfl) T._law_word.mg T._law_word.fn.kp T._law_word.bd .nil pass0 (pa_cons (pv 1) (pa_nil)))) (pa_nil)))),?_⟩
  refine ⟨rfl,_,rfl,_,rfl,d,m,n,rfl,hdk,by lia,hm0,by lia,λr4 H2 s2 dk2 r0 r1=>?_⟩
  refine ⟨_,_,rfl,rfl,1+r4,rfl,by lia,by lia,λD hD=>?_⟩
  have hdD:d≠D:=dk2.ne hD
  refine comp_range (λi acc σ H3=>(∃ u,σ=[u,some (.ref d)])/\Same (wo d H2) H3/\Dk H3 d (n+1+6 * i)/\∃ l:List Str,acc=l.map V.str/\l.length=i/\∀ y∈l,WOk y) upd_same ⟨⟨_,rfl⟩,wo_same.trans (Same.new hD),dk2.same (Same.new hD),[],rfl,rfl,λy hy=>by cases hy⟩ (λi acc σ H3 hi hD3 q=>?_) (λacc σ H3 hD3 q=>?_)
  ·obtain ⟨q0,s3,dk3,l,rfl,hl,hok⟩:=q
   apply ex_1 q0
   clear q0
   intro u
   refine compY ⟨_,rfl,d,n+1+6 * i,rfl,dk3,by lia,λx H4 s4 dk4 hx=>?_⟩
   refine ⟨_,keepN s4 hD3 hdD,small (by simp only [List.length_map];lia),_,upd_same,⟨_,rfl⟩,snap_upd (by rw [wo_at hdD.symm];exact hD) (wo_trans s3 s4),(dk4.upd hdD).mono (by lia),l++[x],by simp,by simp [hl],λy hy=>?_⟩
   rcases List.mem_append.mp hy with hy | hy
   ·exact hok y hy
   ·simp only [List.mem_singleton] at hy
    subst hy
    exact hx
  ·obtain ⟨_,s3,dk3,l,rfl,hl,hok⟩:=q
   have h1:((" " : Str)).length=1:=rfl
   refine ⟨" ",D,l,rfl,rfl,.of hD3,join_fits (λy hy=>(hok y hy).len) ?_,?_⟩
   ·rw [h1];lia
   ·exact k _ l H3 (wo_trans s2 s3) (dk3.mono (by lia)) ⟨rfl,by lia,by lia,hok⟩
end
end K13
namespace K13
open PySem L2 LG
section
variable {P:Program}{w:World}{K:PySem.W.Frag}{mg:Str->Option Value}{base:Heap}{A:Ad}
theorem cut_mid {xs:List V} (a b:Nat) (hab:a<=b):cutV xs (some (a:Int)) (some (b:Int))=(xs.drop a).take (b - a):=by
 unfold cutV
 rw [HT.sIx_nat,HT.sIx_nat]
 rcases Nat.le_total a xs.length with q | q
 ·rw [Nat.min_eq_left q]
  rcases Nat.le_total b xs.length with r | r
  ·rw [Nat.min_eq_left r]
  ·rw [Nat.min_eq_right r,List.take_of_length_le (by rw [List.length_drop];lia),List.take_of_length_le (by rw [List.length_drop];lia)]
 ·rw [Nat.min_eq_right q,Nat.min_eq_right (Nat.le_trans q hab),List.drop_of_length_le (Nat.le_refl _),List.drop_of_length_le q]
  simp
theorem totS_cut (l:List Str) (a:Nat):totS l=totS (l.take a)+totS ((l.drop a).take 1)+totS ((l.drop (a+1)).take 1)+totS (l.drop (a+2)):=by
 have h1:=totS_take l a
 have h2:=totS_take (l.drop a) 1
 have h3:=totS_take (l.drop (a+1)) 1
 rw [List.drop_drop] at h2 h3
 have e:a+1+1=a+2:=rfl
 rw [e] at h3
 lia
theorem totS_drop1 (l:List Str) (a:Nat):totS (l.drop a)=totS ((l.drop a).take 1)+totS (l.drop (a+1)):=by
 have h2:=totS_take (l.drop a) 1
 rw [List.drop_drop] at h2
 lia
def sp__law_signs (K:PySem.W.Frag):Sp:=λvs H Q _=>vs=[]/\Q (.str " !\"#$&'()*+,-./0123456789:;<=>?@ABCDEFGHIJKLMNOPQRSTUVWXYZ[\\]^_`abcdefghijklmnopqrstuvwxyz{|}~\n") H
theorem sc__law_signs:FnScope [] [] (defScope (top 37)):=⟨rfl,rfl,rfl,by decide +kernel,rfl,by decide +kernel,by decide +kernel⟩
set_option maxHeartbeats 8000000 in
theorem ok__law_signs (T:Tx K mg A):FnOk P w K mg base CX0 1 A.f__law_signs A.d__law_signs [] (sp__law_signs K):=by
 refine T._law_signs.fn.ok sc__law_signs (λvs H Q E h=>?_) (λcdv Ar outer s H vs Q E hr h=>?_)
 ·obtain ⟨rfl,_⟩:=h;rfl
 ·obtain ⟨rfl,k⟩:=h
  refine ⟨_,pss_one (ps_ret (pe_str)),?_⟩
  exact k
def sp__law_list_bent (K:PySem.W.Frag):Sp:=λvs H Q _=>∃ (d b:Addr) (n:Nat) (l:List Str),vs=[.ref d,.ref b]/\Dk H d n/\n<900000/\d≠b/\H b=some (.lst (l.map V.str))/\1<=l.length/\l.length<=10000 /\
 ∀ p H' l',Same (wo d H) H'->Dk H' d (n+3)->H' p=some (.lst (l'.map V.str))->(∀ x∈l',x∈l)->totS l'<=2 * totS l->Q (.ref p) H'
theorem sc__law_list_bent:FnScope ["deck","some","at","other","kind","crossed"] ["deck","some"] (defScope (top 39)):=⟨rfl,rfl,rfl,by decide +kernel,rfl,by decide +kernel,by decide +kernel⟩
set_option maxHeartbeats 8000000 in
theorem ok__law_list_bent (T:Tx K mg A):FnOk P w K mg base CX0 2 A.f__law_list_bent A.d__law_list_bent ["deck","some"] (sp__law_list_bent K):=by
 have G__law_pick:FnOk P w K mg base CX0 1 A.f__law_pick A.d__law_pick ["deck","many"] (sp__law_pick K):=(ok__law_pick T).mono (by decide)
 refine T._law_list_bent.fn.ok sc__law_list_bent (λvs H Q E h=>?_) (λcdv Ar outer s H vs Q E hr h=>?_)
 ·obtain ⟨d,b,n,l,rfl,_⟩:=h;rfl
 ·obtain ⟨d,b,n,l,rfl,hdk,hn,hdb,hb,hl1,hl2,k⟩:=h
  refine ⟨_,pss_cons (ps_set (i:=2) sc__law_list_bent.nd rfl (Or.inl rfl) (pe_call G__law_pick hr (by rfl) T._law_pick.mg T._law_pick.fn.kp T._law_pick.bd .nil pass0 (pa_cons (pv 0) (pa_cons (pe_callB (r:=rLenS K) call_lenS (by rfl) T.n_len PySem.boot_len (pa_cons (pv 1) (pa_nil))) (pa_nil)))))
   (pss_cons (ps_set (i:=3) sc__law_list_bent.nd rfl (Or.inl rfl) (pe_ix (r:=rIxL K) ix_list (pv 1) (pe_call G__law_pick hr (by rfl) T._law_pick.mg T._law_pick.fn.kp T._law_pick.bd .nil pass0 (pa_cons (pv 0) (pa_cons (pe_callB (r:=rLenS K) call_lenS (by rfl) T.n_len PySem.boot_len (pa_cons (pv 1) (pa_nil))) (pa_nil)))) (λ_ _=>rfl)))
   (pss_cons (ps_set (i:=4) sc__law_list_bent.nd rfl (Or.inl rfl) (pe_call G__law_pick hr (by rfl) T._law_pick.mg T._law_pick.fn.kp T._law_pick.bd .nil pass0 (pa_cons (pv 0) (pa_cons (pe_int) (pa_nil)))))
   (pss_cons (ps_if (pt_cmpR (op_eq) (pv 4) (pe_int) (nomark _)) (pss_one (ps_ret (pe_op (r:=rCatS K) op_catS (pe_slice (r:=rSlL K) sl_list (pv 1) (po_none) (po_some (pv 2))) (pe_slice (r:=rSlL K) sl_list (pv 1) (po_some (pe_op op_add (pv 2) (pe_int))) (po_none))))) (pss_nil))
   (pss_cons (ps_if (pt_cmpR (op_eq) (pv 4) (pe_int) (nomark _)) (pss_one (ps_ret (pe_op (r:=rCatS K) op_catS (pe_op (r:=rCatS K) op_catS (pe_slice (r:=rSlL K) sl_list (pv 1) (po_none) (po_some (pv 2))) (pe_lst (pa_cons (pv 3) (pa_nil)))) (pe_slice (r:=rSlL K) sl_list (pv 1) (po_some (pv 2)) (po_none))))) (pss_nil))
   (pss_cons (ps_if (pt_cmpR (op_eq) (pv 4) (pe_int) (nomark _)) (pss_one (ps_ret (pe_op (r:=rCatS K) op_catS (pv 1) (pe_lst (pa_cons (pv 3) (pa_nil)))))) (pss_nil))
   (pss_cons (ps_if (pt_cmpR (op_eq) (pv 4) (pe_int) (nomark _)) (pss_one (ps_ret (pe_op (r:=rCatS K) op_catS (pe_op (r:=rCatS K) op_catS (pe_slice (r:=rSlL K) sl_list (pv 1) (po_none) (po_some (pv 2))) (pe_lst (pa_cons (pv 3) (pa_nil)))) (pe_slice (r:=rSlL K) sl_list (pv 1) (po_some (pe_op op_add (pv 2) (pe_int))) (po_none))))) (pss_nil))
   (pss_cons (ps_set (i:=5) sc__law_list_bent.nd rfl (Or.inl rfl) (pe_op (r:=rCatS K) op_catS (pe_slice (r:=rSlL K) sl_list (pv 1) (po_some (pe_op op_add (pv 2) (pe_int))) (po_some (pe_op op_add (pv 2) (pe_int)))) (pe_slice (r:=rSlL K) sl_list (pv 1) (po_some (pv 2)) (po_some (pe_op op_add (pv 2) (pe_int))))))
   (pss_one (ps_ret (pe_op (r:=rCatS K) op_catS (pe_op (r:=rCatS K) op_catS (pe_slice (r:=rSlL K) sl_list (pv 1) (po_none) (po_some (pv 2))) (pv 5)) (pe_slice (r:=rSlL K) sl_list (pv 1) (po_some (pe_op op_add (pv 2) (pe_int))) (po_none)))))))))))),?_⟩
  have hq:SqL K H b (l.map V.str):=.of hb
  have hml:(l.map V.str).length=l.length:=List.length_map _
  refine ⟨_,rfl,_,rfl,b,_,rfl,.inl hq,d,_,n,rfl,hdk,by lia,by lia,by lia,λr1 H1 s1 dk1 a0 a1=>?_⟩
  have hb1:=keepN s1 hb hdb
  refine ⟨_,rfl,_,rfl,_,rfl,b,_,rfl,.inl (.of hb1),d,_,n+1,rfl,dk1,by lia,by lia,by lia,λr2 H2 s2 dk2 b0 b1=>?_⟩
  have hb2:=keepN s2 hb1 hdb
  obtain ⟨o,ho,hat⟩:=at_strs (l:=l) b0 (by lia)
  refine ⟨b,_,r2,_,rfl,rfl,.of hb2,hat,?_⟩
  refine ⟨_,rfl,d,5,n+2,rfl,dk2,by lia,by decide,by decide,λr3 H3 s3 dk3 c0 c1=>?_⟩
  have hb3:=keepN s3 hb2 hdb
  have s03:Same (wo d H) H3:=wo_trans (wo_trans s1 s2) s3
  have ho1:=totS_mem ho
  obtain ⟨a,rfl⟩:∃ a:Nat,r1=a:=⟨r1.toNat,by lia⟩
  have ha:a<l.length:=by lia
  have hcut:=totS_cut l a
  have htk:=totS_take l a
  have hd1:=totS_drop1 l a
  have e0:cutV (l.map V.str) none (some (a:Int))=(l.take a).map V.str:=by rw [cut_take (by lia),List.map_take];rfl
  have e1:cutV (l.map V.str) (some ((a:Int)+1)) none=(l.drop (a+1)).map V.str:=(cut_drop (xs:=l.map V.str) (a+1)).trans (List.map_drop).symm
  have e2:cutV (l.map V.str) (some (a:Int)) none=(l.drop a).map V.str:=(cut_drop (xs:=l.map V.str) a).trans (List.map_drop).symm
  have e3:cutV (l.map V.str) (some ((a:Int)+2)) none=(l.drop (a+2)).map V.str:=(cut_drop (xs:=l.map V.str) (a+2)).trans (List.map_drop).symm
  have e4:cutV (l.map V.str) (some (a:Int)) (some ((a:Int)+1))=((l.drop a).take 1).map V.str:=by
   have:=cut_mid (xs:=l.map V.str) a (a+1) (by lia)
   rw [show a+1 - a=1 by lia] at this
   rw [List.map_take,List.map_drop]
   exact this
  have e5:cutV (l.map V.str) (some ((a:Int)+1)) (some ((a:Int)+2))=((l.drop (a+1)).take 1).map V.str:=by
   have:=cut_mid (xs:=l.map V.str) (a+1) (a+2) (by lia)
   rw [show a+2 - (a+1)=1 by lia] at this
   rw [List.map_take,List.map_drop]
   exact this
  have mt:∀ {m:Nat} {x},x∈l.take m->x∈l:=λh=>List.mem_of_mem_take h
  have md:∀ {m:Nat} {x},x∈l.drop m->x∈l:=λh=>List.mem_of_mem_drop h
  have lt:∀ m,(l.take m).length<=l.length:=λm=>by rw [List.length_take];lia
  have ld:∀ m,(l.drop m).length<=l.length:=λm=>by rw [List.length_drop];lia
  have sz:∀ {m:Nat},m<=40000->m<=sizeLine:=λh=>Nat.le_of_lt (small (by lia))
  have fin:∀ (H9:Hp) (p:Addr) (l':List Str),Same H3 H9->H9 p=some (.lst (l'.map V.str))->(∀ x∈l',x∈l)->totS l'<=2 * totS l->Q (.ref p) H9:=λH9 p l' s9 hp hm ht=>k p H9 l' (s03.trans s9) (dk3.same s9) hp hm ht
  refine ⟨_,rfl,rfl,_,rfl,ite2 (λ_=>?_) (λ_=>?_)⟩
  ·refine ⟨_,rfl,_,rfl,_,rfl,b,_,rfl,.of hb3,λp1 hp1=>?_⟩
   rw [e0]
   obtain ⟨H4,q4,s4,h4⟩:=new_ex (.lst ((l.take a).map V.str)) hp1
   rw [q4]
   refine ⟨_,rfl,_,rfl,_,_,rfl,rfl,_,rfl,b,_,rfl,.of (s4 _ _ hb3),λp2 hp2=>?_⟩
   rw [e1]
   obtain ⟨H5,q5,s5,h5⟩:=new_ex (.lst ((l.drop (a+1)).map V.str)) hp2
   rw [q5]
   refine ⟨p1,p2,_,_,rfl,rfl,.of (s5 _ _ h4),.of h5,?_,λp3 hp3=>?_⟩
   ·rw [List.length_map,List.length_map];exact sz (by have:=lt a;have:=ld (a+1);lia)
   ·refine fin _ p3 (l.take a++l.drop (a+1)) ((s4.trans s5).trans (Same.new hp3)) (by rw [upd_same,List.map_append]) (λx hx=>?_) (by rw [totS_app];lia)
    rcases List.mem_append.mp hx with h | h
    ·exact mt h
    ·exact md h
  refine ⟨_,rfl,rfl,_,rfl,ite2 (λ_=>?_) (λ_=>?_)⟩
  ·refine ⟨_,rfl,_,rfl,_,rfl,b,_,rfl,.of hb3,λp1 hp1=>?_⟩
   rw [e0]
   obtain ⟨H4,q4,s4,h4⟩:=new_ex (.lst ((l.take a).map V.str)) hp1
   rw [q4]
   refine ⟨_,rfl,(by show 1<=sizeLine;decide),λp2 hp2=>?_⟩
   obtain ⟨H5,q5,s5,h5⟩:=new_ex (.lst [.str o]) hp2
   rw [q5]
   refine ⟨p1,p2,_,_,rfl,rfl,.of (s5 _ _ h4),.of h5,?_,λp3 hp3=>?_⟩
   ·rw [List.length_map];exact sz (by have:=lt a;show _+1<=_;lia)
   obtain ⟨H6,q6,s6,h6⟩:=new_ex (.lst ((l.take a).map V.str++[.str o])) hp3
   rw [q6]
   refine ⟨_,rfl,_,rfl,_,rfl,b,_,rfl,.of (s6 _ _ (s5 _ _ (s4 _ _ hb3))),λp4 hp4=>?_⟩
   rw [e2]
   obtain ⟨H7,q7,s7,h7⟩:=new_ex (.lst ((l.drop a).map V.str)) hp4
   rw [q7]
   refine ⟨p3,p4,_,_,rfl,rfl,.of (s7 _ _ h6),.of h7,?_,λp5 hp5=>?_⟩
   ·rw [List.length_append,List.length_map,List.length_map];exact sz (by have:=lt a;have:=ld a;show _+1+_<=_;lia)
   ·refine fin _ p5 (l.take a++[o]++l.drop a) ((((s4.trans s5).trans s6).trans s7).trans (Same.new hp5)) (by rw [upd_same,List.map_append,List.map_append];rfl) (λx hx=>?_) (by rw [totS_app,totS_app,totS_one];lia)
    rcases List.mem_append.mp hx with h | h
    ·rcases List.mem_append.mp h with h | h
     ·exact mt h
     ·rw [List.mem_singleton.mp h];exact ho
    ·exact md h
  refine ⟨_,rfl,rfl,_,rfl,ite2 (λ_=>?_) (λ_=>?_)⟩
  ·refine ⟨_,rfl,_,rfl,(by show 1<=sizeLine;decide),λp2 hp2=>?_⟩
   obtain ⟨H5,q5,s5,h5⟩:=new_ex (.lst [.str o]) hp2
   rw [q5]
   refine ⟨b,p2,_,_,rfl,rfl,.of (s5 _ _ hb3),.of h5,?_,λp3 hp3=>?_⟩
   ·rw [List.length_map];exact sz (by show _+1<=_;lia)
   ·refine fin _ p3 (l++[o]) (s5.trans (Same.new hp3)) (by rw [upd_same,List.map_append];rfl) (λx hx=>?_) (by rw [totS_app,totS_one];lia)
    rcases List.mem_append.mp hx with h | h
    ·exact h
    ·rw [List.mem_singleton.mp h];exact ho
  refine ⟨_,rfl,rfl,_,rfl,ite2 (λ_=>?_) (λ_=>?_)⟩
  ·refine ⟨_,rfl,_,rfl,_,rfl,b,_,rfl,.of hb3,λp1 hp1=>?_⟩
   rw [e0]
   obtain ⟨H4,q4,s4,h4⟩:=new_ex (.lst ((l.take a).map V.str)) hp1
   rw [q4]
   refine ⟨_,rfl,(by show 1<=sizeLine;decide),λp2 hp2=>?_⟩
   obtain ⟨H5,q5,s5,h5⟩:=new_ex (.lst [.str o]) hp2
   rw [q5]
   refine ⟨p1,p2,_,_,rfl,rfl,.of (s5 _ _ h4),.of h5,?_,λp3 hp3=>?_⟩
   ·rw [List.length_map];exact sz (by have:=lt a;show _+1<=_;lia)
   obtain ⟨H6,q6,s6,h6⟩:=new_ex (.lst ((l.take a).map V.str++[.str o])) hp3
   rw [q6]
   refine ⟨_,rfl,_,rfl,_,_,rfl,rfl,_,rfl,b,_,rfl,.of (s6 _ _ (s5 _ _ (s4 _ _ hb3))),λp4 hp4=>?_⟩
   rw [e1]
   obtain ⟨H7,q7,s7,h7⟩:=new_ex (.lst ((l.drop (a+1)).map V.str)) hp4
   rw [q7]
   refine ⟨p3,p4,_,_,rfl,rfl,.of (s7 _ _ h6),.of h7,?_,λp5 hp5=>?_⟩
   ·rw [List.length_append,List.length_map,List.length_map];exact sz (by have:=lt a;have:=ld (a+1);show _+1+_<=_;lia)
   ·refine fin _ p5 (l.take a++[o]++l.drop (a+1)) ((((s4.trans s5).trans s6).trans s7).trans (Same.new hp5)) (by rw [upd_same,List.map_append,List.map_append];rfl) (λx hx=>?_) (by rw [totS_app,totS_app,totS_one];lia)
    rcases List.mem_append.mp hx with h | h
    ·rcases List.mem_append.mp h with h | h
     ·exact mt h
     ·rw [List.mem_singleton.mp h];exact ho
    ·exact md h
  refine ⟨_,rfl,_,rfl,_,_,rfl,rfl,_,rfl,_,rfl,_,_,rfl,rfl,_,rfl,b,_,rfl,.of hb3,λp1 hp1=>?_⟩
  rw [e5]
  obtain ⟨H4,q4,s4,h4⟩:=new_ex (.lst (((l.drop (a+1)).take 1).map V.str)) hp1
  rw [q4]
  refine ⟨_,rfl,_,rfl,_,rfl,_,rfl,_,_,rfl,rfl,_,rfl,b,_,rfl,.of (s4 _ _ hb3),λp2 hp2=>?_⟩
  rw [e4]
  obtain ⟨H5,q5,s5,h5⟩:=new_ex (.lst (((l.drop a).take 1).map V.str)) hp2
  rw [q5]
  have l1:∀ m:List Str,(m.take 1).length<=1:=λm=>by rw [List.length_take];lia
  have hb5:=s5 _ _ (s4 _ _ hb3)
  refine ⟨p1,p2,_,_,rfl,rfl,.of (s5 _ _ h4),.of h5,?_,λp3 hp3=>?_⟩
  ·rw [List.length_map,List.length_map];exact sz (by have:=l1 (l.drop (a+1));have:=l1 (l.drop a);lia)
  obtain ⟨H6,q6,s6,h6⟩:=new_ex (.lst (((l.drop (a+1)).take 1).map V.str++((l.drop a).take 1).map V.str)) hp3
  rw [q6]
  refine ⟨_,rfl,_,rfl,_,rfl,b,_,rfl,.of (s6 _ _ hb5),λp4 hp4=>?_⟩
  rw [e0]
  obtain ⟨H7,q7,s7,h7⟩:=new_ex (.lst ((l.take a).map V.str)) hp4
  rw [q7]
  refine ⟨_,rfl,p4,p3,_,_,rfl,rfl,.of h7,.of (s7 _ _ h6),?_,λp5 hp5=>?_⟩
  ·rw [List.length_append,List.length_map,List.length_map,List.length_map];exact sz (by have:=lt a;have:=l1 (l.drop (a+1));have:=l1 (l.drop a);lia)
  obtain ⟨H8,q8,s8,h8⟩:=new_ex (.lst ((l.take a).map V.str++(((l.drop (a+1)).take 1).map V.str++((l.drop a).take 1).map V.str))) hp5
  rw [q8]
  refine ⟨_,rfl,_,rfl,_,_,rfl,rfl,_,rfl,b,_,rfl,.of (s8 _ _ (s7 _ _ (s6 _ _ hb5))),λp6 hp6=>?_⟩
  rw [e3]
  obtain ⟨H9,q9,s9,h9⟩:=new_ex (.lst ((l.drop (a+2)).map V.str)) hp6
  rw [q9]
  refine ⟨p5,p6,_,_,rfl,rfl,.of (s9 _ _ h8),.of h9,?_,λp7 hp7=>?_⟩
  ·rw [List.length_append,List.length_append,List.length_map,List.length_map,List.length_map,List.length_map];exact sz (by have:=lt a;have:=l1 (l.drop (a+1));have:=l1 (l.drop a);have:=ld (a+2);lia)
  ·refine fin _ p7 (l.take a++((l.drop (a+1)).take 1++(l.drop a).take 1)++l.drop (a+2)) ((((((s4.trans s5).trans s6).trans s7).trans s8).trans s9).trans (Same.new hp7)) (by rw [upd_same,List.map_append,List.map_append,List.map_append]) (λx hx=>?_) (by rw [totS_app,totS_app,totS_app];lia)
   rcases List.mem_append.mp hx with h | h
   ·rcases List.mem_append.mp h with h | h
    ·exact mt h
    ·rcases List.mem_append.mp h with h | h
     ·exact md (List.mem_of_mem_take h)
     ·exact md (List.mem_of_mem_take h)
   ·exact md h
end
end K13
namespace K13
open PySem L2 LG
section
variable {P:Program}{w:World}{K:PySem.W.Frag}{mg:Str->Option Value}{base:Heap}{A:Ad}
theorem join_small {y:Str} (hy:y.length=1) {l:List Str} (h:totS l<=16777216):JoinOk y l=true:=by
 have e:totS l=(l.map (·.length)).sum+l.length:=by
  clear h
  induction l with
  | nil=>rfl
  | cons a r ih=>
   have:totS (a::r)=a.length+1+totS r:=by unfold totS;simp
   rw [this,ih,List.map_cons,List.sum_cons,List.length_cons]
   lia
 exact PyProof.Rows.joinOk_of (by rw [hy];lia)
theorem two_str {N:Str->Hp->Prop}{G:Prop} (Pre:Str->Hp->Prop) (rest:∀ x H,Pre x H->N x H) (f:(∀ x H,Pre x H->N x H)->G):G:=f rest
theorem at_three {x:Str}{r:Int} (h0:0<=r) (h1:r<3):∃ o:Str,atI [V.str x,V.str x,V.str ""] r=some (.str o)/\(o=x\/o = ""):=by
 have:r=0\/r=1\/r=2:=by lia
 rcases this with rfl | rfl | rfl
 ·exact ⟨x,rfl,.inl rfl⟩
 ·exact ⟨x,rfl,.inl rfl⟩
 ·exact ⟨"",rfl,.inr rfl⟩
theorem sok_append {a b:Str} (ha:PyData.strOk a=true) (hb:PyData.strOk b=true):PyData.strOk (a++b)=true:=by
 unfold PyData.strOk
 rw [PySem.Str.cps_append,Array.all_eq_true_iff_forall_mem]
 intro c hc
 rcases Array.mem_append.mp hc with h | h
 ·exact decide_eq_true (mem_of_ok ha c h)
 ·exact decide_eq_true (mem_of_ok hb c h)
def sp__law_sign_bent (K:PySem.W.Frag):Sp:=λvs H Q _=>∃ (d:Addr) (z:Str) (n:Nat),vs=[.ref d,.str z]/\Dk H d n/\n<900000/\PyData.strOk z=true/\z.length<=5000 /\
 ∀ (x:Str) H',Same (wo d H) H'->Dk H' d (n+6)->PyData.strOk x=true->x.length<=2 * z.length+1->Q (.str x) H'
theorem sc__law_sign_bent:FnScope ["deck","text","signs","at","sign"] ["deck","text"] (defScope (top 38)):=⟨rfl,rfl,rfl,by decide +kernel,rfl,by decide +kernel,by decide +kernel⟩
set_option maxHeartbeats 8000000 in
theorem ok__law_sign_bent (T:Tx K mg A):FnOk P w K mg base CX0 2 A.f__law_sign_bent A.d__law_sign_bent ["deck","text"] (sp__law_sign_bent K):=by
 have G__law_signs:FnOk P w K mg base CX0 1 A.f__law_signs A.d__law_signs [] (sp__law_signs K):=(ok__law_signs T).mono (by decide)
 have G__law_pick:FnOk P w K mg base CX0 1 A.f__law_pick A.d__law_pick ["deck","many"] (sp__law_pick K):=(ok__law_pick T).mono (by decide)
 refine T._law_sign_bent.fn.ok sc__law_sign_bent (λvs H Q E h=>?_) (λcdv Ar outer s H vs Q E hr h=>?_)
 ·obtain ⟨d,z,n,rfl,_⟩:=h;rfl
 ·obtain ⟨d,z,n,rfl,hdk,hn,hzs,hzl,k⟩:=h
  refine ⟨_,pss_cons (ps_set (i:=2) sc__law_sign_bent.nd rfl (Or.inl rfl) (pe_call0 G__law_signs hr (by rfl) T._law_signs.mg T._law_signs.fn.kp T._law_signs.bd .nil pass0))
   (pss_cons (ps_set (i:=3) sc__law_sign_bent.nd rfl (Or.inl rfl) (pe_call G__law_pick hr (by rfl) T._law_pick.mg T._law_pick.fn.kp T._law_pick.bd .nil pass0 (pa_cons (pv 0) (pa_cons (pe_op op_add (pe_callB call_len_str (by rfl) T.n_len PySem.boot_len (pa_cons (pv 1) (pa_nil))) (pe_int)) (pa_nil)))))
   (pss_cons (ps_set (i:=4) sc__law_sign_bent.nd rfl (Or.inl rfl) (pe_ix ix_str (pv 2) (pe_call G__law_pick hr (by rfl) T._law_pick.mg T._law_pick.fn.kp T._law_pick.bd .nil pass0 (pa_cons (pv 0) (pa_cons (pe_int) (pa_nil)))) (λ_ _=>rfl)))
   (pss_cons (ps_if ((pw_and (pt_cmpR (op_eq) (pe_call G__law_pick hr (by rfl) T._law_pick.mg T._law_pick.fn.kp T._law_pick.bd .nil pass0 (pa_cons (pv 0) (pa_cons (pe_int) (pa_nil)))) (pe_int) (nomark _)) (pw_and1 (pt_cmpR (op_ne) (pv 1) (pe_str) (nomark _)))).pt) (pss_one (ps_set (i:=4) sc__law_sign_bent.nd rfl (Or.inl rfl) (pe_ix ix_str (pv 1) (pe_call G__law_pick hr (by rfl) T._law_pick.mg T._law_pick.fn.kp T._law_pick.bd .nil pass0 (pa_cons (pv 0) (pa_cons (pe_callB call_len_str (by rfl) T.n_len PySem.boot_len (pa_cons (pv 1) (pa_nil))) (pa_nil)))) (λ_ _=>rfl)))) (pss_nil))
   (pss_one (ps_ret (pe_op op_add_str (pe_op op_add_str (pe_slice sl_str (pv 1) (po_none) (po_some (pv 3))) (pe_ix (r:=rIxL K) ix_list (pe_lst (pa_cons (pv 4) (pa_cons (pv 4) (pa_cons (pe_str) (pa_nil))))) (pe_call G__law_pick hr (by rfl) T._law_pick.mg T._law_pick.fn.kp T._law_pick.bd .nil pass0 (pa_cons (pv 0) (pa_cons (pe_int) (pa_nil)))) (λ_ _=>rfl))) (pe_slice sl_str (pv 1) (po_some (pe_op op_add (pv 3) (pe_call G__law_pick hr (by rfl) T._law_pick.mg T._law_pick.fn.kp T._law_pick.bd .nil pass0 (pa_cons (pv 0) (pa_cons (pe_int) (pa_nil)))))) (po_none)))))))),?_⟩
  have hz:z.length<=sizeLine:=Nat.le_of_lt (small (by lia))
  refine ⟨rfl,?_⟩
  refine ⟨_,rfl,_,rfl,z,rfl,hz,_,_,rfl,rfl,d,_,n,rfl,hdk,by lia,by lia,by lia,λr1 H1 s1 dk1 a0 a1=>?_⟩
  have hsg:PyData.strOk " !\"#$&'()*+,-./0123456789:;<=>?@ABCDEFGHIJKLMNOPQRSTUVWXYZ[\\]^_`abcdefghijklmnopqrstuvwxyz{|}~\n" = true/\((" !\"#$&'()*+,-./0123456789:;<=>?@ABCDEFGHIJKLMNOPQRSTUVWXYZ[\\]^_`abcdefghijklmnopqrstuvwxyz{|}~\n" : Str)).length=95:=by decide +kernel
  generalize (" !\"#$&'()*+,-./0123456789:;<=>?@ABCDEFGHIJKLMNOPQRSTUVWXYZ[\\]^_`abcdefghijklmnopqrstuvwxyz{|}~\n" : Str)=sgs at hsg ⊢
  refine ⟨_,rfl,_,rfl,d,95,n+1,rfl,dk1,by lia,by decide,by decide,λr2 H2 s2 dk2 b0 b1=>?_⟩
  obtain ⟨c,j,hc,hj⟩:=at_sign (z:=sgs) b0 (by lia)
  refine ⟨sgs,r2,c,rfl,rfl,Nat.le_of_lt (small (by lia)),hc,?_⟩
  have hco:=ok_sign hsg.1 hj
  have hcl:(⟨#[c]⟩:Str).length<=1:=Nat.le_refl _
  generalize (⟨#[c]⟩:Str)=sg at hco hcl ⊢
  have s02:=wo_trans s1 s2
  apply two_str (λx H5=>PyData.strOk x=true/\x.length<=1/\Same (wo d H) H5/\Dk H5 d (n+4))
  case f=>
   intro rest
   refine ⟨_,rfl,d,3,n+2,rfl,dk2,by lia,by decide,by decide,λr3 H3 s3 dk3 c0 c1=>⟨rfl,_,rfl,?_⟩⟩
   have s03:=wo_trans s02 s3
   refine ite2 (λ_=>⟨_,rfl,rfl,_,rfl,ite2 (λhne=>?_) (λ_=>?_)⟩) (λ_=>iteF ?_)
   ·have hzp:0<z.length:=by
     rw [dec_nil] at hne
     cases e:z.cps.toList with
     | nil=>rw [e] at hne;cases hne
     | cons a r=>
      have:z.length=z.cps.toList.length:=by simp [Str.length]
      rw [this,e];exact Nat.succ_pos _
    refine ⟨_,rfl,_,rfl,_,rfl,z,rfl,hz,d,_,n+3,rfl,dk3,by lia,by lia,by lia,λr4 H4 s4 dk4 d0 d1=>?_⟩
    obtain ⟨c',j',hc',hj'⟩:=at_sign (z:=z) d0 (by lia)
    refine ⟨z,r4,c',rfl,rfl,hz,hc',?_⟩
    have hco':=ok_sign hzs hj'
    have hcl':(⟨#[c']⟩:Str).length<=1:=Nat.le_refl _
    generalize (⟨#[c']⟩:Str)=sg' at hco' hcl' ⊢
    exact rest sg' H4 ⟨hco',hcl',wo_trans s03 s4,dk4⟩
   ·exact rest sg H3 ⟨hco,hcl,s03,dk3.mono (by lia)⟩
   ·exact rest sg H3 ⟨hco,hcl,s03,dk3.mono (by lia)⟩
  rintro x H5 ⟨hxo,hxl,s5,dk5⟩
  have e1:=ok_slice (z:=z) (l:=none) (u:=some r1) hzs
  refine ⟨_,rfl,_,rfl,_,rfl,z,rfl,hz,_,rfl,_,rfl,(by show 3<=sizeLine;decide),λl hl=>?_⟩
  obtain ⟨H6,q6,s6,h6⟩:=new_ex (.lst [.str x,.str x,.str ""]) hl
  rw [q6]
  have hdl:d≠l:=dk5.ne hl
  refine ⟨_,rfl,d,3,n+4,rfl,dk5.same s6,by lia,by decide,by decide,λr5 H7 s7 dk7 f0 f1=>?_⟩
  obtain ⟨o,hat,ho⟩:=at_three (x:=x) f0 f1
  have hoo:PyData.strOk o=true/\o.length<=1:=by
   rcases ho with rfl | rfl
   ·exact ⟨hxo,hxl⟩
   ·exact ⟨by decide +kernel,by decide⟩
  refine ⟨l,_,r5,_,rfl,rfl,.of (keepN s7 h6 hdl),hat,_,_,rfl,rfl,Nat.le_of_lt (small (by lia)),?_⟩
  refine ⟨_,rfl,_,rfl,_,rfl,d,2,n+5,rfl,dk7,by lia,by decide,by decide,λr6 H8 s8 dk8 g0 g1=>⟨_,_,rfl,rfl,_,rfl,z,rfl,hz,_,_,rfl,rfl,?_,?_⟩⟩
  ·have e2:=ok_slice (z:=z) (l:=some (r1+r6)) (u:=none) hzs
   rw [PySem.Str.length_append]
   exact Nat.le_of_lt (small (by lia))
  ·have e2:=ok_slice (z:=z) (l:=some (r1+r6)) (u:=none) hzs
   refine k _ H8 (wo_trans (wo_trans (s5.trans s6) s7) s8) dk8 (sok_append (sok_append e1.1 hoo.1) e2.1) ?_
   rw [PySem.Str.length_append,PySem.Str.length_append]
   lia
theorem at_two {r:Int} (h0:3<=r) (h1:r<5):∃ y:Str,atI [V.str " ",V.str "<"] (r - 3)=some (.str y)/\PyData.strOk y=true/\y.length=1:=by
 have:r=3\/r=4:=by lia
 rcases this with rfl | rfl
 ·exact ⟨" ",rfl,by decide +kernel,by decide⟩
 ·exact ⟨"<",rfl,by decide +kernel,by decide⟩
def sp__law_bent (K:PySem.W.Frag):Sp:=λvs H Q _=>∃ (d j:Addr) (z:Str) (n:Nat),vs=[.ref d,.str z,.ref j]/\Dk H d n/\n<800000/\d≠j/\H j=some (.lst [.str " ",.str "<"])/\PyData.strOk z=true/\z.length<=4000 /\
 ∀ (x:Str) H',Same (wo d H) H'->Dk H' d (n+7)->PyData.strOk x=true->x.length<=2 * z.length+2->Q (.str x) H'
theorem sc__law_bent:FnScope ["deck","text","joints","kind","joint"] ["deck","text","joints"] (defScope (top 40)):=⟨rfl,rfl,rfl,by decide +kernel,rfl,by decide +kernel,by decide +kernel⟩
set_option maxHeartbeats 8000000 in
theorem ok__law_bent (T:Tx K mg A):FnOk P w K mg base CX0 3 A.f__law_bent A.d__law_bent ["deck","text","joints"] (sp__law_bent K):=by
 have G__law_pick:FnOk P w K mg base CX0 2 A.f__law_pick A.d__law_pick ["deck","many"] (sp__law_pick K):=(ok__law_pick T).mono (by decide)
 have G__law_sign_bent:FnOk P w K mg base CX0 2 A.f__law_sign_bent A.d__law_sign_bent ["deck","text"] (sp__law_sign_bent K):=(ok__law_sign_bent T).mono (by decide)
 have G__law_list_bent:FnOk P w K mg base CX0 2 A.f__law_list_bent A.d__law_list_bent ["deck","some"] (sp__law_list_bent K):=(ok__law_list_bent T).mono (by decide)
 refine T._law_bent.fn.ok sc__law_bent (λvs H Q E h=>?_) (λcdv Ar outer s H vs Q E hr h=>?_)
 ·obtain ⟨d,j,z,n,rfl,_⟩:=h;rfl
 ·obtain ⟨d,j,z,n,rfl,hdk,hn,hdj,hj,hzs,hzl,k⟩:=h
  refine ⟨_,pss_cons (ps_set (i:=3) sc__law_bent.nd rfl (Or.inl rfl) (pe_call G__law_pick hr (by rfl) T._law_pick.mg T._law_pick.fn.kp T._law_pick.bd .nil pass0 (pa_cons (pv 0) (pa_cons (pe_op op_add (pe_int) (pe_callB (r:=rLenS K) call_lenS (by rfl) T.n_len PySem.boot_len (pa_cons (pv 2) (pa_nil)))) (pa_nil)))))
   (pss_cons (ps_if (pt_cmpR (op_lt) (pv 3) (pe_int) (nomark _)) (pss_one (ps_ret (pe_call G__law_sign_bent hr (by rfl) T._law_sign_bent.mg T._law_sign_bent.fn.kp T._law_sign_bent.bd .nil pass0 (pa_cons (pv 0) (pa_cons (pv 1) (pa_nil)))))) (pss_nil))
   (pss_cons (ps_set (i:=4) sc__law_bent.nd rfl (Or.inl rfl) (pe_ix (r:=rIxL K) ix_list (pv 2) (pe_op op_sub (pv 3) (pe_int)) (λ_ _=>rfl)))
   (pss_one (ps_ret (pe_bm (r:=rJoin K) PySem.F.plainAttrs_str PySem.F.slot_str_join PySem.F.type_str_join mt_join (pv 4) (pa_cons (pe_call G__law_list_bent hr (by rfl) T._law_list_bent.mg T._law_list_bent.fn.kp T._law_list_bent.bd .nil pass0 (pa_cons (pv 0) (pa_cons (pe_bm PySem.F.plainAttrs_str PySem.F.slot_str_split PySem.F.type_str_split mt_split (pv 1) (pa_cons (pv 4) (pa_nil))) (pa_nil)))) (pa_nil))))))),?_⟩
  have hz:z.length+2<=sizeLine:=Nat.le_of_lt (small (by lia))
  refine ⟨_,rfl,_,rfl,j,_,rfl,.inl (.of hj),_,_,rfl,rfl,d,5,n,rfl,hdk,by lia,by decide,by decide,λr1 H1 s1 dk1 a0 a1=>?_⟩
  have hj1:=keepN s1 hj hdj
  refine ⟨_,rfl,_,_,rfl,rfl,_,rfl,ite2 (λ_=>?_) (λh3=>?_)⟩
  ·exact ⟨_,rfl,_,rfl,d,z,n+1,rfl,dk1,by lia,hzs,by lia,λx H2 s2 dk2 hxo hxl=>k x H2 (wo_trans s1 s2) dk2 hxo (by lia)⟩
  ·have h3':3<=r1:=by have:=of_decide_eq_false (Bool.eq_false_iff.mpr h3);lia
   obtain ⟨y,hat,hyo,hyl⟩:=at_two h3' (by lia)
   refine ⟨_,rfl,_,rfl,_,_,rfl,rfl,j,_,_,_,rfl,rfl,.of hj1,hat,?_⟩
   refine ⟨_,rfl,rfl,_,rfl,_,rfl,rfl,_,rfl,z,y,rfl,rfl,(by rw [hyl];decide),hz,λL hL=>?_⟩
   obtain ⟨H2,q2,s2,h2⟩:=new_ex (.lst ((Txt.split z y).map V.str)) hL
   rw [q2]
   have hsp:=ok_split (z:=z) (y:=y) hzs
   have hsl:=split_len1 (z:=z) (y:=y)
   have hst:=split_totS (z:=z) hyl
   refine ⟨d,L,n+1,_,rfl,dk1.same s2,by lia,dk1.ne hL,h2,hsl.1,by lia,λp H3 l' s3 dk3 hp hm ht=>?_⟩
   have hle:∀ x∈l',x.length<=4000:=λx hx=>Nat.le_trans (hsp x (hm x hx)).2 hzl
   have hl'l:=totS_len l'
   refine ⟨y,p,l',rfl,rfl,.of hp,?_,?_⟩
   ·have h1:=join_le hyl l'
    refine join_small hyl ?_
    lia
   ·refine k _ H3 (wo_trans (s1.trans s2) s3) (dk3.mono (by lia)) (ok_join (m:=4000) hyo λx hx=>⟨(hsp x (hm x hx)).1,hle x hx⟩).1 ?_
    have h1:=join_le hyl l'
    lia
end
end K13
namespace K13
open PySem L2 LG
section
variable {P:Program}{w:World}{K:PySem.W.Frag}{mg:Str->Option Value}{base:Heap}{A:Ad}
def sp__law_pattern (K:PySem.W.Frag):Sp:=λvs H Q _=>∃ (d:Addr) (z:Str) (n:Nat),vs=[.ref d,.str z]/\Dk H d n/\n<800000/\z.length<=9000/\PyData.strOk z=true /\
 ∀ F H' ps ys,H F=none->Same (wo d H) H'->Dk H' d (n+(z.length+2))->DrawnAll (Txt.split z " ") ps->H' F=some (.lst ys)->PtsAt H' ys ps->Q (.ref F) H'
theorem sc__law_pattern:FnScope ["deck","line","found","word","kind","way"] ["deck","line"] (defScope (top 36)):=⟨rfl,rfl,rfl,by decide +kernel,rfl,by decide +kernel,by decide +kernel⟩
set_option maxHeartbeats 8000000 in
theorem ok__law_pattern (T:Tx K mg A):FnOk P w K mg base CX0 2 A.f__law_pattern A.d__law_pattern ["deck","line"] (sp__law_pattern K):=by
 have G__law_kind:FnOk P w K mg base CX0 1 A.f__law_kind A.d__law_kind ["word"] (sp__law_kind K):=(ok__law_kind T).mono (by decide)
 have G__law_pick:FnOk P w K mg base CX0 1 A.f__law_pick A.d__law_pick ["deck","many"] (sp__law_pick K):=(ok__law_pick T).mono (by decide)
 refine T._law_pattern.fn.ok sc__law_pattern (λvs H Q E h=>?_) (λcdv Ar outer s H vs Q E hr h=>?_)
 ·obtain ⟨d,z,n,rfl,_⟩:=h;rfl
 ·obtain ⟨d,z,n,rfl,hdk,hn,hzl,hzs,k⟩:=h
  refine ⟨_,pss_cons (ps_set (i:=2) sc__law_pattern.nd rfl (Or.inl rfl) (pe_lst (pa_nil)))
   (pss_cons (ps_for PassesOwn.never rfl (pi_list (pe_bm PySem.F.plainAttrs_str PySem.F.slot_str_split PySem.F.type_str_split mt_split (pv 1) (pa_cons (pe_str) (pa_nil)))) (pg_name (i:=3) sc__law_pattern.nd rfl (Or.inl rfl)) (pss_cons (ps_set (i:=4) sc__law_pattern.nd rfl (Or.inl rfl) (pe_call G__law_kind hr (by rfl) T._law_kind.mg T._law_kind.fn.kp T._law_kind.bd .nil pass0 (pa_cons (pv 3) (pa_nil))))
   (pss_cons (ps_set (i:=5) sc__law_pattern.nd rfl (Or.inl rfl) (pe_call G__law_pick hr (by rfl) T._law_pick.mg T._law_pick.fn.kp T._law_pick.bd .nil pass0 (pa_cons (pv 0) (pa_cons (pe_int) (pa_nil)))))
   (pss_one (ps_if (pt_cmpR (op_lt) (pv 5) (pe_int) (nomark _)) (pss_one (ps_expr (pe_bm PySem.F.plainAttrs_list PySem.F.slot_list_append PySem.F.type_list_append mt_append (pv 2) (pa_cons (pe_tup (pa_cons (pe_str) (pa_cons (pv 3) (pa_nil)))) (pa_nil))))) (pss_one (ps_if ((pw_and (pt_cmpR (op_lt) (pv 5) (pe_int) (nomark _)) (pw_and1 (pt_cmpR (op_ne) (pv 4) (pe_str) (nomark _)))).pt) (pss_one (ps_expr (pe_bm PySem.F.plainAttrs_list PySem.F.slot_list_append PySem.F.type_list_append mt_append (pv 2) (pa_cons (pe_tup (pa_cons (pe_str) (pa_cons (pv 4) (pa_nil)))) (pa_nil))))) (pss_one (ps_expr (pe_bm PySem.F.plainAttrs_list PySem.F.slot_list_append PySem.F.type_list_append mt_append (pv 2) (pa_cons (pe_tup (pa_cons (pe_str) (pa_cons (pe_str) (pa_nil)))) (pa_nil))))))))))))
   (pss_one (ps_ret (pv 2)))),?_⟩
  have h1:((" " : Str)).length≠0:=by decide +kernel
  obtain ⟨ys0,hd0⟩:=hdk.lst
  refine ⟨Nat.zero_le _,λF hF=>?_⟩
  have hdF:d≠F:=hdk.ne hF
  refine ⟨_,rfl,rfl,z," ",rfl,rfl,h1,Nat.le_trans (Nat.add_le_add_right hzl 2) (by decide),λL hL=>⟨L,rfl,⟨_,.of upd_same⟩,?_⟩⟩
  have hLF:F≠L:=ne_of_none (upd_same (H:=H)) hL
  have sF:Same H (upd H F (.lst [])):=Same.new hF
  have sL:Same (upd H F (.lst [])) (upd (upd H F (.lst [])) L (.lst ((Txt.split z " ").map V.str))):=Same.new hL
  have hdL:d≠L:=(hdk.same sF).ne hL
  have hsp:=ok_split (z:=z) (y:= " ") hzs
  have hsl:=(split_len1 (z:=z) (y:= " ")).2
  refine for_list (K:=K) (xs:=(Txt.split z " ").map V.str) (PatL H d z F L n) ⟨⟨_,_,_,rfl⟩,wo_same.trans (sF.trans sL),hdk.same (sF.trans sL),upd_same,[],[],sL _ _ upd_same,rfl,(λj w p _ hp=>by simp at hp),.nil⟩ (λi σ H3 _ q=>.of q.2.2.2.1) (λi x σ H3 hx q=>?_) (λσ H3 q=>?_)
  ·obtain ⟨q0,s3,dk3,hL3,acc,ps,hF3,hps,hdr,dn⟩:=q
   apply ex_3 q0
   clear q0
   intro u1 u2 u3
   obtain ⟨wd,e,rfl⟩:=strs_at hx
   have hil:i<(Txt.split z " ").length:=ge_len e
   have hw:=hsp wd (List.mem_of_getElem? e)
   have hwt:TOk wd:=⟨Nat.le_trans hw.2 (Nat.le_trans hzl (by decide)),hw.1⟩
   refine ⟨_,rfl,wd,rfl,hwt,λH4 s4=>?_⟩
   refine ⟨_,rfl,d,6,n+i,rfl,dk3.same s4,by lia,by decide,by decide,λway H5 s5 dk5 _ _=>?_⟩
   have hL5:H5 L=some (.lst ((Txt.split z " ").map V.str)):=keepN s5 (s4 _ _ hL3) hdL
   have hF5:H5 F=some (.lst acc):=keepN s5 (s4 _ _ hF3) hdF
   have dn5:PtsAt H5 acc ps:=(dn.same s4).tup λc xs h=>s5 _ _ (by
    obtain ⟨yd,hyd⟩:=(dk3.same s4).lst
    rw [wo_at λz=>by rw [z,hyd] at h;cases h];exact h)
   have hs5:Same (wo d H) H5:=wo_trans (s3.trans s4) s5
   have hal:acc.length=i:=by rw [dn.1,hps]
   have hk3:=lawKind_lt wd.cps.toList
   refine ⟨_,rfl,_,_,rfl,rfl,_,rfl,?_⟩
   refine ite2 (λ_=>?_) (λ_=>?_)
   ·refine ⟨_,rfl,.inl ⟨rfl,_,.of hF5⟩,_,rfl,(by show 2<=sizeLine;decide),λt ht=>⟨F,acc,_,rfl,rfl,Same.new ht _ _ hF5,small (by lia),?_⟩⟩
    exact PatL.step (pt:=.word wd) hdF hLF hF ⟨_,_,_,rfl⟩ hs5 dk5 hL5 hF5 hps hdr dn5 e (.inl rfl) rfl ht
   ·have anyb:∀ (t:Addr) (ht:H5 t=none) (σ:St),(∃ u1 u2 u3,σ=[some (.ref d),some (.str z),some (.ref F),u1,u2,u3])->PatL H d z F L n (i+1) σ (upd (upd H5 t (.tup [.str "hole",.str "any"])) F (.lst (acc++[.ref t]))):=λt ht σ hσ=>
     PatL.step (pt:=.hole 2) hdF hLF hF hσ hs5 dk5 hL5 hF5 hps hdr dn5 e (.inr (.inr rfl)) rfl ht
    refine ⟨_,rfl,_,_,rfl,rfl,_,rfl,?_⟩
    refine ite2 (λ_=>?_) (λ_=>?_)
    ·refine ⟨_,rfl,rfl,_,rfl,?_⟩
     rw [law_other hk3]
     by_cases h2:lawKindL wd.cps.toList=2
     ·rw [decide_eq_true h2]
      refine iteF ?_
      exact ⟨_,rfl,.inl ⟨rfl,_,.of hF5⟩,(by show 2<=sizeLine;decide),λt ht=>⟨F,acc,_,rfl,rfl,Same.new ht _ _ hF5,small (by lia),anyb t ht _ ⟨_,_,_,rfl⟩⟩⟩
     ·rw [decide_eq_false h2]
      refine iteT ?_
      refine ⟨_,rfl,.inl ⟨rfl,_,.of hF5⟩,_,rfl,(by show 2<=sizeLine;decide),λt ht=>⟨F,acc,_,rfl,rfl,Same.new ht _ _ hF5,small (by lia),?_⟩⟩
      have hk2:lawKindL wd.cps.toList<2:=by lia
      rw [kindW_S hk2]
      exact PatL.step (pt:=.hole (lawKindL wd.cps.toList)) hdF hLF hF ⟨_,_,_,rfl⟩ hs5 dk5 hL5 hF5 hps hdr dn5 e (.inr (.inl ⟨rfl,hk2⟩)) rfl ht
    ·refine iteF ?_
     exact ⟨_,rfl,.inl ⟨rfl,_,.of hF5⟩,(by show 2<=sizeLine;decide),λt ht=>⟨F,acc,_,rfl,rfl,Same.new ht _ _ hF5,small (by lia),anyb t ht _ ⟨_,_,_,rfl⟩⟩⟩
  ·obtain ⟨q0,s3,dk3,hL3,acc,ps,hF3,hps,hdr,dn⟩:=q
   apply ex_3 q0
   clear q0
   intro u1 u2 u3
   rw [List.length_map] at hps dk3
   exact ⟨_,rfl,k F H3 ps acc hF s3 (dk3.mono (by lia)) ⟨hps,hdr⟩ hF3 dn⟩
end
end K13
namespace K13
open PySem L2 LG
section
variable {P:Program}{w:World}{K:PySem.W.Frag}{mg:Str->Option Value}{base:Heap}{A:Ad}
theorem FnOk.ofE {k:Nat}{f:Addr}{fd:FuncData}{ps:List Str}{sp sp':Sp} (F:FnOk P w K mg base (CXe P w) k f fd ps sp') (h:∀ vs H Q E,sp vs H Q E->sp' vs H Q E0):FnOk P w K mg base CX0 k f fd ps sp where
 len:=λvs H Q E q=>F.len vs H Q E0 (h vs H Q E q)
 run:=λA outer s H args us vs Q E hr he hb hv hs=>by
  refine codeAny_mono (F.run A outer s H args us vs Q E0 hr he hb hv (h _ _ _ _ hs)) λr s' z=>?_
  cases r with
  | error e=>
   obtain ⟨_,_,_,_,_,_,_,_,_,_,_,_,_,_,_,_,z⟩:=z
   exact z.elim
  | ok fl=>cases fl <;> exact z
def sp_read_pattern (K:PySem.W.Frag):Sp:=λvs H Q _=>∃ (z:Str) (ps:List Pt),vs=[.str z]/\PyData.strOk z=true/\z.length<=990/\(Txt.split z " ").map readQ=ps.map some/\ps.length<=12 /\
 ∀ D acc H',H D=none->Same H H'->H' D=some (.lst acc)->PtsAt H' acc ps->Q (.ref D) H'
theorem ok_read_pattern (T:Tx K mg A):FnOk P w K mg base CX0 5 A.f_read_pattern A.d_read_pattern ["text"] (sp_read_pattern K):=FnOk.ofE (okx_read_pattern T) λvs H Q E h=>by
 obtain ⟨z,ps,rfl,hz,hl,hps,h12,k⟩:=h
 refine ⟨z,rfl,hz,hl,λqs e _ D acc H' hD s hDD hat=>?_,λhb=>?_⟩
 ·have:qs=ps:=(List.map_inj_right (λa b h=>Option.some.inj h)).mp (e.symm.trans hps)
  subst this
  exact k D acc H' hD s hDD hat
 ·have:BadT z:=hb
  exfalso
  rcases this with ⟨x,hx,q⟩ | hb
  ·obtain ⟨i,hi,rfl⟩:=List.getElem_of_mem hx
   have e2:((Txt.split z " ").map readQ)[i]? = (ps.map some)[i]?:=by rw [hps]
   rw [List.getElem?_map,List.getElem?_map,List.getElem?_eq_getElem hi,List.getElem?_eq_getElem (by rw [read_len hps];exact hi)] at e2
   simp [q] at e2
  ·rw [read_len hps] at h12
   lia
def sp_law (K:PySem.W.Frag):Sp:=λvs H Q _=>∃ (a:Addr) (ns:List Int),vs=[.ref a]/\SqL K H a (ns.map V.int)/\ns.length<=63/\∀ H',Q (.bl true) H'
theorem cut_mem {xs:List V}{lo hi:Option Int}{x:V} (h:x∈cutV xs lo hi):x∈xs:=by
 unfold cutV at h
 first
  | exact List.mem_of_mem_drop (List.mem_of_mem_take h)
  | exact List.mem_of_mem_take (List.mem_of_mem_drop h)
def PtD:Pt->Prop
 | .word w=>wordB w=true/\w.length<=7/\PyData.strOk w=true
 | .hole k=>k<3
theorem PtD.k {p:Pt} (h:PtD p):PtK p:=by
 cases p with
 | word w=>exact ⟨h.1,Nat.le_trans h.2.1 (by decide),h.2.2⟩
 | hole k=>exact h
theorem drawn_ptd {ws:List Str}{ps:List Pt} (hw:∀ w∈ws,WOk w) (h:DrawnAll ws ps):∀ p∈ps,PtD p:=λp hp=>by
 obtain ⟨i,hi,e⟩:=List.getElem_of_mem hp
 have hiw:i<ws.length:=by rw [<-h.1];exact hi
 have hd:=h.2 i ws[i] p (List.getElem?_eq_getElem hiw) (by rw [List.getElem?_eq_getElem hi,e])
 have hwi:=hw _ (List.getElem_mem hiw)
 rcases hd with rfl | ⟨rfl,hk⟩ | rfl
 ·exact ⟨hwi.word,Nat.le_trans hwi.len (by decide),hwi.ok⟩
 ·show _<3;lia
 ·show 2<3;decide
def nine13:List Str:=["<any>","=","<","==x","=<any>","<number","<name>x",">","<any>"]
theorem nine_ok:∀ x∈nine13,wordB x=true/\x.length<=7/\PyData.strOk x=true:=by decide +kernel
theorem show_d {p:Pt} (h:PtD p):(showP p).length<=8/\PyData.strOk (showP p)=true/\32∉(showP p).cps.toList:=by
 cases p with
 | hole k=>
  have:∀ k<3,(showP (.hole k)).length<=8/\PyData.strOk (showP (.hole k))=true/\32∉(showP (.hole k)).cps.toList:=by decide +kernel
  exact this k h
 | word w=>
  have hb:32∉w.cps.toList:=λq=>by
   have h1:=h.1
   unfold wordB onlyB at h1
   rw [Bool.and_eq_true,List.all_eq_true] at h1
   have:=h1.2 32 q
   rw [sgn_no32] at this
   cases this
  show (if spec2 w=true then "=" ++ w else w).length<=8/\PyData.strOk (if spec2 w=true then "=" ++ w else w)=true/\32∉(if spec2 w=true then "=" ++ w else w).cps.toList
  have hl:=h.2.1
  split
  ·refine ⟨?_,sok_append (by decide +kernel) h.2.2,?_⟩
   ·rw [PySem.Str.length_append]
    have:(("=" : Str)).length=1:=rfl
    lia
   ·rw [PySem.Str.cps_append,Array.toList_append,eq_cps]
    intro q
    rcases List.mem_append.mp q with z | z
    ·simp at z
    ·exact hb z
  ·exact ⟨by lia,h.2.2,hb⟩
theorem PtsAt.set {H:Hp}{ys:List V}{ps:List Pt}{i:Nat}{x:V}{p:Pt} (h:PtsAt H ys ps) (hx:PtAt H x p):PtsAt H (ys.set i x) (ps.set i p):=by
 refine ⟨by rw [List.length_set,List.length_set,h.1],λj y q h1 h2=>?_⟩
 rw [List.getElem?_set] at h1 h2
 by_cases e:i=j
 ·subst e
  rw [if_pos rfl] at h1 h2
  split at h1
  ·split at h2
   ·cases h1;cases h2;exact hx
   ·cases h2
  ·cases h1
 ·rw [if_neg e] at h1 h2
  exact h.2 j y q h1 h2
def bnd:Nat->Nat
 | 0=>110
 | j+1=>2 * bnd j+2
theorem bnd_le {j:Nat} (h:j<=3):bnd j<=894:=by
 have:j=0\/j=1\/j=2\/j=3:=by lia
 rcases this with rfl | rfl | rfl | rfl <;> decide
theorem x13:PyData.strOk (Txt.join " " (List.replicate 13 ("x" : Str)))=true/\(Txt.join " " (List.replicate 13 ("x" : Str))).length<=100:=by decide +kernel
def P13 (H:Hp) (a d F:Addr) (N n:Nat) (j:Nat) (σ:St) (H5:Hp):Prop:=(∃ u3 u4 u5 u6 u7 u8,σ=[some (.ref a),some (.ref d),some (.ref F),u3,u4,u5,u6,u7,u8])/\Same H H5/\Dk H5 d (n+2 * j) /\
 ∃ ys ps,H5 F=some (.lst ys)/\PtsAt H5 ys ps/\(∀ p∈ps,PtD p)/\ps.length=N
theorem sc_law:FnScope ["script","deck","pattern","turn","some","kept","text","cell","bent"] ["script"] (defScope (top 45)):=⟨rfl,rfl,rfl,by decide +kernel,rfl,by decide +kernel,by decide +kernel⟩
set_option maxHeartbeats 8000000 in
theorem ok_law (F:Fun K "law" "law" (top 45) A.f_law A.d_law) (T:Tx K mg A):FnOk P w K mg base CX0 8 A.f_law A.d_law ["script"] (sp_law K):=by
 have G__law_deck:FnOk P w K mg base CX0 7 A.f__law_deck A.d__law_deck ["cell","turn"] (sp__law_deckT K):=(ok__law_deck T).mono (by decide)
 have G__law_pattern:FnOk P w K mg base CX0 7 A.f__law_pattern A.d__law_pattern ["deck","line"] (sp__law_pattern K):=(ok__law_pattern T).mono (by decide)
 have G_show_pattern:FnOk P w K mg base CX0 7 A.f_show_pattern A.d_show_pattern ["pattern"] (sp_show_pattern K):=(ok_show_pattern T).mono (by decide)
 have G__law_line:FnOk P w K mg base CX0 7 A.f__law_line A.d__law_line ["deck","most"] (sp__law_line K):=(ok__law_line T).mono (by decide)
 have G__law_pick:FnOk P w K mg base CX0 7 A.f__law_pick A.d__law_pick ["deck","many"] (sp__law_pick K):=(ok__law_pick T).mono (by decide)
 have G_read_pattern:FnOk P w K mg base CX0 7 A.f_read_pattern A.d_read_pattern ["text"] (sp_read_pattern K):=(ok_read_pattern T).mono (by decide)
 have G__law_reads:FnOk P w K mg base CX0 7 A.f__law_reads A.d__law_reads ["text"] (sp__law_reads K):=(ok__law_reads T).mono (by decide)
 have G__law_written:FnOk P w K mg base CX0 7 A.f__law_written A.d__law_written ["pattern"] (sp__law_written K):=(ok__law_written T).mono (by decide)
 have G__law_bent:FnOk P w K mg base CX0 7 A.f__law_bent A.d__law_bent ["deck","text","joints"] (sp__law_bent K):=(ok__law_bent T).mono (by decide)
 refine F.ok sc_law (λvs H Q E h=>?_) (λcdv Ar outer s H vs Q E hr h=>?_)
 ·obtain ⟨a,ns,rfl,_⟩:=h;rfl
 ·obtain ⟨a,ns,rfl,hScr,hn,k⟩:=h
  refine ⟨_,pss_cons (ps_set (i:=1) sc_law.nd rfl (Or.inl rfl) (pe_call G__law_deck hr (by rfl) T._law_deck.mg T._law_deck.fn.kp T._law_deck.bd .nil pass0 (pa_cons (pe_ix (r:=rIxL K) ix_list (pe_op (r:=rCatS K) op_catS (pv 0) (pe_lstj (paj_cons (pe_int) (paj_nil)))) (pe_int) (λ_ _=>rfl)) (pa_cons (pe_int) (pa_nil)))))
   (pss_cons (ps_set (i:=2) sc_law.nd rfl (Or.inl rfl) (pe_call G__law_pattern hr (by rfl) T._law_pattern.mg T._law_pattern.fn.kp T._law_pattern.bd .nil pass0 (pa_cons (pv 1) (pa_cons (pe_call G__law_line hr (by rfl) T._law_line.mg T._law_line.fn.kp T._law_line.bd .nil pass0 (pa_cons (pv 1) (pa_cons (pe_int) (pa_nil)))) (pa_nil)))))
   (pss_cons (ps_for PassesOwn.never rfl (pi_range1 (by rfl) T.n_range (pa_cons (pe_call G__law_pick hr (by rfl) T._law_pick.mg T._law_pick.fn.kp T._law_pick.bd .nil pass0 (pa_cons (pv 1) (pa_cons (pe_int) (pa_nil)))) (pa_nil))) (pg_name (i:=3) sc_law.nd rfl (Or.inl rfl)) (pss_cons (ps_set (i:=4) sc_law.nd rfl (Or.inl rfl) (pe_lstj (paj_s (paj_s (paj_s (paj_s (paj_s (paj_s (paj_s (paj_s (paj_s (paj_nil))))))))))))
   (pss_one (ps_asg (pe_tup (pa_cons (pe_str) (pa_cons (pe_ix (r:=rIxL K) ix_list (pv 4) (pe_call G__law_pick hr (by rfl) T._law_pick.mg T._law_pick.fn.kp T._law_pick.bd .nil pass0 (pa_cons (pv 1) (pa_cons (pe_int) (pa_nil)))) (λ_ _=>rfl)) (pa_nil)))) (pg_sub (pv 2) (pe_call G__law_pick hr (by rfl) T._law_pick.mg T._law_pick.fn.kp T._law_pick.bd .nil pass0 (pa_cons (pv 1) (pa_cons (pe_callB (r:=rLenS K) call_lenS (by rfl) T.n_len PySem.boot_len (pa_cons (pv 2) (pa_nil))) (pa_nil)))) set_list)))))
   (pss_cons (ps_set (i:=5) sc_law.nd rfl (Or.inl rfl) (pe_callTy (r:=rListOf K) call_listO (by rfl) T.n_list bt_list (pa_cons (pv 2) (pa_nil))))
   (pss_cons (ps_set (i:=6) sc_law.nd rfl (Or.inl rfl) (pe_call G_show_pattern hr (by rfl) T.show_pattern.mg T.show_pattern.fn.kp T.show_pattern.bd .nil pass0 (pa_cons (pv 2) (pa_nil))))
   (pss_cons (ps_if ((pw_or (pt_not (pt_val (pe_callB (r:=rIsi K) call_isi (by rfl) T.n_isinstance bt_isinstance (pa_cons (pv 6) (pa_cons (pe_bltn (v:=.ty "str") (by rfl) T.n_str bt_str rfl) (pa_nil)))))) (pw_or (pt_cmpR (op_ne) (pv 6) (pe_call G__law_written hr (by rfl) T._law_written.mg T._law_written.fn.kp T._law_written.bd .nil pass0 (pa_cons (pv 2) (pa_nil))) (nomark _)) (pw_or1 (pt_cmpR (r:=rNeD K) (op_neD hr) (pv 2) (pv 5) (nomark _))))).pt) (pss_one (ps_ret (pe_bl))) (pss_nil))
   (pss_cons (ps_if (pt_cmpR (r:=rNeD K) (op_neD hr) (pe_call G_read_pattern hr (by rfl) T.read_pattern.mg T.read_pattern.fn.kp T.read_pattern.bd .nil pass0 (pa_cons (pv 6) (pa_nil))) (pv 2) (nomark _)) (pss_one (ps_ret (pe_bl))) (pss_nil))
   (pss_cons (ps_for PassesOwn.never rfl (pi_list (pe_orL (pe_slice (r:=rSlL K) sl_list (pv 0) (po_some (pe_int)) (po_some (pe_int))) (pe_one (pe_lstj (paj_cons (pe_int) (paj_nil)))))) (pg_name (i:=7) sc_law.nd rfl (Or.inl rfl)) (pss_cons (ps_set (i:=1) sc_law.nd rfl (Or.inl rfl) (pe_call G__law_deck hr (by rfl) T._law_deck.mg T._law_deck.fn.kp T._law_deck.bd .nil pass0 (pa_cons (pv 7) (pa_cons (pe_int) (pa_nil)))))
   (pss_cons (ps_set (i:=8) sc_law.nd rfl (Or.inl rfl) (pv 6))
   (pss_cons (ps_for PassesOwn.never rfl (pi_range1 (by rfl) T.n_range (pa_cons (pe_call G__law_pick hr (by rfl) T._law_pick.mg T._law_pick.fn.kp T._law_pick.bd .nil pass0 (pa_cons (pv 1) (pa_cons (pe_int) (pa_nil)))) (pa_nil))) (pg_name (i:=3) sc_law.nd rfl (Or.inl rfl)) (pss_one (ps_set (i:=8) sc_law.nd rfl (Or.inl rfl) (pe_call G__law_bent hr (by rfl) T._law_bent.mg T._law_bent.fn.kp T._law_bent.bd .nil pass0 (pa_cons (pv 1) (pa_cons (pv 8) (pa_cons (pe_lstj (paj_s (paj_s (paj_nil)))) (pa_nil))))))))
   (pss_one (ps_if (pt_not (pt_val (pe_call G__law_reads hr (by rfl) T._law_reads.mg T._law_reads.fn.kp T._law_reads.bd .nil pass0 (pa_cons (pv 8) (pa_nil))))) (pss_one (ps_ret (pe_bl))) (pss_nil)))))))
   (pss_one (ps_ret (pe_and (pe_call G__law_reads hr (by rfl) T._law_reads.mg T._law_reads.fn.kp T._law_reads.bd .nil pass0 (pa_cons (pe_str) (pa_nil))) (pe_and (pe_call G__law_reads hr (by rfl) T._law_reads.mg T._law_reads.fn.kp T._law_reads.bd .nil pass0 (pa_cons (pe_bm (r:=rJoin K) PySem.F.plainAttrs_str PySem.F.slot_str_join PySem.F.type_str_join mt_join (pe_str) (pa_cons (pe_op op_rep (pe_lstj (paj_s (paj_nil))) (pe_int)) (pa_nil))) (pa_nil))) (pe_and (pe_call G__law_reads hr (by rfl) T._law_reads.mg T._law_reads.fn.kp T._law_reads.bd .nil pass0 (pa_cons (pe_op op_add_str (pe_str) (pv 6)) (pa_nil))) (pe_one (pe_call G__law_reads hr (by rfl) T._law_reads.mg T._law_reads.fn.kp T._law_reads.bd .nil pass0 (pa_cons (pe_str) (pa_nil)))))))))))))))),?_⟩
  have hml:(ns.map V.int).length=ns.length:=List.length_map _
  refine ⟨_,rfl,(by show 1<=sizeLine;decide),λp hp=>?_⟩
  obtain ⟨H1,q1,s1,h1⟩:=new_ex (.lst [.int 0]) hp
  rw [q1]
  refine ⟨a,p,_,_,rfl,rfl,s1.seq hScr,.of h1,?_,λq hq=>?_⟩
  ·rw [hml];exact Nat.le_of_lt (small (by show ns.length+1<_;lia))
  obtain ⟨c,hc⟩:∃ c:Int,atI (ns.map V.int++[V.int 0]) 0=some (.int c):=by
   cases ns with
   | nil=>exact ⟨0,rfl⟩
   | cons c r=>exact ⟨c,atI_nat (j:=0) rfl⟩
  obtain ⟨H2,q2,s2,h2⟩:=new_ex (.lst (ns.map V.int++[V.int 0])) hq
  rw [q2]
  refine ⟨q,_,0,_,rfl,rfl,.of h2,hc,c,0,rfl,by decide,λd H3 hd s3 dk3=>?_⟩
  have s03:Same H H3:=(s1.trans s2).trans s3
  have hdH:H d=none:=(s1.trans s2).free hd
  clear q1 q2 h1 h2 s1 s2 s3 hp hq hc hd
  refine ⟨_,rfl,_,rfl,d,12,0,rfl,dk3,by decide,by decide,by decide,λz ws H4 s4 dk4 hln=>?_⟩
  have hzk:=hln.ok (by decide)
  have s04:Same H H4:=(same_wo hdH s03).trans s4
  refine ⟨d,z,_,rfl,dk4,by decide,by lia,hzk.1,λF H5 ps ys hF s5 dk5 hdr hF5 hps=>?_⟩
  rw [hln.split] at hdr
  have hptd:=drawn_ptd hln.wd hdr
  have hpl:ps.length=ws.length:=hdr.1
  have hp1:=hln.pos
  have hp12:ws.length<=12:=hln.le
  have hdF:d≠F:=dk4.ne hF
  have s05:Same H H5:=(same_wo hdH s04).trans s5
  have hFH:H F=none:=s04.free hF
  have dk5:Dk H5 d 200:=dk5.mono (by lia)
  clear s03 s04 s4 s5 dk3 dk4 hdr hF
  refine ⟨_,rfl,d,3,200,rfl,dk5,by decide,by decide,by decide,λr1 H6 s6 dk6 a0 a1=>⟨r1,rfl,by lia,by lia,?_⟩⟩
  have s06:Same H H6:=(same_wo hdH s05).trans s6
  have hF6:H6 F=some (.lst ys):=keepN s6 hF5 hdF
  obtain ⟨dl5,hd5⟩:=dk5.lst
  have hps6:PtsAt H6 ys ps:=hps.tup λb xs e=>s6 _ _ (by rw [wo_at λz=>by rw [z,hd5] at e;cases e];exact e)
  refine for_range (P13 H a d F ws.length 201) ⟨⟨_,_,_,_,_,_,rfl⟩,s06,dk6,ys,ps,hF6,hps6,hptd,hpl⟩ (λj σ H7 hj q=>?_) (λσ H7 q=>?_)
  ·obtain ⟨q0,s7,dk7,ys7,ps7,hF7,hps7,hptd7,hpl7⟩:=q
   apply ex_6 q0
   clear q0
   intro u3 u4 u5 u6 u7 u8
   have hj3:j<3:=by lia
   refine ⟨(by show 9<=sizeLine;decide),λl hl=>?_⟩
   obtain ⟨H8,q8,s8,h8⟩:=new_ex (.lst (nine13.map V.str)) hl
   show tSeq _ _ _ _ (upd H7 l (.lst (nine13.map V.str)))
   rw [q8]
   have hdl:d≠l:=dk7.ne hl
   refine ⟨_,rfl,_,rfl,d,9,_,rfl,dk7.same s8,by lia,by decide,by decide,λr2 H9 s9 dk9 b0 b1=>?_⟩
   obtain ⟨w,hw,hat⟩:=at_strs (l:=nine13) b0 b1
   have hwk:=nine_ok w hw
   refine ⟨l,_,r2,_,rfl,rfl,.of (keepN s9 h8 hdl),hat,(by show 2<=sizeLine;decide),λt ht=>?_⟩
   obtain ⟨H10,q10,s10,h10⟩:=new_ex (.tup [.str "word",.str w]) ht
   rw [q10]
   obtain ⟨dl8,hd8⟩:=(dk7.same s8).lst
   have hF10:H10 F=some (.lst ys7):=s10 _ _ (keepN s9 (s8 _ _ hF7) hdF)
   have hps10:PtsAt H10 ys7 ps7:=((hps7.same s8).tup λb xs e=>s9 _ _ (by rw [wo_at λz=>by rw [z,hd8] at e;cases e];exact e)).same s10
   have s010:Same H H10:=((same_wo hdH (s7.trans s8)).trans s9).trans s10
   have hyl:=hps10.1
   refine ⟨_,rfl,_,rfl,_,rfl,F,_,rfl,.inl (.of hF10),d,_,_,rfl,dk9.same s10,by lia,by lia,by lia,λr3 H11 s11 dk11 c0 c1=>?_⟩
   have hF11:H11 F=some (.lst ys7):=keepN s11 hF10 hdF
   obtain ⟨dl10,hd10⟩:=(dk9.same s10).lst
   have keepT:∀ b xs,H10 b=some (.tup xs)->H11 b=some (.tup xs):=λb xs e=>s11 _ _ (by rw [wo_at λz=>by rw [z,hd10] at e;cases e];exact e)
   refine ⟨F,ys7,r3,r3.toNat,rfl,rfl,hF11,ixN_in c0 c1,?_⟩
   refine ⟨⟨_,_,_,_,_,_,rfl⟩,snap_upd hFH ((same_wo hdH s010).trans s11),(dk11.upd hdF).mono (by lia),_,ps7.set r3.toNat (.word w),upd_same,?_,λp hp=>?_,by rw [List.length_set];exact hpl7⟩
   ·have f:∀ b xs,H11 b=some (.tup xs)->(upd H11 F (.lst (ys7.set r3.toNat (.ref t)))) b=some (.tup xs):=λb xs e=>by
     rw [upd_ne (λz=>by rw [z,hF11] at e;cases e)]
     exact e
    exact PtsAt.set ((hps10.tup keepT).tup f) ⟨t,rfl,f _ _ (keepT _ _ h10)⟩
   ·rcases List.mem_or_eq_of_mem_set hp with h | h
    ·exact hptd7 p h
    ·rw [h];exact hwk
  obtain ⟨q0,s7,dk7,ys7,ps7,hF7,hps7,hptd7,hpl7⟩:=q
  apply ex_6 q0
  clear q0
  intro u3 u4 u5 u6 u7 u8
  clear s05 s06 s6 dk5 dk6 hF5 hF6 hps hps6 hd5 hptd hpl
  have hpk:∀ p∈ps7,PtK p:=λp hp=>(hptd7 p hp).k
  have hok:∀ p∈ps7,p.ok:=λp hp=>(hpk p hp).ok
  have h12:ps7.length<=12:=by lia
  refine ⟨_,rfl,F,ys7,rfl,.inl (.of hF7),λKP hKP=>?_⟩
  obtain ⟨H8,q8,s8,h8⟩:=new_ex (.lst ys7) hKP
  rw [q8]
  have dF:∀ {H':Hp},Same H8 H'->Den K H' (.ref F) (patD ps7):=λ{H'} s=>.lst (.of (s _ _ (s8 _ _ hF7))) (((hps7.same s8).same s).lds hok).den
  have dK:∀ {H':Hp},Same H8 H'->Den K H' (.ref KP) (patD ps7):=λ{H'} s=>.lst (.of (s _ _ h8)) (((hps7.same s8).same s).lds hok).den
  have hs:∀ x∈ps7.map showP,PyData.strOk x=true/\x.length<=8/\32∉x.cps.toList:=λx hx=>by
   obtain ⟨p,hp,rfl⟩:=List.mem_map.mp hx
   have:=show_d (hptd7 p hp)
   exact ⟨this.2.1,this.1,this.2.2⟩
  have hne:ps7.map showP≠[]:=λe=>by
   have:=congrArg List.length e
   rw [List.length_map] at this
   simp at this
   rw [this] at hpl7
   simp at hpl7
   lia
  have hsp:Txt.split (Txt.join " " (ps7.map showP)) " " = ps7.map showP:=split_join hne λx hx=>(hs x hx).2.2
  have hj:=ok_join (y:= " ") (m:=8) (by decide +kernel) (xs:=ps7.map showP) λx hx=>⟨(hs x hx).1,(hs x hx).2.1⟩
  have hj1:((" " : Str)).length=1:=rfl
  rw [hj1,List.length_map] at hj
  have hrd:(Txt.split (Txt.join " " (ps7.map showP)) " ").map readQ=ps7.map some:=by
   rw [hsp,List.map_map]
   exact List.map_congr_left λp hp=>readQ_showP (hpk p hp)
  refine ⟨_,rfl,.ref F,ps7,rfl,dF (Same.refl _),hpk,by lia,λH9 s9=>?_⟩
  have hzl:(Txt.join " " (ps7.map showP)).length<=108:=by lia
  have hzs:=hj.1
  generalize htx:Txt.join " " (ps7.map showP)=tx at hzl hzs hrd ⊢
  refine ⟨_,rfl,.str tx,"str",_,true,rfl,.str _,rfl,_,rfl,iteF ⟨_,rfl,_,rfl,.ref F,ps7,rfl,dF s9,hpk,by lia,λH10 s10=>⟨rfl,_,rfl,?_⟩⟩⟩
  rw [htx,decide_eq_true rfl]
  refine iteF ⟨_,rfl,_,rfl,_,_,dF (s9.trans s10),dK (s9.trans s10),pats_depth _,_,rfl,?_⟩
  rw [den_self (dF (Same.refl _))]
  refine iteF ?_
  refine ⟨_,rfl,tx,ps7,rfl,hzs,by lia,hrd,h12,λD acc H11 hD s11 hDD hat=>⟨_,rfl,_,_,.lst (.of hDD) (hat.lds hok).den,dF ((s9.trans s10).trans s11),pats_depth _,_,rfl,?_⟩⟩
  have eself:PyData.eqv (.list (ps7.map Pt.dat)) (patD ps7)=true:=den_self (dF (Same.refl _))
  rw [eself]
  refine iteF ?_
  have s011:Same H H11:=s7.trans (((s8.trans s9).trans s10).trans s11)
  clear dF dK eself hat hDD hD s11 s10 s9 s8 h8 q8 hKP hps7 hF7 dk7 s7 hs hne hsp hj hrd
  refine ⟨λx H12=>∃ (Z:Addr) (cells:List V),x = .ref Z/\H12 Z=some (.lst cells)/\(∀ x∈cells,∃ c:Int,x = .int c)/\Same H11 H12,λx H12 ⟨Z,cells,ex,hZ,hcm,sZ⟩=>?_,?_⟩
  case refine_2=>
   refine ⟨_,rfl,(1:Int),rfl,(17:Int),rfl,a,_,rfl,s011.seq hScr,λZ hZ=>?_⟩
   have hcm:∀ x∈cutV (ns.map V.int) (some 1) (some 17),∃ c:Int,x = .int c:=λx hx=>by
    obtain ⟨c,_,rfl⟩:=List.mem_map.mp (cut_mem hx)
    exact ⟨c,rfl⟩
   generalize cutV (ns.map V.int) (some 1) (some 17)=cells0 at hcm
   refine ⟨_,.inl ⟨_,.of upd_same,rfl⟩,?_⟩
   by_cases hce:cells0.isEmpty=true
   ·rw [hce]
    exact iteF ⟨(by show 1<=sizeLine;decide),λZ2 hZ2=>⟨Z2,_,rfl,upd_same,λx hx=>⟨0,List.mem_singleton.mp hx⟩,(Same.new hZ).trans (Same.new hZ2)⟩⟩
   ·rw [Bool.eq_false_iff.mpr hce]
    exact iteT ⟨Z,_,rfl,upd_same,hcm,Same.new hZ⟩
  refine ⟨Z,ex,⟨_,.of hZ⟩,?_⟩
  clear s011 sZ ex hScr hFH hdH hdF
  refine for_list (K:=K) (xs:=cells) (λi σ H13=>(∃ u0 u1 u2 u3 u4 u5 u7 u8,σ=[u0,u1,u2,u3,u4,u5,some (.str tx),u7,u8])/\Same H12 H13) ⟨⟨_,_,_,_,_,_,_,_,rfl⟩,Same.refl _⟩ (λi σ H13 _ q=>.of (q.2 _ _ hZ)) (λi x σ H13 hx q=>?_) (λσ H13 q=>?_)
  ·obtain ⟨c',rfl⟩:=hcm x (List.mem_of_getElem? hx)
   obtain ⟨q0,s13⟩:=q
   apply ex_8 q0
   clear q0
   intro u0 u1 u2 u3' u4' u5' u7' u8'
   clear hx hcm hZ
   refine ⟨_,rfl,c',870,rfl,by decide,λe H14 he s14 dk14=>?_⟩
   have s014:Same H12 H14:=s13.trans s14
   have heH:H12 e=none:=s13.free he
   refine ⟨_,rfl,?_⟩
   refine ⟨_,rfl,e,4,870,rfl,dk14,by decide,by decide,by decide,λr4 H15 s15 dk15 d0 d1=>⟨r4,rfl,by lia,by lia,?_⟩⟩
   have s015:Same H12 H15:=(same_wo heH s014).trans s15
   refine for_range (λj σ H16=>(∃ (u3:Option V) (bx:Str),σ=[u0,some (.ref e),u2,u3,u4',u5',some (.str tx),some (.int c'),some (.str bx)]/\PyData.strOk bx=true/\bx.length<=bnd j)/\Same H12 H16/\Dk H16 e (871+7 * j)) ⟨⟨_,_,rfl,hzs,by show _<=110;lia⟩,s015,dk15⟩ (λj σ H16 hj q=>?_) (λσ H16 q=>?_)
   ·obtain ⟨⟨u3',bx,rfl,hbo,hbl⟩,s16,dk16⟩:=q
    have hbj:bnd j<=894:=bnd_le (by lia)
    refine ⟨_,rfl,_,rfl,(by show 2<=sizeLine;decide),λl hl=>?_⟩
    obtain ⟨H17,q17,s17,h17⟩:=new_ex (.lst [.str " ",.str "<"]) hl
    rw [q17]
    refine ⟨e,l,bx,_,rfl,dk16.same s17,by lia,dk16.ne hl,h17,hbo,by lia,λx H18 s18 dk18 hxo hxl=>?_⟩
    exact ⟨⟨_,_,rfl,hxo,by show _<=2 * bnd j+2;lia⟩,(same_wo heH (s16.trans s17)).trans s18,dk18.mono (by lia)⟩
   ·obtain ⟨⟨u3',bx,rfl,hbo,hbl⟩,s16,dk16⟩:=q
    have hbj:bnd r4.toNat<=894:=bnd_le (by lia)
    refine ⟨_,rfl,bx,rfl,hbo,by lia,λH17 s17=>⟨_,rfl,iteF ?_⟩⟩
    exact ⟨⟨_,_,_,_,_,_,_,_,rfl⟩,s16.trans s17⟩
  obtain ⟨q0,s13⟩:=q
  apply ex_8 q0
  clear q0
  intro u0 u1 u2 u3' u4' u5' u7' u8'
  clear hcm hZ s13
  refine ⟨"",rfl,by decide +kernel,by decide,λH14 _=>⟨_,rfl,iteT ?_⟩⟩
  refine ⟨rfl,(by show 1<=sizeLine;decide),λl hl=>⟨l,13,_,rfl,rfl,upd_same,by decide,by decide,by decide,λp2 hp2=>?_⟩⟩
  have e13:(List.replicate (13:Int).toNat [V.str "x"]).flatten=(List.replicate 13 ("x" : Str)).map V.str:=rfl
  rw [e13]
  refine ⟨" ",p2,_,rfl,rfl,.of upd_same,join_fits (m:=1) (λy hy=>?_) (by decide),?_⟩
  ·rw [List.eq_of_mem_replicate hy];decide
  refine ⟨_,rfl,x13.1,Nat.le_trans x13.2 (by decide),λH15 _=>⟨_,rfl,iteT ?_⟩⟩
  have hl1:(("=" : Str)).length=1:=rfl
  refine ⟨_,rfl,_,_,rfl,rfl,Nat.le_of_lt (small (by lia)),_,rfl,sok_append (by decide +kernel) hzs,by rw [PySem.Str.length_append];lia,λH16 _=>⟨_,rfl,iteT ?_⟩⟩
  exact ⟨"<any>",rfl,by decide +kernel,by decide,λH17 _=>k H17⟩
end
end K13
namespace K13
open PySem L2 LG
theorem hX1 {s:Shared} (e:hX s=true):PySem.W.xlAt hV [] s=true:=by unfold hX at e;exact (Bool.and_eq_true_iff.mp e).1
theorem hX2 {s:Shared} (e:hX s=true):PySem.W.recOk (PySem.W.RowW.records (PySem.W.OpenRow.toRowW (PySem.W.OpenLaw.row PySem.Challenge.rw_loggather_k13_whole_texts_of_patterns))) s=true:=by unfold hX at e;exact (Bool.and_eq_true_iff.mp e).2
theorem hS:PySem.Challenge.rw_loggather_k13_whole_texts_of_patterns.wellSaid=true:=by kernel_rfl
abbrev hFo (i:Nat) (x:Str) (m:Value) (c:Nat):FuncData:=PySem.W.fnOf x x (defArgs (top i)) (defBody (top i)) (defScope (top i)) .none .none .none m none (.ref c) .none
theorem hDf {P:Params}{h:Heap}{mg:Str->Option Value}{i f c:Nat}{x:Str}{m:Value} (X:(hK P).In h) (G:h.Ns mainGlobals mg) (ps:List Str) (l:(hK P).lookup f=some (hFn i x m c)) (d:PySem.W.codeIn (hK P) (.ref c) x=true) (k:PySem.W.keepIn (hK P) (.ref f)=true) (a:PySem.W.nsIn (hK P) mainGlobals x=some (some (.ref f)))
  (b:∀ (kV doc pm:Value) (an:Option Addr) (cdv ct:Value) (us:List Value),us.length=ps.length->bindArgs (PySem.W.fnOf x x (defArgs (top i)) (defBody (top i)) (defScope (top i)) .none kV doc pm an cdv ct) ⟨us,[]⟩=pure (ps.zip us)):DefAt (hK P) mg x (top i) ps f (hFo i x m c):=
 have F:Fun (hK P) x x (top i) f (hFo i x m c):=fun_mk l d k
 ⟨F,F.binds b,PySem.W.mg_of X G a⟩
theorem on0 {C:List Value->Prop} (h:C []):∀ us:List Value,us.length=0->C us
 | [],_=>h
theorem on1 {C:List Value->Prop} (h:∀ a0,C [a0]):∀ us:List Value,us.length=1->C us
 | [a0],_=>h a0
theorem on2 {C:List Value->Prop} (h:∀ a0 a1,C [a0,a1]):∀ us:List Value,us.length=2->C us
 | [a0,a1],_=>h a0 a1
theorem on3 {C:List Value->Prop} (h:∀ a0 a1 a2,C [a0,a1,a2]):∀ us:List Value,us.length=3->C us
 | [a0,a1,a2],_=>h a0 a1 a2
def hA:Ad:=⟨149,hFo 13 "has_only" (.str "loggather.words" 360) 148,156,hFo 14 "is_word" (.str "loggather.words" 360) 155,164,hFo 18 "is_part" (.str "loggather.patterns" 379) 163,169,hFo 19 "is_pattern" (.str "loggather.patterns" 379) 168,176,hFo 20 "is_hole" (.str "loggather.patterns" 379) 175,183,hFo 22 "show_part" (.str "loggather.texts" 407) 182,188,hFo 23 "show_pattern" (.str "loggather.texts" 407) 187,195,hFo 24 "read_part" (.str "loggather.texts" 407) 194,200,hFo 25 "read_pattern" (.str "loggather.texts" 407) 199,207,hFo 27 "_law_deck" (.str "law_loggather_k13_whole_texts_of_patterns" 437) 206,214,hFo 28 "_law_pick" (.str "law_loggather_k13_whole_texts_of_patterns" 437) 213,219,hFo 29 "_law_name_of" (.str "law_loggather_k13_whole_texts_of_patterns" 437) 218,224,hFo 30 "_law_kind" (.str "law_loggather_k13_whole_texts_of_patterns" 437) 223,241,hFo 33 "_law_word" (.str "law_loggather_k13_whole_texts_of_patterns" 437) 240,246,hFo 34 "_law_line" (.str "law_loggather_k13_whole_texts_of_patterns" 437) 245,258,hFo 36 "_law_pattern" (.str "law_loggather_k13_whole_texts_of_patterns" 437) 257,265,hFo 37 "_law_signs" (.str "law_loggather_k13_whole_texts_of_patterns" 437) 264,272,hFo 38 "_law_sign_bent" (.str "law_loggather_k13_whole_texts_of_patterns" 437) 271,279,hFo 39 "_law_list_bent" (.str "law_loggather_k13_whole_texts_of_patterns" 437) 278,286,hFo 40 "_law_bent" (.str "law_loggather_k13_whole_texts_of_patterns" 437) 285,293,hFo 41 "_law_told" (.str "law_loggather_k13_whole_texts_of_patterns" 437) 292,300,hFo 42 "_law_written" (.str "law_loggather_k13_whole_texts_of_patterns" 437) 299,305,hFo 43 "_law_read" (.str "law_loggather_k13_whole_texts_of_patterns" 437) 304,312,hFo 44 "_law_reads" (.str "law_loggather_k13_whole_texts_of_patterns" 437) 311,319,hFo 45 "law" (.str "law_loggather_k13_whole_texts_of_patterns" 437) 318,157,24,37,49,61,80,92,104,116,128,140⟩
set_option maxHeartbeats 8000000 in
theorem hT {P:Params}{h:Heap}{mg:Str->Option Value} (X:(hK P).In h) (G:h.Ns mainGlobals mg):Tx (hK P) mg hA:=⟨PySem.W.mg_none_of X G (by kernel_rfl),
 PySem.W.mg_none_of X G (by kernel_rfl),
 PySem.W.mg_none_of X G (by kernel_rfl),
 PySem.W.mg_none_of X G (by kernel_rfl),
 PySem.W.mg_none_of X G (by kernel_rfl),
 PySem.W.mg_none_of X G (by kernel_rfl),
 PySem.W.mg_none_of X G (by kernel_rfl),
 PySem.W.mg_none_of X G (by kernel_rfl),
 PySem.W.mg_none_of X G (by kernel_rfl),
 PySem.W.mg_none_of X G (by kernel_rfl),
 (by rw [SIGNS_is];exact ⟨362,PySem.W.mg_of X G (by kernel_rfl)⟩),
 ⟨381,PySem.W.mg_of X G (by kernel_rfl)⟩,
 PySem.W.mg_of X G (by kernel_rfl),
 (λH=>.inr ⟨_,_,_,rfl,rfl,rfl,(by show 3<=sizeLine;decide),.cons ⟨_,rfl⟩ (.cons ⟨_,rfl⟩ (.cons ⟨_,rfl⟩ (.nil)))⟩),
 ⟨_,rfl,rfl,rfl⟩,
 hDf X G ["text","signs"] rfl (by kernel_rfl) (by kernel_rfl) (by kernel_rfl) λ_ _ _ _ _ _=>on2 λ_ _=>rfl,
 hDf X G ["thing"] rfl (by kernel_rfl) (by kernel_rfl) (by kernel_rfl) λ_ _ _ _ _ _=>on1 λ_=>rfl,
 hDf X G ["thing"] rfl (by kernel_rfl) (by kernel_rfl) (by kernel_rfl) λ_ _ _ _ _ _=>on1 λ_=>rfl,
 hDf X G ["thing"] rfl (by kernel_rfl) (by kernel_rfl) (by kernel_rfl) λ_ _ _ _ _ _=>on1 λ_=>rfl,
 hDf X G ["part"] rfl (by kernel_rfl) (by kernel_rfl) (by kernel_rfl) λ_ _ _ _ _ _=>on1 λ_=>rfl,
 hDf X G ["part"] rfl (by kernel_rfl) (by kernel_rfl) (by kernel_rfl) λ_ _ _ _ _ _=>on1 λ_=>rfl,
 hDf X G ["pattern"] rfl (by kernel_rfl) (by kernel_rfl) (by kernel_rfl) λ_ _ _ _ _ _=>on1 λ_=>rfl,
 hDf X G ["text"] rfl (by kernel_rfl) (by kernel_rfl) (by kernel_rfl) λ_ _ _ _ _ _=>on1 λ_=>rfl,
 hDf X G ["text"] rfl (by kernel_rfl) (by kernel_rfl) (by kernel_rfl) λ_ _ _ _ _ _=>on1 λ_=>rfl,
 hDf X G ["cell","turn"] rfl (by kernel_rfl) (by kernel_rfl) (by kernel_rfl) λ_ _ _ _ _ _=>on2 λ_ _=>rfl,
 hDf X G ["deck","many"] rfl (by kernel_rfl) (by kernel_rfl) (by kernel_rfl) λ_ _ _ _ _ _=>on2 λ_ _=>rfl,
 hDf X G ["e"] rfl (by kernel_rfl) (by kernel_rfl) (by kernel_rfl) λ_ _ _ _ _ _=>on1 λ_=>rfl,
 hDf X G ["word"] rfl (by kernel_rfl) (by kernel_rfl) (by kernel_rfl) λ_ _ _ _ _ _=>on1 λ_=>rfl,
 hDf X G ["deck"] rfl (by kernel_rfl) (by kernel_rfl) (by kernel_rfl) λ_ _ _ _ _ _=>on1 λ_=>rfl,
 hDf X G ["deck","most"] rfl (by kernel_rfl) (by kernel_rfl) (by kernel_rfl) λ_ _ _ _ _ _=>on2 λ_ _=>rfl,
 hDf X G ["deck","line"] rfl (by kernel_rfl) (by kernel_rfl) (by kernel_rfl) λ_ _ _ _ _ _=>on2 λ_ _=>rfl,
 hDf X G [] rfl (by kernel_rfl) (by kernel_rfl) (by kernel_rfl) λ_ _ _ _ _ _=>on0 rfl,
 hDf X G ["deck","text"] rfl (by kernel_rfl) (by kernel_rfl) (by kernel_rfl) λ_ _ _ _ _ _=>on2 λ_ _=>rfl,
 hDf X G ["deck","some"] rfl (by kernel_rfl) (by kernel_rfl) (by kernel_rfl) λ_ _ _ _ _ _=>on2 λ_ _=>rfl,
 hDf X G ["deck","text","joints"] rfl (by kernel_rfl) (by kernel_rfl) (by kernel_rfl) λ_ _ _ _ _ _=>on3 λ_ _ _=>rfl,
 hDf X G ["text"] rfl (by kernel_rfl) (by kernel_rfl) (by kernel_rfl) λ_ _ _ _ _ _=>on1 λ_=>rfl,
 hDf X G ["pattern"] rfl (by kernel_rfl) (by kernel_rfl) (by kernel_rfl) λ_ _ _ _ _ _=>on1 λ_=>rfl,
 hDf X G ["text"] rfl (by kernel_rfl) (by kernel_rfl) (by kernel_rfl) λ_ _ _ _ _ _=>on1 λ_=>rfl,
 hDf X G ["text"] rfl (by kernel_rfl) (by kernel_rfl) (by kernel_rfl) λ_ _ _ _ _ _=>on1 λ_=>rfl,
 PySem.W.mg_of X G (by kernel_rfl),
 PySem.W.mg_of X G (by kernel_rfl),
 PySem.W.mg_of X G (by kernel_rfl),
 PySem.W.mg_of X G (by kernel_rfl),
 PySem.W.mg_of X G (by kernel_rfl),
 PySem.W.mg_of X G (by kernel_rfl),
 PySem.W.mg_of X G (by kernel_rfl),
 PySem.W.mg_of X G (by kernel_rfl),
 PySem.W.mg_of X G (by kernel_rfl),
 PySem.W.mg_of X G (by kernel_rfl),
 (by kernel_rfl),
 (by kernel_rfl),
 ⟨by kernel_rfl,by kernel_rfl,by kernel_rfl,by kernel_rfl,by kernel_rfl,by kernel_rfl⟩,
 (by kernel_rfl),
 (by kernel_rfl),
 (by kernel_rfl),
 (by kernel_rfl),
 (by kernel_rfl),
 (by kernel_rfl),
 (by kernel_rfl),
 (by kernel_rfl),
 (by kernel_rfl),
 (by kernel_rfl),
 (by kernel_rfl)⟩
theorem hF (w:World) (mg:Str->Option Value) (fa:Addr) (h:Heap) (X:(hK w.params).In h) (G:h.Ns mainGlobals mg) (e:mg "law" = some (.ref fa)) :
  ∃ fd:FuncData,(∀ (s:Shared) (u:Value),BindsTo s fd ⟨[u],[]⟩ [("script",u)])/\∀ base:Heap,(hK w.params).In base->base.Ns mainGlobals mg->FnOk PySem.Challenge.rw_loggather_k13_whole_texts_of_patterns.prog w (hK w.params) mg base CX0 8 fa fd ["script"] (sp_law (hK w.params)):=by
 have q:=e.symm.trans (PySem.W.mg_of X G (show PySem.W.nsIn (hK w.params) mainGlobals "law" = some (some (.ref 319)) by kernel_rfl))
 cases q
 exact ⟨hFo 45 "law" (.str "law_loggather_k13_whole_texts_of_patterns" 437) 318,λs v=>.of_eq rfl,λbase _ _=>ok_law (A:=hA) (fun_mk rfl (by kernel_rfl) (by kernel_rfl)) (hT X G)⟩
abbrev hSp:=sp_law
end K13
open PySem PySem.W PyProof.Rows
set_option maxRecDepth 100000 in
set_option maxHeartbeats 0 in
theorem PySem.Challenge.cw_loggather_k13_whole_texts_of_patterns_holds : PySem.Challenge.rw_loggather_k13_whole_texts_of_patterns.Holds := by
 refine holds_law K13.hS λsaid=>@PySem.W.holds_open (OpenLaw.row PySem.Challenge.rw_loggather_k13_whole_texts_of_patterns) K13.hV K13.hLo K13.hX (XL K13.hV []) _ K13.hH.obs K13.hH.val K13.hH.says ?dr ?kw 6196 K13.hL K13.hH.of K13.hH.keeps
  (λs e=>xl_of s (K13.hX1 e)) XL.keeps ?x1 ?x2 ?x3 (λs e=>recFacts_of (K13.hX2 e)) ?x4 said ?x5 ?x6 ?hw ?hc
 case x1=>exact rfl
 case x2=>exact rfl
 case x3=>exact rfl
 case x4=>rfl
 case x5=>decide +kernel
 case x6=>exact ⟨rfl,rfl,rfl,rfl,rfl,by decide +kernel⟩
 case hw=>w_witness2
 exact L2.walk_of (l:=PySem.Challenge.rw_loggather_k13_whole_texts_of_patterns) (n:=63) (k:=8) (x:= "script") (CX:=λ_=>L2.CX0) (sp:=λw=>K13.hSp (K13.hK w.params)) rfl (by decide) rfl ⟨rfl,by decide,by decide,rfl⟩ (λw h Y=>PySem.W.kIn_of Y) K13.hF (λ_ _ a ns hl _ hS=>⟨a,ns,rfl,hS,hl,λ_=>rfl⟩) λ_ _ _ _ _ z=>z
