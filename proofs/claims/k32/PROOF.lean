import PyProof.Rows.All
import Wide.All
import OpenK.AllK
import Wide.FinOn
import Lean
import PyProof.EqAt
import PyProof.EqKinds
import PyProof.TupleCall
import PyProof.NeData
import PyProof.StrLawsChain
import KE.KSortTup
import KE.KRevSl
import KE.KMinKey
import PyProof.P3In
import KE.KRevIter
import KE.KLam
import KE.KDictSum
import PyProof.StrCalls6
import PyProof.ToksMono
import PyProof.ReprRoads
import PyProof.StrOps2
import KE.KDictLaws
import KE.KDictList
import PyProof.DictValues
import PyProof.TupleKey
import PyProof.IsRules
import PyProof.Rows.SetFrom
import PyProof.DictWalks
import PyProof.FactsAll.set_1
import PyProof.ReprText
import PyProof.Rows.SortRunsK
import PyProof.WalkInts
import PyProof.ZipIter
import PyProof.CollectWalk
import PyProof.ListNew
import PyProof.ListStr
import PyProof.Rows.Range3
import PySem.Challenge.RW_loggather_k32_whole_words_renamed
set_option Elab.async false
set_option linter.all false
set_option autoImplicit false
set_option maxRecDepth 100000
namespace L2
open PySem PySem.W
section
variable {p:Program}{q:Program}{loose:List Str}{Xt:Shared->Bool}{α:Type}{Yf:Shared->α}{Ya:World->α}{N:Nat}{H₀:Params->Heap}{d₀:Drawn}{k₀ m₀:Nat}{ann:Option Value}{env:Env}{c:Code}{qp:Pos}
def TailO (p q:Program) (loose:List Str) (Xt:Shared->Bool) {α:Type} (Yf:Shared->α) (Ya:World->α) (H₀:Params->Heap) (m₀:Nat) (ann:Option Value) (env:Env) (c:Code) (qp:Pos) (n:Nat) (l:List Stmt) (pos:Pos) (w:World) (s:Shared):Prop:=
 ∃ r,topRun treeTable p w m₀ ann n s (restOf l env c pos [topFrame qp])=some r/\(staticsOk (importedModules p.main.body) (H₀ w.params) r.heap && namesBound p r.heap && gensDone r && laidKept (H₀ w.params) r.heap)=true/\openSeen q loose (importedModules p.main.body) Xt true r=openGood q loose/\Yf r=Ya w
theorem tail_end {n nF:Nat}{l:List Stmt}{pos:Pos}{w:World}{s:Shared}
  (h:(segRun treeTable p w m₀ ann 1 n s (piecesOf l env c pos [topFrame qp])).bind (λz=>(topRun treeTable p w m₀ ann nF z.2.1 ⟨doneF .next,c,z.2.2.2,[topFrame qp]⟩).map λr=>(z.1,z.2.2.1,(staticsOk (importedModules p.main.body) (H₀ w.params) r.heap && namesBound p r.heap && gensDone r && laidKept (H₀ w.params) r.heap),openSeen q loose (importedModules p.main.body) Xt true r,Yf r))=some (.next,c,true,openGood q loose,Ya w)) :
  TailO p q loose Xt Yf Ya H₀ m₀ ann env c qp (n+nF) l pos w s:=by
 obtain ⟨⟨f,s',c',p'⟩,h1,h2⟩:=Option.bind_eq_some_iff.mp h;obtain ⟨r,h3,h4⟩:=Option.map_eq_some_iff.mp h2;simp only [Prod.mk.injEq] at h4;obtain ⟨e1,e2,e3,e4,e5⟩:=h4;subst e1 e2;have:=piece_app (rest:=[]) h1 (piece_nil h3);rw [List.append_nil] at this;exact ⟨r,this,e3,e4,e5⟩
theorem tail_cut {n n':Nat}{l l' l2:List Stmt}{pos pos':Pos}{w:World}{s s':Shared} (h:segRun treeTable p w m₀ ann 1 n s (piecesOf l env c pos [topFrame qp])=some (.next,s',c,pos')) (hl:l++l' = l2) (t:TailO p q loose Xt Yf Ya H₀ m₀ ann env c qp n' l' pos' w s'):TailO p q loose Xt Yf Ya H₀ m₀ ann env c qp (n+n') l2 pos w s:=by
 obtain ⟨r,h1,h2⟩:=t;rw [<-hl];exact ⟨r,piece_app h h1,h2⟩
theorem cut_eq (b:List Stmt) (a d:Nat):(b.drop a).take d++b.drop (a+d)=b.drop a:=by
 grind [List.drop_drop,List.take_append_drop]
theorem left_cut {nP nB n1 n2:Nat}{b l1 l2:List Stmt}{posP pos:Pos}{HM:Params->Heap}{dM:Drawn}{kM:Nat} (hc:c = .body b env) (hb:l1++l2=b)
  (open_:∀ w:World,(fencedOpening treeTable p w N).map (λs=>(s.heap,s.gens,s.drawn,s.toks))=some (H₀ w.params,Array.mk [],d₀,k₀))
  (size:∀ w:World,((H₀ w.params).isNs mainGlobals,(H₀ w.params).objs.size,(H₀ w.params).nsMap mainGlobals "__annotations__")=(true,m₀,ann))
  (h1:∀ (w:World) (os:OsState),(topGo treeTable p w m₀ ann nP ⟨H₀ w.params,Array.mk [],d₀,k₀,os⟩ (topStub p)).bind (λx=>(segRun treeTable p w m₀ ann 1 nB x.1 (blockOf b env c posP [topFrame qp])).bind λy=>(segRun treeTable p w m₀ ann 1 n1 y.2.1 (piecesOf l1 env c y.2.2.2 [topFrame qp])).map λz=>(x.2,y.1,y.2.2.1,z))=some (⟨denote treeTable c,c,posP,[topFrame qp]⟩,.next,c,(.next,⟨HM w.params,Array.mk [],dM,kM,os⟩,c,pos)))
  (h2:∀ (w:World) (os:OsState),TailO p q loose Xt Yf Ya H₀ m₀ ann env c qp n2 l2 pos w ⟨HM w.params,Array.mk [],dM,kM,os⟩) (le:Nat.ble (nP+(nB+(n1+n2))) N=true):LeftO p q loose Xt Yf Ya N true:=λw=>by
 obtain ⟨⟨h,gs,d,k,os⟩,e,e'⟩:=Option.map_eq_some_iff.mp (open_ w);obtain ⟨rfl,rfl,rfl,rfl⟩:h=H₀ w.params/\gs=Array.mk []/\d=d₀/\k=k₀:=by simpa using e'
 obtain ⟨z1,z2,z3⟩:_/\_/\_:=by simpa only [Prod.mk.injEq] using size w
 obtain ⟨⟨sa,ta⟩,a1,a2⟩:=Option.bind_eq_some_iff.mp (h1 w os);obtain ⟨⟨fb,sb,cb,pb⟩,b1,b2⟩:=Option.bind_eq_some_iff.mp a2;obtain ⟨⟨fz,sz,cz,pz⟩,c1,c2⟩:=Option.map_eq_some_iff.mp b2;simp only [Prod.mk.injEq] at c2;obtain ⟨t1,t2,t3,t4,t5,t6,t7⟩:=c2;subst t1 t2 t3 t4 t5 t6 t7;obtain ⟨r,g1,g2,g3,g4⟩:=h2 w os;have p1:=piece_app c1 g1;rw [hb] at p1;subst hc;have p4:=topRun_mono (N - (nP+(nB+(n1+n2)))) _ _ _ _ (go_top a1 (piece_block b1 p1));rw [show nP+(nB+(n1+n2))+(N - (nP+(nB+(n1+n2))))=N by have:=Nat.le_of_ble_eq_true le;lia] at p4;have t:topFrom treeTable p w N ⟨H₀ w.params,Array.mk [],d,k,os⟩=some r:=by
  unfold topFrom
  simp_all
 unfold openEnds
 simp_all
end
end L2
namespace L2
open PySem
def defArgs (s:Stmt):Arguments:=match s with
 | .FunctionDef _ a _ _ _ _ _ _ _ _=>a
 | _=>{ posonlyargs:=[],args:=[],vararg:=none,kwonlyargs:=[],kw_defaults:=[],kwarg:=none,defaults:=[] }
def defBody (s:Stmt):List Stmt:=match s with
 | .FunctionDef _ _ b _ _ _ _ _ _ _=>b
 | _=>[]
def defScope (s:Stmt):Scope:=match s with
 | .FunctionDef _ _ _ _ _ _ sc _ _ _=>sc
 | _=>{ kind:=.function,names:=[],isGenerator:=false,isCoroutine:=false }
end L2
namespace K32
open PySem L2
def top (i:Nat):Stmt:=PySem.Challenge.pw_loggather_k32_whole_words_renamed.main.body.getD i (.Pass ⟨0,0,0,0⟩)
def hqC (x:Str) (a:Nat) (L n:Int) (r:Nat) (d:Nat):Obj:=⟨.type "code",none,.fields #[.str x a,.str x (a+1),.str "/claim/cut.py" (a+2),.int L 0,.int n 0,.int 0 0,.int 0 0,.int 3 0,.ref r,.bool true,.int 181 0,.ref (r+1),.none,.ref (r+2),.ref (r+3),.ref (r+4),.int (Int.ofNat d) 0,.int L 0,.str "/claim/cut.py" (d+1)],#[]⟩
def hqD (x:Str) (a:Nat) (L n:Int) (r:Nat):Obj:=⟨.type "code",none,.fields #[.str x a,.str x (a+1),.str "/claim/cut.py" (a+2),.int L 0,.int n 0,.int 0 0,.int 0 0,.int 3 0,.ref r,.bool true,.int 181 0,.ref (r+1),.none,.none,.none,.ref (r+2),.int (Int.ofNat (a+3)) 0,.int L 0,.str "/claim/cut.py" (a+4)],#[]⟩
def hqU (l:List Value):Obj:=⟨.type "tuple",none,.seq l.toArray 0,#[]⟩
def hqN:Obj:=⟨.none,none,.fields #[],#[]⟩
def hFz (i:Nat) (x:Str):Obj:=⟨.none,none,.func { name:=x,qualname:=x,params:=defArgs (top i),body:=.stmts (defBody (top i)),scope:=defScope (top i),globals:=0,closure:=[],defaults:=.none,kwdefaults:=.none },#[]⟩
def hFd (i:Nat) (x:Str) (m:Value) (c D:Nat):Obj:=⟨.type "function",none,.func { name:=x,qualname:=x,params:=defArgs (top i),body:=.stmts (defBody (top i)),scope:=defScope (top i),globals:=3,closure:=[],defaults:=.ref D,kwdefaults:=.none,pyModule:=m,code:=.ref c },#[]⟩
def hEn (P:Params) (x:Str) (t:Nat) (v:Value):DictEntry:=⟨PyData.keyHash P x,.str x t,v⟩
def hqR (P:Params) (x:Str) (n k:Nat):=hEn P x n (.ref k)
def hqB (x:Str) (a:Nat) (L:Int) (r:Nat):Obj:=⟨.type "code",none,.fields #[.str x a,.str x (a+1),.str "/claim/cut.py" (a+2),.int L 0,.int 0 0,.int 0 0,.int 0 0,.int 0 0,.ref r,.bool false,.int 181 0,.ref (r+1),.none,.none,.none,.none,.int (Int.ofNat (a+3)) 0,.int L 0,.str "/claim/cut.py" (a+4)],#[]⟩
def hqv0:Value:=.str "loggather.patterns" 267
def hqv1:Value:=.str "loggather.gathering" 347
def hqv2:Value:=.str "law_loggather_k32_whole_words_renamed" 439
def hqv3:Value:=.str "loggather.words" 223
def hqv4:Value:=.str "loggather.errors" 187
def hqv5:Value:=.str "loggather.falling" 412
def hqW (a b:Nat) (m:Value):Obj:=⟨.type "frame",none,.plain,#[some (.ref a),some (.ref 3),some (.ref b),none,some m,none,some (.ref 0)]⟩
def hqI (x:String) (a:Nat):Obj:=⟨.type "builtin_function_or_method",none,.fields #[.builtin x,.ref a],#[]⟩
def hqS (a:Nat):Obj:=⟨.type "super",none,.fields #[.ref a,.ref a,.ref a],#[]⟩
def hqE (x:Str) (b s n a c d:Nat):Obj:=⟨.type "type",none,.cls { name:=x,bases:=[.ref b],mro:=[.ref s,.ref b,.type "ValueError",.type "Exception",.type "BaseException",.type "object"],ns:=n,qualname:=x,hasDict:=true,slotNames:=[],subclasses:=[],abstract:=false,collection:=none,hasDel:=false },#[some (.ref a),none,some (.str x c),some (.str x d),some (.builtin "ValueError.__new__"),some (.bool true)]⟩
def hFn (i:Nat) (x:Str) (m:Value) (c:Nat):Obj:=⟨.type "function",none,.func { name:=x,qualname:=x,params:=defArgs (top i),body:=.stmts (defBody (top i)),scope:=defScope (top i),globals:=3,closure:=[],defaults:=.none,kwdefaults:=.none,pyModule:=m,code:=.ref c },#[]⟩
def hqs (v:List Str) (a:Nat):List Value:=(v.zipIdx a).map λy=>.str y.1 y.2
structure hDR where
 (i:Nat) (x:Str) (a:Nat) (L n:Int) (r:Nat) (v:List Str) (m:Value)
def hDR.c (t:hDR):Nat:=if t.v.isEmpty then t.r+3 else t.r+5
def hDR.co (t:hDR):Obj:=if t.v.isEmpty then hqD t.x t.a t.L t.n t.r else hqC t.x t.a t.L t.n t.r (t.a+3+t.v.length)
def hDR.o (t:hDR):List Obj:=hqU []::hqN::((if t.v.isEmpty then [] else [hqU (hqs t.v (t.a+3)),hqU []])++[hFz t.i t.x,t.co,hFn t.i t.x t.m t.c])
def hDR.e (P:Params) (t:hDR):DictEntry:=hqR P t.x (t.a+5+t.v.length) (t.c+1)
def hDR.p (t:hDR):List Value:=[.int t.L 0,.int 0 0,.ref t.c]
def hDR.k (t:hDR):List (Addr×Obj):=[(t.c,t.co),(t.c+1,hFn t.i t.x t.m t.c)]
def hDR.ad (t:hDR):List Addr:=[t.c,t.c+1]
def hT0f:List hDR:=[⟨7,"has_only",231,10,2,40,["text","signs"],hqv3⟩,⟨8,"is_word",239,12,1,47,["thing"],hqv3⟩,⟨9,"kind_of",246,14,1,54,["word"],hqv3⟩,⟨10,"words_of",253,20,1,61,["line"],hqv3⟩,⟨11,"word_key",260,22,1,68,["word"],hqv3⟩]
def hT1f:List hDR:=[⟨14,"is_hole",273,26,1,76,["part"],hqv0⟩,⟨15,"part_takes",280,28,2,83,["part","word"],hqv0⟩,⟨16,"all_taken",288,34,2,90,["parts","words","part","word"],hqv0⟩,⟨17,"fits",298,41,2,97,["pattern","line"],hqv0⟩,⟨18,"kind_of_hole_around",306,43,1,104,["part","kind"],hqv0⟩,⟨19,"joined_part",314,48,1,111,[],hqv0⟩,⟨20,"joined",320,55,1,116,[],hqv0⟩,⟨21,"part_key",326,62,1,121,["part","length","text"],hqv0⟩,⟨22,"pattern_key",335,67,1,128,[],hqv0⟩,⟨23,"ordered",341,69,1,133,[],hqv0⟩]
def hT2f:List hDR:=[⟨26,"grouped",352,73,2,139,["rows","keys","groups","row","key"],hqv1⟩,⟨27,"words_at",363,78,2,146,[],hqv1⟩,⟨28,"many_unlike_at",369,80,2,151,["group","place"],hqv1⟩,⟨29,"is_fit_to_part_at",377,82,3,158,[],hqv1⟩]
def hT3f:List hDR:=[⟨30,"place_to_part_at",383,87,2,163,[],hqv1⟩,⟨31,"parted",389,90,2,168,(.replicate 5 ""),hqv1⟩,⟨32,"pattern_of_group",400,98,1,175,[],hqv1⟩]
def hT4f:List hDR:=[⟨35,"looseness_of_part",414,107,1,186,(.replicate 1 ""),hqv5⟩,⟨36,"looseness",421,111,1,193,[],hqv5⟩,⟨37,"is_news",427,113,3,198,[],hqv5⟩]
def hT5f:List hDR:=[⟨40,"_law_deck",441,118,2,209,(.replicate 2 ""),hqv2⟩,⟨41,"_law_pick",449,122,2,216,(.replicate 4 ""),hqv2⟩,⟨42,"_law_kind",459,133,1,223,[],hqv2⟩,⟨43,"_law_word",465,138,1,228,[],hqv2⟩,⟨44,"_law_line",471,148,2,233,[],hqv2⟩,⟨45,"_law_lines",477,150,2,238,[],hqv2⟩]
def hT6f:List hDR:=[⟨47,"_law_sieve",495,173,1,250,(.replicate 1 ""),hqv2⟩,⟨48,"_law_names",502,175,2,257,(.replicate 11 ""),hqv2⟩,⟨49,"_law_renamed",519,189,2,264,[],hqv2⟩,⟨50,"law",525,191,1,269,[],hqv2⟩]
def hqg0 (P:Params):List DictEntry:=[hEn P "__doc__" 166 (.none),hEn P "__package__" 167 (.none),hEn P "__loader__" 168 (.builtin "__main__.__loader__#opaque"),hEn P "__spec__" 169 (.none),hqR P "__annotations__" 170 6,hqR P "__builtins__" 171 4,hEn P "__file__" 173 (.str "/claim/cut.py" 172),hEn P "__cached__" 174 (.none),hqR P "GatherError" 206 24,hqR P "NoJoin" 222 37]
def hqg1 (P:Params):List DictEntry:=hqg0 P++([hEn P "FIGURES" 226 (.str "0123456789" 225),hEn P "SMALL_LETTERS" 228 (.str "abcdefghijklmnopqrstuvwxyz" 227),hEn P "WORD_SIGNS" 230 (.str "!\"#$&'()*+,-./0123456789:;<=>?@ABCDEFGHIJKLMNOPQRSTUVWXYZ[\\]^_`abcdefghijklmnopqrstuvwxyz{|}~" 229)]++hT0f.map (hDR.e P)++[hqR P "HOLE_KINDS" 272 75]++hT1f.map (hDR.e P)++[hqR P "PLAIN_SIEVE" 351 138]++hT2f.map (hDR.e P))
def hqg2 (P:Params):List DictEntry:=hqg1 P++(hT3f.map (hDR.e P)++[hqR P "gathered" 411 185]++hT4f.map (hDR.e P)++[hqR P "news" 438 208]++hT5f.map (hDR.e P)++[hqR P "_law_pattern" 494 249]++hT6f.map (hDR.e P))
def hqp0:List Value:=[.int 2 0,.int 0 0,.ref 20,.int 4 0,.int 0 0,.ref 33]
def hqp1:List Value:=hqp0++(hT0f.flatMap hDR.p++hT1f.flatMap hDR.p++hT2f.flatMap hDR.p)
def hV:Program:={ PySem.Challenge.pw_loggather_k32_whole_words_renamed with main:={ PySem.Challenge.pw_loggather_k32_whole_words_renamed.main with body:=[1,2,4,5,6,7,8,9,10,11,13,14,15,16,17,18,19,20,21,22,23,25,26,27,28,29,30,31,32,35,36,37,40,41,42,43,44,45,46,47,48,49,50].map top } }
def hK (P:Params):PySem.W.Frag:=([(4,⟨.type "module",some 0,.plain,#[]⟩),(3,⟨.type "dict",none,.dict (hEn P "__name__" 165 hqv2::hqg2 P).toArray 54,#[]⟩)]++hT0f.flatMap hDR.k++[(75,hqU [.str "number" 269,.str "name" 270,.str "any" 271])]++hT1f.flatMap hDR.k++[(138,hqU [.int 3 349,.int 2 350])]++hT2f.flatMap hDR.k++hT3f.flatMap hDR.k++[(180,hqU [.ref 138]),(184,hqD "gathered" 406 100 2 181),(185,hFd 33 "gathered" hqv1 184 180)]++hT4f.flatMap hDR.k++[(203,hqU [.ref 138]),(207,hqD "news" 433 115 2 204),(208,hFd 38 "news" hqv5 207 203)]++hT5f.flatMap hDR.k++hT6f.flatMap hDR.k)
def hLo:List Str:=[("gathered" : Str),("news" : Str)]
def hH:PySem.W.Hook:=PySem.W.kmHook hK ([4,3]++hT0f.flatMap hDR.ad++[75]++hT1f.flatMap hDR.ad++[138]++hT2f.flatMap hDR.ad++hT3f.flatMap hDR.ad++[180,184,185]++hT4f.flatMap hDR.ad++[203,207,208]++hT5f.flatMap hDR.ad++hT6f.flatMap hDR.ad) (λ_=>by kernel_rfl) [164]
def hX (s:Shared):Bool:=PySem.W.xlAt hV [] s && PySem.W.recOk (PySem.W.RowW.records (PySem.W.OpenRow.toRowW (PySem.W.OpenLaw.row PySem.Challenge.rw_loggather_k32_whole_words_renamed))) s
noncomputable def mS0 (P:Params):List Obj:=[PySem.W.boot_o_0 P,PySem.W.boot_o_1 P,PySem.W.boot_o_2 P]
noncomputable def mS4 (P:Params):List Obj:=[PySem.W.boot_o_4 P,PySem.W.boot_o_5 P,PySem.W.boot_o_6 P,PySem.W.boot_o_7 P,PySem.W.boot_o_8 P,PySem.W.boot_o_9 P,PySem.W.boot_o_10 P,hqU []]
noncomputable def mS13 (P:Params):List Obj:=[hqB "<module>" 182 1 11,⟨.type "frame",none,.plain,#[some (.ref 13),some (.ref 3),some (.ref 3),none,some (.str "__main__" 164),none,some (.ref 0)]⟩,hqU [.type "ValueError"],⟨.type "builtin_function_or_method",none,.fields #[.builtin "type.__prepare__",.type "type"],#[]⟩,⟨.type "dict",none,.dict #[hEn P "__module__" 196 hqv4,hEn P "__qualname__" 198 (.str "GatherError" 197),hEn P "__firstlineno__" 200 (.int 2 199),hqR P "__static_attributes__" 201 22] 4,#[]⟩,hqU [],hqN,hqB "GatherError" 191 2 18,hqW 20 17 hqv4,hqU [],⟨.type "dict",none,.dict #[hEn P "__module__" 196 hqv4,hEn P "__firstlineno__" 200 (.int 2 199),hqR P "__static_attributes__" 201 22,hqR P "__weakref__" 203 25,hEn P "__doc__" 204 (.none)] 3,#[]⟩,⟨.type "type",none,.cls { name:= "GatherError",bases:=[.type "ValueError"],mro:=[.ref 24,.type "ValueError",.type "Exception",.type "BaseException",.type "object"],ns:=23,qualname:= "GatherError",hasDict:=true,slotNames:=[],subclasses:=[.ref 37],abstract:=false,collection:=none,hasDel:=false },#[some (.ref 15),none,some (.str "GatherError" 189),some (.str "GatherError" 197),some (.builtin "ValueError.__new__"),some (.bool true)]⟩,⟨.type "getset_descriptor",none,.fields #[.str "__weakref__" 202,.ref 24,.builtin "ExceptionGroup.__weakref__",.none],#[]⟩,hqS 24,hqI "object.__init_subclass__" 24,hqU [.ref 24],⟨.type "builtin_function_or_method",none,.fields #[.builtin "type.__prepare__",.type "type"],#[]⟩,⟨.type "dict",none,.dict #[hEn P "__module__" 214 hqv4,hEn P "__qualname__" 216 (.str "NoJoin" 215),hEn P "__firstlineno__" 218 (.int 4 217),hqR P "__static_attributes__" 219 35] 4,#[]⟩,hqU [],hqN,hqB "NoJoin" 209 4 31,hqW 33 30 hqv4,hqU [],⟨.type "dict",none,.dict #[hEn P "__module__" 214 hqv4,hEn P "__firstlineno__" 218 (.int 4 217),hqR P "__static_attributes__" 219 35,hEn P "__doc__" 220 (.none)] 2,#[]⟩,hqE "NoJoin" 24 37 36 28 207 215,hqS 37,hqI "object.__init_subclass__" 37]
noncomputable def mS40 (P:Params):List Obj:=(hT0f.flatMap hDR.o++[hqU [.str "number" 269,.str "name" 270,.str "any" 271]]++hT1f.flatMap hDR.o++[hqU [.int 3 349,.int 2 350]]++hT2f.flatMap hDR.o)
noncomputable def mH0 (P:Params):Heap:=⟨(mS0 P++(([⟨.type "dict",none,.dict (hEn P "__name__" 165 hqv4::hqg0 P).toArray 11,#[]⟩]:List Obj)++(mS4 P++(([⟨.none,none,.fields hqp0.toArray,#[]⟩]:List Obj)++(mS13 P))))).toArray,(PySem.W.boot_heap P).life⟩
noncomputable def mH1 (P:Params):Heap:=⟨(mS0 P++(([⟨.type "dict",none,.dict (hEn P "__name__" 165 hqv1::hqg1 P).toArray 35,#[]⟩]:List Obj)++(mS4 P++(([⟨.none,none,.fields hqp1.toArray,#[]⟩]:List Obj)++(mS13 P++(mS40 P)))))).toArray,(PySem.W.boot_heap P).life⟩
def mB:List Stmt:=PySem.W.behindTheImports PySem.Challenge.pw_loggather_k32_whole_words_renamed
def mEnv:Env:={ scope:=PySem.Challenge.pw_loggather_k32_whole_words_renamed.main.scope,locals:=mainNs,globals:=mainNs,cells:=[],code:=.ref 13,frame:=some 14 }
def mC:Code:=.body mB mEnv
theorem mSz (w:World):((PySem.W.boot_heap w.params).isNs mainGlobals,(PySem.W.boot_heap w.params).objs.size,(PySem.W.boot_heap w.params).nsMap mainGlobals "__annotations__")=(true,11,some (.ref 6)):=by kernel_rfl
theorem mR0 (w:World) (os:OsState):(PySem.W.topGo treeTable PySem.Challenge.pw_loggather_k32_whole_words_renamed w 11 (some (.ref 6)) 12 ⟨PySem.W.boot_heap w.params,Array.mk [],PySem.W.boot_drawn,PySem.W.boot_toks,os⟩ (PySem.W.topStub PySem.Challenge.pw_loggather_k32_whole_words_renamed)).bind (λx=>(PySem.W.segRun treeTable PySem.Challenge.pw_loggather_k32_whole_words_renamed w 11 (some (.ref 6)) 1 1 x.1 (PySem.W.blockOf mB mEnv mC ⟨0,0,0,0⟩ [PySem.W.topFrame ⟨0,0,0,0⟩])).bind λy=>(PySem.W.segRun treeTable PySem.Challenge.pw_loggather_k32_whole_words_renamed w 11 (some (.ref 6)) 1 409 y.2.1 (PySem.W.piecesOf (mB.take 3) mEnv mC y.2.2.2 [PySem.W.topFrame ⟨0,0,0,0⟩])).map λz=>(x.2,y.1,y.2.2.1,z))=some (⟨denote treeTable mC,mC,⟨0,0,0,0⟩,[PySem.W.topFrame ⟨0,0,0,0⟩]⟩,.next,mC,(.next,⟨mH0 w.params,Array.mk [],⟨0,0,0,0⟩,223,os⟩,mC,⟨4,0,5,8⟩)):=by kernel_rfl
theorem mR1 (w:World) (os:OsState):PySem.W.segRun treeTable PySem.Challenge.pw_loggather_k32_whole_words_renamed w 11 (some (.ref 6)) 1 627 ⟨mH0 w.params,Array.mk [],⟨0,0,0,0⟩,223,os⟩ (PySem.W.piecesOf ((mB.drop 3).take 27) mEnv mC ⟨4,0,5,8⟩ [PySem.W.topFrame ⟨0,0,0,0⟩])=some (.next,⟨mH1 w.params,Array.mk [],⟨0,0,0,0⟩,383,os⟩,mC,⟨82,0,86,94⟩):=by kernel_rfl
theorem mZ (w:World) (os:OsState):(PySem.W.segRun treeTable PySem.Challenge.pw_loggather_k32_whole_words_renamed w 11 (some (.ref 6)) 1 563 ⟨mH1 w.params,Array.mk [],⟨0,0,0,0⟩,383,os⟩ (PySem.W.piecesOf (mB.drop 30) mEnv mC ⟨82,0,86,94⟩ [PySem.W.topFrame ⟨0,0,0,0⟩])).bind (λz=>(PySem.W.topRun treeTable PySem.Challenge.pw_loggather_k32_whole_words_renamed w 11 (some (.ref 6)) 2 z.2.1 ⟨PySem.W.doneF .next,mC,z.2.2.2,[PySem.W.topFrame ⟨0,0,0,0⟩]⟩).map λr=>(z.1,z.2.2.1,(PySem.W.staticsOk (importedModules PySem.Challenge.pw_loggather_k32_whole_words_renamed.main.body) (PySem.W.boot_heap w.params) r.heap && PySem.W.namesBound PySem.Challenge.pw_loggather_k32_whole_words_renamed r.heap && PySem.W.gensDone r && PySem.W.laidKept (PySem.W.boot_heap w.params) r.heap),PySem.W.openSeen hV hLo (importedModules PySem.Challenge.pw_loggather_k32_whole_words_renamed.main.body) hX true r,hH.obs r))=some (.next,mC,true,PySem.W.openGood hV hLo,hH.val w):=by kernel_rfl
theorem mT1 (w:World) (os:OsState):L2.TailO PySem.Challenge.pw_loggather_k32_whole_words_renamed hV hLo hX hH.obs hH.val PySem.W.boot_heap 11 (some (.ref 6)) mEnv mC ⟨0,0,0,0⟩ (627+(563+2)) (mB.drop 3) ⟨4,0,5,8⟩ w ⟨mH0 w.params,Array.mk [],⟨0,0,0,0⟩,223,os⟩:=L2.tail_cut (mR1 w os) (L2.cut_eq mB 3 27) (L2.tail_end (mZ w os))
theorem hL:PySem.W.LeftO PySem.Challenge.pw_loggather_k32_whole_words_renamed hV hLo hX hH.obs hH.val 3318:=L2.left_cut (c:=mC) (env:=mEnv) (b:=mB) (n2:=627+(563+2)) rfl (List.take_append_drop 3 mB) (PySem.W.boot_open (by kernel_rfl) (by decide) (λs=>by kernel_rfl)) mSz mR0 (λw os=>mT1 w os) (by decide)
end K32
namespace L2
open PySem PySem.Spec PyProof.Rows
abbrev Key:=Sum Int Str
def keyIs:Key->Value->Bool
 | .inl k,v=>Value.isInt k v
 | .inr x,v=>Value.isStrOf x v
def keyH (w:World):Key->Int
 | .inl k=>hashInt k
 | .inr x=>hashStr w x
theorem keyIs_shape:∀ {k:Key}{v:Value},keyIs k v=true->(∃ i t,k=Sum.inl i/\v=Value.int i t)\/(∃ x t,k=Sum.inr x/\v=Value.str x t)
 | .inl i,v,h=>by
  obtain ⟨t,e⟩:=Value.isInt_shape (k:=i) (v:=v) h;exact .inl ⟨i,t,rfl,e⟩
 | .inr x,v,h=>by
  obtain ⟨t,e⟩:=Value.isStrOf_shape (x:=x) (v:=v) h;exact .inr ⟨x,t,rfl,e⟩
theorem keyIs_int (i:Int) (t:Tok):keyIs (.inl i) (.int i t)=true:=by simp [keyIs,Value.isInt]
theorem keyIs_str (x:Str) (t:Tok):keyIs (.inr x) (.str x t)=true:=by simp [keyIs,Value.isStrOf]
theorem key_ll (a b:Int):decide ((Sum.inl a:Key)=Sum.inl b)=(a == b):=by
 by_cases e:a=b
 ·subst e;simp
 ·have h:¬ (Sum.inl a:Key)=Sum.inl b:=λq=>e (Sum.inl.inj q);rw [decide_eq_false h];exact (beq_eq_false_iff_ne.mpr e).symm
theorem key_rr (a b:Str):decide ((Sum.inr a:Key)=Sum.inr b)=decide (a=b):=by
 by_cases e:a=b
 ·subst e;simp
 ·have h:¬ (Sum.inr a:Key)=Sum.inr b:=λq=>e (Sum.inr.inj q);rw [decide_eq_false h,decide_eq_false e]
theorem key_lr (a:Int) (b:Str):decide ((Sum.inl a:Key)=Sum.inr b)=false:=decide_eq_false (λq=>nomatch q)
theorem key_rl (a:Str) (b:Int):decide ((Sum.inr a:Key)=Sum.inl b)=false:=decide_eq_false (λq=>nomatch q)
def mixKind (prog:Program) (w:World):PySem.KeyKind prog w Key where
 is:=keyIs
 hash:=keyH w
 inj:=λv a b ha hb=>by
  rcases keyIs_shape ha with ⟨i,t,rfl,rfl⟩ | ⟨x,t,rfl,rfl⟩
  ·rcases keyIs_shape hb with ⟨j,u,rfl,e⟩ | ⟨y,u,rfl,e⟩
   ·injection e with e1 _;rw [e1]
   ·exact nomatch e
  ·rcases keyIs_shape hb with ⟨j,u,rfl,e⟩ | ⟨y,u,rfl,e⟩
   ·exact nomatch e
   ·injection e with e1 _;rw [e1]
 byValue:=λk v h=>by
  rcases keyIs_shape h with ⟨i,t,rfl,rfl⟩ | ⟨x,t,rfl,rfl⟩ <;> rfl
 pyHash:=λhv h=>by
  rcases keyIs_shape hv with ⟨i,t,rfl,rfl⟩ | ⟨x,t,rfl,rfl⟩
  ·exact wpAny_pyHash_int h
  ·exact wpAny_pyHash_str h
 eqBool:=λhu hv h=>by
  rcases keyIs_shape hu with ⟨i,t,rfl,rfl⟩ | ⟨x,t,rfl,rfl⟩
  ·rcases keyIs_shape hv with ⟨j,u,rfl,rfl⟩ | ⟨y,u,rfl,rfl⟩
   ·rw [key_ll] at h;exact wpAny_eqBool_int h
   ·rw [key_lr] at h;exact SeqAt.EqAt.int_str i t y u _ _ _ _ h
  ·rcases keyIs_shape hv with ⟨j,u,rfl,rfl⟩ | ⟨y,u,rfl,rfl⟩
   ·rw [key_rl] at h;exact SeqAt.EqAt.str_int x t j u _ _ _ _ h
   ·rw [key_rr] at h;exact wpAny_eqBool_str h
 «strs»:=λk x t v h=>by
  rcases keyIs_shape h with ⟨i,u,rfl,e⟩ | ⟨y,u,rfl,e⟩
  ·exact nomatch e
  ·injection e with e1 _;subst e1;cases v <;> rfl
theorem mixKind_int (prog:Program) (w:World) (i:Int) (t:Tok):(mixKind prog w).is (.inl i) (.int i t)=true:=keyIs_int i t
theorem mixKind_str (prog:Program) (w:World) (x:Str) (t:Tok):(mixKind prog w).is (.inr x) (.str x t)=true:=keyIs_str x t
end L2
namespace L2
open PySem PySem.Spec PyProof.Rows
inductive V where
 | non | bl (b:Bool) | int (i:Int) | str (x:Str) | byt (b:Array UInt8) | flt (b:UInt64) | ref (a:Addr) | ty (n:String)
 deriving DecidableEq
def RelV:V->Value->Prop
 | .non,u=>u=Value.none
 | .bl b,u=>u=Value.bool b
 | .int i,u=>∃ t,u=Value.int i t
 | .str x,u=>∃ t,u=Value.str x t
 | .byt b,u=>∃ t,u=Value.bytes b t
 | .flt b,u=>∃ t,u=Value.float b t
 | .ref a,u=>u=Value.ref a
 | .ty n,u=>u=Value.type n
abbrev Vals:List V->List Value->Prop:=Paired RelV
theorem Vals.length {xs:List V}{us:List Value} (r:Vals xs us):xs.length=us.length:=Paired.length r
theorem Vals.get:∀ {xs:List V}{us:List Value}{i:Nat}{x:V},Vals xs us->xs[i]? = some x->∃ u,us[i]? = some u/\RelV x u
 | _,_,_,_,.nil,e=>by simp at e
 | _,_,0,_,.cons r _,e=>by simp at e;subst e;exact ⟨_,rfl,r⟩
 | _,_,i+1,x,.cons _ t,e=>by
  obtain ⟨u,h1,h2⟩:=Vals.get (i:=i) (x:=x) t (by simpa using e);exact ⟨u,by simpa using h1,h2⟩
theorem Vals.set {x:V}{u:Value} (r:RelV x u):∀ {xs:List V}{us:List Value} (i:Nat),Vals xs us->Vals (xs.set i x) (us.set i u)
 | _,_,_,.nil=>.nil
 | _,_,0,.cons _ t=>.cons r t
 | _,_,i+1,.cons q t=>.cons q (Vals.set r i t)
theorem Vals.append:∀ {xs ys:List V}{us ws:List Value},Vals xs us->Vals ys ws->Vals (xs++ys) (us++ws)
 | _,_,_,_,.nil,s=>s
 | _,_,_,_,.cons r t,s=>.cons r (Vals.append t s)
theorem Vals.take:∀ {xs:List V}{us:List Value} (n:Nat),Vals xs us->Vals (xs.take n) (us.take n)
 | _,_,0,_=>.nil
 | _,_,_+1,.nil=>.nil
 | _,_,n+1,.cons r t=>.cons r (Vals.take n t)
theorem Vals.drop:∀ {xs:List V}{us:List Value} (n:Nat),Vals xs us->Vals (xs.drop n) (us.drop n)
 | _,_,0,r=>r
 | _,_,_+1,.nil=>.nil
 | _,_,n+1,.cons _ t=>Vals.drop n t
theorem Vals.none_of:∀ {xs:List V}{us:List Value}{i:Nat},Vals xs us->xs[i]? = none->us[i]? = none:=λ{xs us i} r e=>by
 have h1:=r.length;have h2:=List.getElem?_eq_none_iff.mp e;exact List.getElem?_eq_none_iff.mpr (by lia)
def RelO:Option V->Option Value->Prop
 | some v,some u=>RelV v u
 | none,none=>True
 | _,_=>False
def KV {κ:Type}:List (κ×V)->List (κ×Value)->Prop:=Paired λ(p:κ×V) (q:κ×Value)=>p.1=q.1/\RelV p.2 q.2
def kV:Key->V
 | .inl i=>.int i
 | .inr x=>.str x
inductive HO where
 | lst (xs:List V)
 | tup (xs:List V)
 | dK (kvs:List (Key×V)) | dT (kvs:List (List Key×V))
 | set (S:Int->Bool) (n:Nat)
 | ins (C dx:Addr) (fs:List (Str×V))
 | own (x:Addr)
 | xd (fs:List (Str×V))
 | met (f x:Addr)
 | rng (lo hi:Int)
 | frz (o:Obj) (u:HO)
 | tbl (ps:Array Value)
 | ext (φ:Heap->Prop)
abbrev Hp:=Addr->Option HO
def upd (H:Hp) (a:Addr) (o:HO):Hp:=λb=>if b=a then some o else H b
theorem upd_same {H:Hp}{a:Addr}{o:HO}:upd H a o a=some o:=by unfold upd;rw [if_pos rfl]
theorem upd_ne {H:Hp}{a b:Addr}{o:HO} (h:b≠a):upd H a o b=H b:=by unfold upd;rw [if_neg h]
theorem ne_of {H:Hp}{a b:Addr}{o u:HO} (h:H a=some o) (h':H b=some u) (d:o≠u):a≠b:=by
 intro e;subst e;rw [h] at h';exact d (Option.some.inj h')
theorem ne_of_none {H:Hp}{a b:Addr}{o:HO} (h:H a=some o) (h':H b=none):a≠b:=by
 intro e;subst e;rw [h] at h';cases h'
section
variable (P:Program) (w:World)
def ObjOk (H:Hp) (h:Heap) (a:Addr):HO->Prop
 | .lst xs=>xs.length<=sizeLine/\∃ (its:List Value) (n:Nat),Vals xs its/\h.get? a=some { cls:=.type "list",data:=.seq its.toArray n }
 | .tup xs=>xs.length<=sizeLine/\∃ its:List Value,Vals xs its/\IsTup h a its.toArray
 | .dK kvs=>kvs.length<=sizeLine/\(a == sysModules)=false/\∃ vs,KV kvs vs/\h.DictOf (mixKind P w) a vs
 | .dT kvs=>kvs.length<=sizeLine/\(a == sysModules)=false/\∃ xs:List (List Key×Addr×Value),
   Paired (λ(p:List Key×V) (q:List Key×Addr×Value)=>p.1=q.1/\H q.2.1=some (.tup (p.1.map kV))/\RelV p.2 q.2.2) kvs xs /\
   ∃ o es ep,h.get? a=some o/\o.ExactDict/\o.data = .dict es ep/\es.toList=xs.map (entryOfKey (tupleKind (mixKind P w)))/\(xs.map (·.1)).Nodup
 | .set S n=>h.SetOf (intKind P w) a S n
 | .ins C dx fs=>H dx=some (.own a)/\fs.length<=1000/\dx≠a/\h.get? a=some (PySem.W.instObj C dx) /\
   ∃ mA,h.Ns1 dx mA/\(∀ f,RelO (fs.lookup f) (mA f))/\PySem.Within mA (fs.map (·.1))
 | .own _=>∃ o,h.get? a=some o
 | .xd fs=>∃ mA,h.Ns1 a mA/\∀ f,RelO (fs.lookup f) (mA f)
 | .rng lo hi=>∃ t u v,h.get? a=some { cls:=.type "range",data:=.fields #[.int lo t,.int hi u,.int 1 v] }
 | .frz o u=>h.get? a=some o/\ObjOk H h a u
 | .tbl ps=>h.get? a=some { cls:=.none,data:=.fields ps }
 | .met f x=>h.get? a=some (PySem.W.methodObj (.ref f) (.ref x))
 | .ext φ=>φ h/\(∃ o,h.get? a=some o)/\∀ h1 h2:Heap,φ h1->(∀ o,h1.get? a=some o->h2.get? a=some o)->φ h2
def HOk (H:Hp) (h:Heap):Prop:=∀ a o,H a=some o->ObjOk P w H h a o
end
section
variable {P:Program}{w:World}{H H':Hp}{h h':Heap}{a:Addr}{o:HO}
theorem ObjOk.lt (x:ObjOk P w H h a o):a<h.objs.size:=by
 cases o with
 | lst xs=>obtain ⟨_,_,_,_,e⟩:=x;exact Heap.lt_size e
 | tup xs=>obtain ⟨_,_,_,p⟩:=x;exact p.lt
 | dK kvs=>obtain ⟨_,_,_,_,o,_,_,e,_⟩:=x;exact Heap.lt_size e
 | dT kvs=>obtain ⟨_,_,_,_,o,_,_,e,_⟩:=x;exact Heap.lt_size e
 | set S n=>obtain ⟨o,_,_,_,e,_⟩:=x;exact Heap.lt_size e
 | ins C dx fs=>obtain ⟨_,_,_,e,_⟩:=x;exact Heap.lt_size e
 | own y=>obtain ⟨_,e⟩:=x;exact Heap.lt_size e
 | xd fs=>obtain ⟨_,⟨_,_,_,e,_⟩,_⟩:=x;exact Heap.lt_size e
 | rng lo hi=>obtain ⟨_,_,_,e⟩:=x;exact Heap.lt_size e
 | frz ob u=>obtain ⟨e,_⟩:=x;exact Heap.lt_size e
 | tbl ps=>exact Heap.lt_size (show h.get? a=some _ from x)
 | met f y=>exact Heap.lt_size (show h.get? a=some _ from x)
 | ext φ=>obtain ⟨_,⟨_,e⟩,_⟩:=x;exact Heap.lt_size e
theorem Paired.mapP {α β:Type}{F G:α->β->Prop}:∀ {l₁:List α}{l₂:List β},Paired F l₁ l₂->(∀ a b,F a b->G a b)->Paired G l₁ l₂
 | _,_,.nil,_=>.nil
 | _,_,.cons r t,f=>.cons (f _ _ r) (Paired.mapP t f)
theorem ObjOk.stay (x:ObjOk P w H h a o) (k:∀ b u,(b=a\/H b=some (.own a))->h.get? b=some u->h'.get? b=some u)
  (ho:∀ b,H b=some (.own a)->H' b=some (.own a)) (ht:∀ b xs,H b=some (.tup xs)->H' b=some (.tup xs)):ObjOk P w H' h' a o:=by
 induction o with
 | lst xs=>obtain ⟨z,its,n,r,e⟩:=x;exact ⟨z,its,n,r,k _ _ (.inl rfl) e⟩
 | tup xs=>obtain ⟨z,its,r,ob,e,c⟩:=x;exact ⟨z,its,r,ob,k _ _ (.inl rfl) e,c⟩
 | dK kvs=>obtain ⟨z,y,vs,r,ob,es,ep,e,c⟩:=x;exact ⟨z,y,vs,r,ob,es,ep,k _ _ (.inl rfl) e,c⟩
 | dT kvs=>
  obtain ⟨z,y,xs,r,ob,es,ep,e,c⟩:=x;exact ⟨z,y,xs,Paired.mapP r λp q z=>⟨z.1,ht _ _ z.2.1,z.2.2⟩,ob,es,ep,k _ _ (.inl rfl) e,c⟩
 | set S n=>obtain ⟨ob,es,ep,t,e,c⟩:=x;exact ⟨ob,es,ep,t,k _ _ (.inl rfl) e,c⟩
 | ins C dx fs=>
  obtain ⟨d,z,ne,e,mA,⟨od,es,ep,e2,c⟩,r⟩:=x;exact ⟨ho _ d,z,ne,k _ _ (.inl rfl) e,mA,⟨od,es,ep,k _ _ (.inr d) e2,c⟩,r⟩
 | own y=>obtain ⟨ob,e⟩:=x;exact ⟨ob,k _ _ (.inl rfl) e⟩
 | xd fs=>obtain ⟨mA,⟨od,es,ep,e,c⟩,r⟩:=x;exact ⟨mA,⟨od,es,ep,k _ _ (.inl rfl) e,c⟩,r⟩
 | rng lo hi=>obtain ⟨t,u,v,e⟩:=x;exact ⟨t,u,v,k _ _ (.inl rfl) e⟩
 | frz ob u ih=>obtain ⟨e,q⟩:=x;exact ⟨k _ _ (.inl rfl) e,ih q⟩
 | tbl ps=>
  have e:=x;show h'.get? a=some { cls:=.none,data:=.fields ps };exact k a _ (.inl rfl) e
 | met f y=>
  have e:=x;show h'.get? a=some (PySem.W.methodObj (.ref f) (.ref y));exact k a _ (.inl rfl) e
 | ext φ=>obtain ⟨p,⟨o,e⟩,st⟩:=x;exact ⟨st _ _ p λo q=>k _ _ (.inl rfl) q,⟨o,k _ _ (.inl rfl) e⟩,st⟩
theorem HOk.lt (x:HOk P w H h) (e:H a=some o):a<h.objs.size:=(x a o e).lt
theorem HOk.fresh (x:HOk P w H h) (e:h.objs.size<=a):H a=none:=by
 cases q:H a with
 | none=>rfl
 | some u=>exact absurd (Nat.lt_of_lt_of_le (x.lt q) e) (Nat.lt_irrefl _)
theorem HOk.kept (x:HOk P w H h) (k:∀ b u,h.get? b=some u->h'.get? b=some u):HOk P w H h':=λa o e=>
 (x a o e).stay (λb u _ q=>k b u q) (λ_ q=>q) λ_ _ q=>q
theorem HOk.laid (x:HOk P w H h) (k:∀ b u,h.get? b=some u->h'.get? b=some u) (hp:h.objs.size<=a) (new:ObjOk P w (upd H a o) h' a o):HOk P w (upd H a o) h':=λb u e=>by
 have hn:=x.fresh hp;by_cases hb:b=a
 ·subst hb;rw [upd_same] at e;cases e;exact new
 ·rw [upd_ne hb] at e;exact (x b u e).stay (λc v _ q=>k c v q) (λc q=>by rw [upd_ne (ne_of_none q hn)];exact q) λc xs q=>by rw [upd_ne (ne_of_none q hn)];exact q
end
def Rd (H:Hp) (a:Addr) (u:HO):Prop:=H a=some u\/∃ o,H a=some (.frz o u)
theorem Rd.of {H:Hp}{a:Addr}{u:HO} (h:H a=some u):Rd H a u:=.inl h
theorem Rd.ok {P:Program}{w:World}{H:Hp}{h:Heap}{a:Addr}{u:HO} (r:Rd H a u) (x:HOk P w H h):ObjOk P w H h a u:=by
 rcases r with r | ⟨o,r⟩
 ·exact x a u r
 ·obtain ⟨_,q⟩:=x a _ r;exact q
def Mut:Option HO->Prop
 | some (.lst _)=>True
 | some (.dK _)=>True
 | some (.dT _)=>True
 | some (.set _ _)=>True
 | some (.ins _ _ _)=>True
 | some (.ext _)=>True
 | _=>False
section
variable {P:Program}{w:World}{H:Hp}{h h':Heap}{x e:Addr}{o':HO}
theorem HOk.write (ok:HOk P w H h) (mu:Mut (H x)) (he:e=x\/H e=some (.own x)) (k:∀ b u,b≠e->h.get? b=some u->h'.get? b=some u) (heo:∃ u,h'.get? e=some u)
  (new:ObjOk P w (upd H x o') h' x o'):HOk P w (upd H x o') h':=λb u q=>by
 have nown:∀ c y,H c=some (.own y)->c≠x:=λc y r z=>by subst z;rw [r] at mu;exact mu
 have ntup:∀ c xs,H c=some (.tup xs)->c≠x:=λc xs r z=>by subst z;rw [r] at mu;exact mu
 by_cases hb:b=x
 ·subst hb;rw [upd_same] at q;cases q;exact new
 ·rw [upd_ne hb] at q;by_cases hbe:b=e
  ·have q':H b=some (.own x):=by
    rcases he with z | z
    ·exact absurd (hbe.trans z) hb
    ·rw [hbe];exact z
   rw [q] at q';cases q';obtain ⟨v,hv⟩:=heo;exact ⟨v,by rw [hbe];exact hv⟩
  ·refine (ok b u q).stay (λc v hc r=>k c v ?_ r) (λc r=>by rw [upd_ne (nown c b r)];exact r) λc xs r=>by rw [upd_ne (ntup c xs r)];exact r
   rcases hc with rfl | hc
   ·exact hbe
   ·rintro rfl;rcases he with z | z
    ·exact nown c b hc z
    ·rw [hc] at z;cases z;exact hb rfl
end
structure Un (fs ex:List Addr) (H H':Hp) (h h':Heap):Prop where
 keep:∀ b o,h.get? b=some o->H b=none->b∉fs->b∉ex->h'.get? b=some o
 slot:∀ b o,h.get? b=some o->H b=none->b∈fs->b∉ex->∃ sl,h'.get? b=some { o with slots:=sl }
 free:∀ b o,h.get? b=some o->H b=none->b∉ex->H' b=none
 there:∀ b o,h.get? b=some o->b∉ex->∃ o',h'.get? b=some o'
 tups:∀ b xs,H b=some (.tup xs)->H' b=some (.tup xs)
 frzs:∀ b o u,H b=some (.frz o u)->H' b=some (.frz o u)
 tbls:∀ b ps,H b=some (.tbl ps)->∃ more,H' b=some (.tbl (ps++more))
section
variable {fs fs' ex ex':List Addr}{H H1 H2:Hp}{h h1 h2 h':Heap}{a x e:Addr}{o:HO}
theorem Un.any (u:Un fs ex H H1 h h1) {b:Addr}{ob:Obj} (q:h.get? b=some ob) (n:H b=none) (hx:b∉ex):∃ sl,h1.get? b=some { ob with slots:=sl }:=by
 by_cases hb:b∈fs
 ·exact u.slot b ob q n hb hx
 ·exact ⟨ob.slots,u.keep b ob q n hb hx⟩
theorem Un.trans (a:Un fs ex H H1 h h1) (b:Un fs ex H1 H2 h1 h2):Un fs ex H H2 h h2 where
 keep:=λc ob q n hc hx=>b.keep c ob (a.keep c ob q n hc hx) (a.free c ob q n hx) hc hx
 slot:=λc ob q n hc hx=>by
  obtain ⟨sl,e1⟩:=a.slot c ob q n hc hx;obtain ⟨sl',e2⟩:=b.slot c _ e1 (a.free c ob q n hx) hc hx;exact ⟨sl',e2⟩
 free:=λc ob q n hx=>by
  obtain ⟨o',e1⟩:=a.there c ob q hx;exact b.free c o' e1 (a.free c ob q n hx) hx
 there:=λc ob q hx=>by
  obtain ⟨o',e1⟩:=a.there c ob q hx;exact b.there c o' e1 hx
 tups:=λc xs q=>b.tups c xs (a.tups c xs q)
 frzs:=λc ob xs q=>b.frzs c ob xs (a.frzs c ob xs q)
 tbls:=λc ps q=>by
  obtain ⟨m1,e1⟩:=a.tbls c ps q;obtain ⟨m2,e2⟩:=b.tbls c _ e1;exact ⟨m1++m2,by rw [e2,Array.append_assoc]⟩
theorem Un.kept (k:∀ b u,h.get? b=some u->h'.get? b=some u):Un fs ex H H h h':=
 ⟨λb ob q _ _ _=>k b ob q,λb ob q _ _ _=>⟨ob.slots,k b ob q⟩,λ_ _ _ n _=>n,λb ob q _=>⟨ob,k b ob q⟩,λ_ _ q=>q,λ_ _ _ q=>q,λ_ ps q=>⟨#[],by rw [q];simp⟩⟩
theorem Un.refl:Un fs ex H H h h:=Un.kept λ_ _ q=>q
theorem Un.laid (k:∀ b u,h.get? b=some u->h'.get? b=some u) (hp:h.objs.size<=a) (hn:H a=none):Un fs ex H (upd H a o) h h' where
 keep:=λb u q _ _ _=>k b u q
 slot:=λb u q _ _ _=>⟨u.slots,k b u q⟩
 free:=λb u q n _=>by rw [upd_ne (Nat.ne_of_lt (Nat.lt_of_lt_of_le (Heap.lt_size q) hp))];exact n
 there:=λb u q _=>⟨u,k b u q⟩
 tups:=λb xs q=>by rw [upd_ne (ne_of_none q hn)];exact q
 frzs:=λb u xs q=>by rw [upd_ne (ne_of_none q hn)];exact q
 tbls:=λb ps q=>⟨#[],by rw [upd_ne (ne_of_none q hn),q];simp⟩
theorem Un.write (mu:Mut (H x)) (he:e=x\/H e=some (.own x)) (k:∀ b u,b≠e->h.get? b=some u->h'.get? b=some u) (heo:∃ u,h'.get? e=some u):Un fs ex H (upd H x o) h h':=by
 have hx:∀ b,H b=none->b≠x:=λb n z=>by subst z;rw [n] at mu;exact mu
 have hb:∀ b,H b=none->b≠e:=λb n z=>by
  subst z;rcases he with r | r
  ·exact hx b n r
  ·rw [n] at r;cases r
 have hm:∀ b u,H b=some u -> ¬ Mut (some u)->b≠x:=λb u q nm z=>by subst z;rw [q] at mu;exact nm mu
 refine ⟨λb u q n _ _=>k b u (hb b n) q,λb u q n _ _=>⟨u.slots,k b u (hb b n) q⟩,λb u q n _=>by rw [upd_ne (hx b n)];exact n,λb u q _=>?_,
  λb xs q=>by rw [upd_ne (hm b _ q λz=>z)];exact q,λb u xs q=>by rw [upd_ne (hm b _ q λz=>z)];exact q,λb ps q=>⟨#[],by rw [upd_ne (hm b _ q λz=>z),q];simp⟩⟩
 by_cases hbe:b=e
 ·subst hbe;exact heo
 ·exact ⟨u,k b u hbe q⟩
end
def trk (h:Heap) (H:Hp):List Addr:=(List.range h.objs.size).filter λa=>(H a).isSome
def hidT (h:Heap) (H:Hp):Heap:=PySem.W.hideAll h (trk h H)
theorem hidT_size (h:Heap) (H:Hp):(hidT h H).objs.size=h.objs.size:=PySem.W.hideAll_size _ _
theorem hidT_get {h:Heap}{H:Hp}{b:Addr}{o:Obj} (e:h.get? b=some o) (n:H b=none):(hidT h H).get? b=some o:=
 PySem.W.hideAll_get _ e λhm=>by
  have q:=(List.mem_filter.mp hm).2;rw [n] at q;simp at q
theorem of_hidT {h:Heap}{H:Hp}{b:Addr}{o:Obj} (e:(hidT h H).get? b=some o):h.get? b=some o/\H b=none:=by
 have e':=PySem.W.of_hideAll (trk h H) e;refine ⟨e',?_⟩;cases q:H b with
 | none=>rfl
 | some x=>
  have hm:b∈trk h H:=List.mem_filter.mpr ⟨List.mem_range.mpr (Heap.lt_size e'),by simp [q]⟩;have z:(hidT h H).get? b=none:=PySem.W.hideAll_none (trk h H) hm;rw [z] at e;cases e
def allNews (g h:Heap) (L:Addr):List (Addr×Obj):=(List.range h.objs.size).filterMap λa=>if a=L\/(g.get? a).isSome=true then none else (h.get? a).map λo=>(a,o)
def rest (g h:Heap) (L d:Addr):List (Addr×Obj):=(allNews g h L).filter λp=>decide (p.1≠d)
end L2
namespace L2
open PySem PySem.Spec PyProof.Rows
structure Mod (K:PySem.W.Frag) (mg:Str->Option Value) (base:Heap):Prop where
 kin:K.In base
 glob:base.Ns mainGlobals mg
 blt:∃ mb,base.Ns builtinsNs mb/\∀ x:Str,x ≠ "__name__" -> mb x=bootBuiltins x
 nolimit:base.NoLimit
structure Cx where
 prog:Program
 w:World
 K:PySem.W.Frag
 mg:Str->Option Value
 base:Heap
 A:Around
 N:List Str
 s₀:Shared
 H₀:Hp
 env:Env
 outer:List Env
 stack:List Env
 ex:List Addr
 fn:Str->Bool
 calm:Bool
 pn:List (Addr×Obj)
 xe:Value->Shared->Prop
def frs (l:List Env):List Addr:=l.filterMap (·.frame)
abbrev Cx.fs (X:Cx):List Addr:=frs X.outer
def Vis (sc:Scope) (x:Str):Prop:=sc.names.lookup x=some .local\/sc.names.lookup x=some .cell\/sc.names.lookup x=some .free
def Loc (sc:Scope) (x:Str):Prop:=sc.names.lookup x=some .local\/sc.names.lookup x=some .cell
def Look (env:Env) (h:Heap) (m:Str->Option Value) (x:Str) (u:Value):Prop:=
 (env.kindOf x=some .local/\m x=some u)\/((env.kindOf x=some .cell\/env.kindOf x=some .free)/\∃ c,env.cells.lookup x=some c/\h.IsCell c (some u))
structure Cx.Ok (X:Cx):Prop where
 mod:Mod X.K X.mg X.base
 kind:X.env.scope.kind = .function
 glob:X.env.globals=mainGlobals
 blt:X.env.builtins=builtinsNs
 above:X.s₀.heap.objs.size<=X.env.locals
 inj:∀ x y c,X.env.cells.lookup x=some c->X.env.cells.lookup y=some c->x=y
 has:∀ x,(X.env.kindOf x=some .cell\/X.env.kindOf x=some .free)->∃ c,X.env.cells.lookup x=some c
 cab:∀ x c,X.fn x=true->X.env.cells.lookup x=some c->X.s₀.heap.objs.size<=c
 hd:X.calm=true->X.A.handled=none
 frames:X.A.frames=some X.stack
 stk:X.stack=X.outer\/(X.stack=X.env::X.outer/\X.env.frame=some X.env.locals)
 exf:∀ b∈X.ex,b≠X.env.locals/\∀ x c,X.env.cells.lookup x=some c->c≠b
 bs:∀ b o,X.base.get? b=some o->X.s₀.heap.get? b=some o/\X.H₀ b=none
 bsz:X.base.objs.size<=X.s₀.heap.objs.size
 noex:∀ b o,X.base.get? b=some o->b∉X.ex
 exfs:∀ b∈X.ex,b∉X.fs
 funs:X.s₀.heap.FunFrames X.base X.outer
 frf:∀ b∈X.fs,X.H₀ b=none
structure Inv (X:Cx) (pins:List (Addr×Obj)) (σ:List (Option V)) (H:Hp) (s:Shared):Prop where
 ok:X.Ok
 os:s.os=X.s₀.os
 bare:AllBare s.gens
 base:Un X.fs X.ex X.H₀ H X.s₀.heap s.heap
 loc:∃ m,s.heap.Ns X.env.locals m/\∀ (i:Nat) (x:Str) (v:V),X.N[i]? = some x->σ[i]? = some (some v)->Vis X.env.scope x->∃ u,RelV v u/\Look X.env s.heap m x u
 cell:∀ x c,X.env.cells.lookup x=some c->∃ v,s.heap.IsCell c v
 free:H X.env.locals=none
 freeC:∀ x c,X.env.cells.lookup x=some c->H c=none
 pin:∀ p∈X.pn++pins,s.heap.get? p.1=some p.2/\H p.1=none/\p.1≠X.env.locals/\p.1∉X.fs/\∀ v,p.2.data ≠ .cell v
 hok:HOk X.prog X.w H s.heap
 len:σ.length=X.N.length
section
variable {X:Cx}{pins:List (Addr×Obj)}{σ:List (Option V)}{H H':Hp}{s:Shared}{h':Heap}
theorem Cx.Ok.nofr (ok:X.Ok) {b:Addr}{o:Obj} (e:X.base.get? b=some o):b∉X.fs:=λhb=>by
 have:=(ok.funs.mem hb).1;rw [e] at this;cases this
theorem Inv.bs (I:Inv X pins σ H s):∀ b o,X.base.get? b=some o->s.heap.get? b=some o/\H b=none:=λb o e=>
 ⟨I.base.keep b o (I.ok.bs b o e).1 (I.ok.bs b o e).2 (I.ok.nofr e) (I.ok.noex b o e),I.base.free b o (I.ok.bs b o e).1 (I.ok.bs b o e).2 (I.ok.noex b o e)⟩
theorem Inv.bk (I:Inv X pins σ H s):∀ b o,X.base.get? b=some o->s.heap.get? b=some o:=λb o e=>(I.bs b o e).1
theorem Inv.mod (I:Inv X pins σ H s):Mod X.K X.mg X.base:=I.ok.mod
theorem Inv.kIn (I:Inv X pins σ H s):X.K.In s.heap:=I.ok.mod.kin.keeps I.bk
theorem Inv.nolimit (I:Inv X pins σ H s):s.heap.NoLimit:=I.ok.mod.nolimit.keeps I.bk
theorem Inv.lt (I:Inv X pins σ H s):X.env.locals<s.heap.objs.size:=let ⟨_,hn,_⟩:=I.loc;hn.lt
theorem Inv.sz (I:Inv X pins σ H s):X.s₀.heap.objs.size<=s.heap.objs.size:=Nat.le_trans I.ok.above (Nat.le_of_lt I.lt)
theorem Inv.nofs (I:Inv X pins σ H s) {a:Addr} (h:s.heap.objs.size<=a):a∉X.fs:=λhb=>by
 obtain ⟨_,o,ho,_⟩:=I.ok.funs.mem hb;exact absurd (Nat.lt_of_lt_of_le (Heap.lt_size ho) (Nat.le_trans I.sz h)) (Nat.lt_irrefl _)
theorem Inv.cne (I:Inv X pins σ H s):∀ x c,X.env.cells.lookup x=some c->c≠X.env.locals:=λx c e z=>by
 obtain ⟨v,o,ho,hd⟩:=I.cell x c e;obtain ⟨m,⟨o',es,ep,ho',hd',_⟩,_⟩:=I.loc;rw [z,ho'] at ho;cases ho;rw [hd'] at hd;cases hd
theorem Inv.funs (I:Inv X pins σ H s):s.heap.FunFrames X.base X.outer:=by
 have all:∀ (l:List Env),(∀ b∈frs l,b∈X.fs)->X.s₀.heap.FunFrames X.base l->s.heap.FunFrames X.base l:=by
  intro l
  induction l with
  | nil=>intro _ _;trivial
  | cons env r ih=>
   intro hs hl;obtain ⟨hk,⟨L,o,hf,hn,ho,hd⟩,hr⟩:=hl;have hL:=hs L (by unfold frs;rw [List.filterMap_cons,hf];exact List.mem_cons_self);obtain ⟨sl,e⟩:=I.base.slot L o ho (I.ok.frf L hL) hL λz=>I.ok.exfs L z hL;exact ⟨hk,⟨L,_,hf,hn,e,hd⟩,ih (λb hb=>hs b (by unfold frs;rw [List.filterMap_cons,hf];exact List.mem_cons_of_mem _ hb)) hr⟩
 exact all X.outer (λ_ hb=>hb) I.ok.funs
theorem Inv.stack (I:Inv X pins σ H s):s.heap.FunFrames X.base X.stack:=by
 rcases I.ok.stk with e | ⟨e,hf⟩
 ·rw [e];exact I.funs
 ·rw [e];obtain ⟨m,hn,_⟩:=I.loc;refine .cons (by rw [I.ok.kind];decide) hf hn ?_ I.funs;exact Heap.get?_none_of_le (Nat.le_trans I.ok.bsz I.ok.above)
theorem Inv.stkSub (I:Inv X pins σ H s):∀ b∈frs X.stack,b∈X.env.locals::X.fs:=λb hb=>by
 rcases I.ok.stk with e | ⟨e,hf⟩
 ·rw [e] at hb;exact List.mem_cons_of_mem _ hb
 ·rw [e] at hb;unfold frs at hb;rw [List.filterMap_cons,hf] at hb;exact hb
theorem Inv.stkFree (I:Inv X pins σ H s):∀ b∈frs X.stack,H b=none:=λb hb=>by
 rcases List.mem_cons.mp (I.stkSub b hb) with e | hb
 ·rw [e];exact I.free
 ·obtain ⟨_,o,ho,_⟩:=I.ok.funs.mem hb;exact I.base.free b o ho (I.ok.frf b hb) λz=>I.ok.exfs b z hb
theorem Inv.step {g':Array GenState}{t':Nat}{d':Drawn}{ch:List Addr} (I:Inv X pins σ H s)
  (hch:∀ b∈ch,(b∈X.ex\/X.s₀.heap.objs.size<=b)/\b≠X.env.locals/\(∀ x c,X.env.cells.lookup x=some c->c≠b)/\∀ p∈X.pn++pins,p.1≠b)
  (keep:∀ b o,b≠X.env.locals->b∉X.fs->b∉ch->s.heap.get? b=some o->H b=none->h'.get? b=some o)
  (slot:∀ b o,b≠X.env.locals->b∈X.fs->b∉ch->s.heap.get? b=some o->H b=none->∃ sl,h'.get? b=some { o with slots:=sl }) (free:∀ b o,b∉ch->s.heap.get? b=some o->H b=none->H' b=none)
  (there:∀ b o,b∉ch->s.heap.get? b=some o->∃ o',h'.get? b=some o')
  (tups:∀ b xs,H b=some (.tup xs)->H' b=some (.tup xs)) (frzs:∀ b o u,H b=some (.frz o u)->H' b=some (.frz o u)) (tbls:∀ b ps,H b=some (.tbl ps)->∃ more,H' b=some (.tbl (ps++more)))
  (ns:∀ m,s.heap.Ns X.env.locals m->h'.Ns X.env.locals m) (hok:HOk X.prog X.w H' h') (hg:AllBare g') :
  Inv X pins σ H' { s with heap:=h',gens:=g',drawn:=d',toks:=t' }:=by
 have neL:∀ b o,X.s₀.heap.get? b=some o->b≠X.env.locals:=λb o e=>Nat.ne_of_lt (Nat.lt_of_lt_of_le (Heap.lt_size e) I.ok.above);have neC:∀ b o,X.s₀.heap.get? b=some o->b∉X.ex->b∉ch:=λb o e hx hb=>by
  rcases (hch b hb).1 with z | z
  ·exact hx z
  ·exact absurd (Nat.lt_of_lt_of_le (Heap.lt_size e) z) (Nat.lt_irrefl _)
 have cellK:∀ x c,X.env.cells.lookup x=some c->∀ v,s.heap.IsCell c v->h'.IsCell c v:=λx c e v ⟨o,ho,hd⟩=>by
  have nch:c∉ch:=λz=>(hch c z).2.2.1 x c e rfl;by_cases hc:c∈X.fs
  ·obtain ⟨sl,q⟩:=slot c o (I.cne x c e) hc nch ho (I.freeC x c e);exact ⟨_,q,hd⟩
  ·exact ⟨o,keep c o (I.cne x c e) hc nch ho (I.freeC x c e),hd⟩
 refine ⟨I.ok,I.os,hg,⟨λb o e n hb hx=>?_,λb o e n hb hx=>?_,λb o e n hx=>?_,λb o e hx=>?_,λb xs e=>tups b xs (I.base.tups b xs e),λb o xs e=>frzs b o xs (I.base.frzs b o xs e),λb ps e=>?_⟩,?_,λx c e=>?_,?_,λx c e=>?_,λp hp=>?_,hok,I.len⟩
 ·exact keep b o (neL b o e) hb (neC b o e hx) (I.base.keep b o e n hb hx) (I.base.free b o e n hx)
 ·obtain ⟨sl,e1⟩:=I.base.slot b o e n hb hx;obtain ⟨sl',e2⟩:=slot b _ (neL b o e) hb (neC b o e hx) e1 (I.base.free b o e n hx);exact ⟨sl',e2⟩
 ·obtain ⟨o',e1⟩:=I.base.there b o e hx;exact free b o' (neC b o e hx) e1 (I.base.free b o e n hx)
 ·obtain ⟨o',e1⟩:=I.base.there b o e hx;exact there b o' (neC b o e hx) e1
 ·obtain ⟨m1,e1⟩:=I.base.tbls b ps e;obtain ⟨m2,e2⟩:=tbls b _ e1;exact ⟨m1++m2,by rw [e2,Array.append_assoc]⟩
 ·obtain ⟨m,hn,hl⟩:=I.loc;refine ⟨m,ns m hn,λi x v e1 e2 e3=>?_⟩;obtain ⟨u,r,l⟩:=hl i x v e1 e2 e3;refine ⟨u,r,?_⟩;rcases l with l | ⟨k,c,e,z⟩
  ·exact .inl l
  ·exact .inr ⟨k,c,e,cellK x c e _ z⟩
 ·obtain ⟨v,z⟩:=I.cell x c e;exact ⟨v,cellK x c e v z⟩
 ·obtain ⟨m,⟨o,_,_,ho,_⟩,_⟩:=I.loc;exact free _ o (λz=>(hch _ z).2.1 rfl) ho I.free
 ·obtain ⟨v,o,ho,hd⟩:=I.cell x c e;exact free c o (λz=>(hch c z).2.2.1 x c e rfl) ho (I.freeC x c e)
 ·obtain ⟨e,n,ne,nf,d⟩:=I.pin p hp;have nch:p.1∉ch:=λz=>(hch p.1 z).2.2.2 p hp rfl;exact ⟨keep p.1 p.2 ne nf nch e n,free p.1 p.2 nch e n,ne,nf,d⟩
theorem Inv.un {t':Nat} (I:Inv X pins σ H s) (u:Un X.fs [] H H' s.heap h') (hok:HOk X.prog X.w H' h'):Inv X pins σ H' { s with heap:=h',toks:=t' }:=by
 obtain ⟨m,⟨o,es,ep,ho,r⟩,_⟩:=id I.loc;obtain ⟨sl,hL⟩:=u.any ho I.free (by simp);exact I.step (g':=s.gens) (d':=s.drawn) (ch:=[]) (λ_ z=>nomatch z) (λb o _ hb _ e n=>u.keep b o e n hb (by simp)) (λb o _ hb _ e n=>u.slot b o e n hb (by simp)) (λb o _ e n=>u.free b o e n (by simp)) (λb o _ e=>u.there b o e (by simp)) u.tups u.frzs u.tbls (λm' hm=>by
  obtain ⟨o',es',ep',ho',r'⟩:=hm;rw [ho] at ho';cases ho';exact ⟨_,es',ep',hL,r'⟩) hok I.bare
theorem Inv.call {g':Array GenState}{t':Nat}{d':Drawn}{ch:List Addr} (I:Inv X pins σ H s) (u:Un (frs X.stack) ch H H' s.heap h') (hok:HOk X.prog X.w H' h') (hg:AllBare g')
  (hch:∀ b∈ch,(b∈X.ex\/X.s₀.heap.objs.size<=b)/\b≠X.env.locals/\(∀ x c,X.env.cells.lookup x=some c->c≠b)/\∀ p∈X.pn++pins,p.1≠b) :
  Inv X pins σ H' { s with heap:=h',gens:=g',drawn:=d',toks:=t' }:=by
 obtain ⟨m,⟨o,es,ep,ho,r⟩,_⟩:=id I.loc;obtain ⟨sl,hL⟩:=u.any ho I.free λz=>(hch _ z).2.1 rfl;exact I.step (ch:=ch) hch (λb o hL hb hc e n=>u.keep b o e n (λz=>(List.mem_cons.mp (I.stkSub b z)).elim hL hb) hc) (λb o _ _ hc e n=>u.any e n hc) (λb o hc e n=>u.free b o e n hc) (λb o hc e=>u.there b o e hc) u.tups u.frzs u.tbls (λm' hm=>by
  obtain ⟨o',es',ep',ho',r'⟩:=hm;rw [ho] at ho';cases ho';exact ⟨_,es',ep',hL,r'⟩) hok hg
theorem Inv.turned {t':Nat}{it:Addr} (I:Inv X pins σ H s) (k:∀ b o,b≠it->s.heap.get? b=some o->h'.get? b=some o) (hn:H it=none) (hL:it≠X.env.locals)
  (h1:it∈X.ex\/X.s₀.heap.objs.size<=it) (h2:∀ x c,X.env.cells.lookup x=some c->c≠it) (h3:∀ p∈X.pn++pins,p.1≠it):Inv X pins σ H { s with heap:=h',toks:=t' }:=by
 have nit:∀ b u,H b=some u->b≠it:=λb u e z=>by rw [z,hn] at e;cases e
 refine I.step (g':=s.gens) (d':=s.drawn) (ch:=[it]) (λb hb=>?_) (λb o _ _ hc e _=>k b o (λz=>hc (by simp [z])) e) (λb o _ _ hc e _=>⟨o.slots,k b o (λz=>hc (by simp [z])) e⟩) (λ_ _ _ _ n=>n)
  (λb o hc e=>⟨o,k b o (λz=>hc (by simp [z])) e⟩) (λ_ _ e=>e) (λ_ _ _ e=>e) (λb ps e=>⟨#[],by rw [e];simp⟩) (λm hm=>?_) (λb u e=>?_) I.bare
 ·have e:b=it:=by simpa using hb
  subst e;exact ⟨h1,hL,h2,h3⟩
 ·obtain ⟨o,es,ep,ho,r⟩:=hm;exact ⟨o,es,ep,k _ o (Ne.symm hL) ho,r⟩
 ·refine (I.hok b u e).stay (λc v hc q=>k c v ?_ q) (λ_ q=>q) λ_ _ q=>q;rcases hc with z | z
  ·rw [z];exact nit b u e
  ·exact nit c _ z
theorem Inv.tok (I:Inv X pins σ H s) (t:Nat):Inv X pins σ H { s with toks:=t }:=I.un (h':=s.heap) (t':=t) Un.refl I.hok
theorem Inv.kept {t':Nat} (I:Inv X pins σ H s) (k:∀ b u,s.heap.get? b=some u->h'.get? b=some u):Inv X pins σ H { s with heap:=h',toks:=t' }:=I.un (Un.kept k) (I.hok.kept k)
theorem Inv.laid {a:Addr}{o:HO}{t':Nat} (I:Inv X pins σ H s) (k:∀ b u,s.heap.get? b=some u->h'.get? b=some u) (hp:s.heap.objs.size<=a) (new:ObjOk X.prog X.w (upd H a o) h' a o) :
  Inv X pins σ (upd H a o) { s with heap:=h',toks:=t' }:=I.un (Un.laid k hp (I.hok.fresh hp)) (I.hok.laid k hp new)
theorem Inv.write {x e:Addr}{o:HO}{t':Nat} (I:Inv X pins σ H s) (mu:Mut (H x)) (he:e=x\/H e=some (.own x)) (k:∀ b u,b≠e->s.heap.get? b=some u->h'.get? b=some u) (heo:∃ u,h'.get? e=some u)
  (new:ObjOk X.prog X.w (upd H x o) h' x o):Inv X pins σ (upd H x o) { s with heap:=h',toks:=t' }:=I.un (Un.write mu he k heo) (I.hok.write mu he k heo new)
theorem Inv.pins_of {pins':List (Addr×Obj)} (I:Inv X pins σ H s) (h:∀ p∈pins',s.heap.get? p.1=some p.2/\H p.1=none/\p.1≠X.env.locals/\p.1∉X.fs/\∀ v,p.2.data ≠ .cell v):Inv X pins' σ H s:=
 ⟨I.ok,I.os,I.bare,I.base,I.loc,I.cell,I.free,I.freeC,λp hp=>(List.mem_append.mp hp).elim (λz=>I.pin p (List.mem_append_left _ z)) (h p),I.hok,I.len⟩
theorem nodup_ix {N:List Str} (hN:N.Nodup) {i j:Nat}{x:Str} (a:N[i]? = some x) (b:N[j]? = some x):i=j:=by
 obtain ⟨h1,e1⟩:=List.getElem?_eq_some_iff.mp a;obtain ⟨h2,e2⟩:=List.getElem?_eq_some_iff.mp b;exact (List.getElem_inj hN).mp (e1.trans e2.symm)
theorem store_ok2 {M:Model}{A:Around}{E:Value->Shared->Prop}{i:Nat}{x:Str}{v:V}{u:Value}{Q:Unit->Shared->Prop} (I:Inv X pins σ H s) (hN:X.N.Nodup) (hi:X.N[i]? = some x) (hx:Loc X.env.scope x) (r:RelV v u)
  (h:∀ s',Inv X pins (σ.set i (some v)) H s'->(∃ a,Heap.SameBut a s.heap s'.heap/\(a=X.env.locals\/X.env.cells.lookup x=some a))->Q () s') (hf:X.fn x=true\/X.env.scope.names.lookup x=some .local:=by first | exact .inl rfl | exact .inr rfl | assumption):wpAny M A (storeName X.env x u) Q E s:=by
 obtain ⟨m,hn,hl⟩:=id I.loc;have hcls:(X.env.scope.kind == .class || (X.env.scope.kind == .module && X.env.locals != X.env.globals))=false:=by rw [I.ok.kind];rfl
 have hiσ:i<σ.length:=by rw [I.len];exact (List.getElem?_eq_some_iff.mp hi).1
 have cne:=I.cne;have tracked:∀ {a:Addr}{h':Heap},(∃ o,s.heap.get? a=some o/\H a=none)->Heap.SameBut a s.heap h'->HOk X.prog X.w H h':=λ{a h'} ha hs b ob e=>by
  obtain ⟨_,_,hfree⟩:=ha;refine (I.hok b ob e).stay (λc w' hc q=>(hs.2 c ?_).trans q) (λ_ q=>q) λ_ _ q=>q;rintro rfl;rcases hc with rfl | hc
  ·rw [hfree] at e;cases e
  ·rw [hfree] at hc;cases hc
 rcases hx with hk | hk
 ·refine wpAny_storeName_local hk hn (λh' hn' hs=>?_) hcls;obtain ⟨oL,_,_,hoL,_⟩:=id hn;refine h _ ⟨I.ok,I.os,I.bare,⟨λb o e n hb hx=>?_,λb o e n hb hx=>?_,I.base.free,λb o e hx=>?_,I.base.tups,I.base.frzs,I.base.tbls⟩,⟨_,hn',λj y v' e1 e2 e3=>?_⟩,λy c e=>?_,I.free,I.freeC,λp hp=>?_,tracked ⟨oL,hoL,I.free⟩ hs,by simpa using I.len⟩ ⟨_,hs,.inl rfl⟩
  ·exact (hs.2 b (Nat.ne_of_lt (Nat.lt_of_lt_of_le (Heap.lt_size e) I.ok.above))).trans (I.base.keep b o e n hb hx)
  ·obtain ⟨sl,e1⟩:=I.base.slot b o e n hb hx;exact ⟨sl,(hs.2 b (Nat.ne_of_lt (Nat.lt_of_lt_of_le (Heap.lt_size e) I.ok.above))).trans e1⟩
  ·obtain ⟨o',e1⟩:=I.base.there b o e hx;exact ⟨o',(hs.2 b (Nat.ne_of_lt (Nat.lt_of_lt_of_le (Heap.lt_size e) I.ok.above))).trans e1⟩
  ·by_cases hj:j=i
   ·subst hj;rw [hi] at e1;cases e1;rw [List.getElem?_set_self hiσ] at e2;cases e2;exact ⟨u,r,.inl ⟨hk,by simp⟩⟩
   ·rw [List.getElem?_set_ne (Ne.symm hj)] at e2;obtain ⟨u',r',q⟩:=hl j y v' e1 e2 e3;refine ⟨u',r',?_⟩;rcases q with ⟨k,e⟩ | ⟨k,c,e,z⟩
    ·refine .inl ⟨k,?_⟩;have:y≠x:=λe=>hj (nodup_ix hN e1 (e ▸ hi));simp [this,e]
    ·exact .inr ⟨k,c,e,z.sameBut hs (cne y c e)⟩
  ·obtain ⟨w',z⟩:=I.cell y c e;exact ⟨w',z.sameBut hs (cne y c e)⟩
  ·obtain ⟨e,n,ne,nf,d⟩:=I.pin p hp;exact ⟨(hs.2 p.1 ne).trans e,n,ne,nf,d⟩
 ·have hfn:X.fn x=true:=by
   rcases hf with z | z
   ·exact z
   ·rw [z] at hk;cases hk
  obtain ⟨c,hc⟩:=I.ok.has x (.inl hk);obtain ⟨w',z⟩:=I.cell x c hc;refine wpAny_storeName_cell I.ok.kind hk hc z (λh' hc' hs=>?_);obtain ⟨oc,hoc,hocd⟩:=id z;refine h { s with heap:=h' } ⟨I.ok,I.os,I.bare,⟨λb o e n hb hx=>?_,λb o e n hb hx=>?_,I.base.free,λb o e hx=>?_,I.base.tups,I.base.frzs,I.base.tbls⟩,⟨m,hn.sameBut hs (Ne.symm (cne x c hc)),λj y v' e1 e2 e3=>?_⟩,λy c' e=>?_,I.free,I.freeC,λp hp=>?_,tracked ⟨oc,hoc,I.freeC x c hc⟩ hs,by simpa using I.len⟩ ⟨c,hs,.inr hc⟩
  ·exact (hs.2 b (Nat.ne_of_lt (Nat.lt_of_lt_of_le (Heap.lt_size e) (I.ok.cab x c hfn hc)))).trans (I.base.keep b o e n hb hx)
  ·obtain ⟨sl,e1⟩:=I.base.slot b o e n hb hx;exact ⟨sl,(hs.2 b (Nat.ne_of_lt (Nat.lt_of_lt_of_le (Heap.lt_size e) (I.ok.cab x c hfn hc)))).trans e1⟩
  ·obtain ⟨o',e1⟩:=I.base.there b o e hx;exact ⟨o',(hs.2 b (Nat.ne_of_lt (Nat.lt_of_lt_of_le (Heap.lt_size e) (I.ok.cab x c hfn hc)))).trans e1⟩
  ·by_cases hj:j=i
   ·subst hj;rw [hi] at e1;cases e1;rw [List.getElem?_set_self hiσ] at e2;cases e2;exact ⟨u,r,.inr ⟨.inl hk,c,hc,hc'⟩⟩
   ·rw [List.getElem?_set_ne (Ne.symm hj)] at e2;obtain ⟨u',r',q⟩:=hl j y v' e1 e2 e3;refine ⟨u',r',?_⟩;rcases q with q | ⟨k,c',e,z'⟩
    ·exact .inl q
    ·refine .inr ⟨k,c',e,z'.sameBut hs ?_⟩;rintro rfl;exact hj (nodup_ix hN e1 (I.ok.inj _ _ _ e hc ▸ hi))
  ·by_cases hcc:c' = c
   ·subst hcc;exact ⟨_,hc'⟩
   ·obtain ⟨w2,z2⟩:=I.cell y c' e;exact ⟨w2,z2.sameBut hs hcc⟩
  ·obtain ⟨e,n,ne,nf,d⟩:=I.pin p hp;refine ⟨(hs.2 p.1 ?_).trans e,n,ne,nf,d⟩;intro q;rw [q,hoc] at e;have q':=Option.some.inj e;exact d w' (by rw [<-q'];exact hocd)
theorem store_ok {M:Model}{A:Around}{E:Value->Shared->Prop}{i:Nat}{x:Str}{v:V}{u:Value}{Q:Unit->Shared->Prop} (I:Inv X pins σ H s) (hN:X.N.Nodup) (hi:X.N[i]? = some x) (hx:Loc X.env.scope x) (r:RelV v u)
  (h:∀ s',Inv X pins (σ.set i (some v)) H s'->Q () s') (hf:X.fn x=true\/X.env.scope.names.lookup x=some .local:=by first | exact .inl rfl | exact .inr rfl | assumption):wpAny M A (storeName X.env x u) Q E s:=
 store_ok2 I hN hi hx r (λs' I' _=>h s' I') hf
theorem Inv.call' {s':Shared}{ch:List Addr} (I:Inv X pins σ H s) (ho:s'.os=s.os) (u:Un (frs X.stack) ch H H' s.heap s'.heap) (hok:HOk X.prog X.w H' s'.heap) (hg:AllBare s'.gens)
  (hch:∀ b∈ch,(b∈X.ex\/X.s₀.heap.objs.size<=b)/\b≠X.env.locals/\(∀ x c,X.env.cells.lookup x=some c->c≠b)/\∀ p∈X.pn++pins,p.1≠b):Inv X pins σ H' s':=by
 obtain ⟨h',g',d',t',o'⟩:=s';have e:=ho;subst e;exact I.call (g':=g') (t':=t') (d':=d') u hok hg hch
end
abbrev XK:=Value->Option Addr->Hp->Prop
abbrev St:=List (Option V)
abbrev VK:=V->Hp->Prop
abbrev TE:=St->Hp->VK->Prop
abbrev TT:=St->Hp->(Bool->Hp->Prop)->Prop
abbrev TA:=St->Hp->(List V->Hp->Prop)->Prop
structure Ends where
 nx:St->Hp->Prop
 rt:VK
 bk:St->Hp->Prop:=λ_ _=>False
 ct:St->Hp->Prop:=λ_ _=>False
abbrev TS:=Ends->St->Hp->Prop
def EP (X:Cx) (pins:List (Addr×Obj)) (σ:St) (Q:VK) (u:Value) (s':Shared):Prop:=∃ v H',Inv X pins σ H' s'/\RelV v u/\Q v H'
def TP (X:Cx) (pins:List (Addr×Obj)) (σ:St) (Q:Bool->Hp->Prop) (b:Bool) (s':Shared):Prop:=∃ H',Inv X pins σ H' s'/\Q b H'
def AP (X:Cx) (pins:List (Addr×Obj)) (σ:St) (Q:List V->Hp->Prop) (us:List Value) (s':Shared):Prop:=∃ vs H',Inv X pins σ H' s'/\Vals vs us/\Q vs H'
def SP (X:Cx) (pins:List (Addr×Obj)) (D:Ends) (f:Flow) (s':Shared):Prop:=
 match f with
 | .next=>∃ σ' H',Inv X pins σ' H' s'/\D.nx σ' H'
 | .brk=>∃ σ' H',Inv X pins σ' H' s'/\D.bk σ' H'
 | .cont=>∃ σ' H',Inv X pins σ' H' s'/\D.ct σ' H'
 | .ret u=>∃ v σ' H',Inv X pins σ' H' s'/\RelV v u/\D.rt v H'
def PE (X:Cx) (e:Expr) (t:TE):Prop:=
 ∀ (pins:List (Addr×Obj)) (s:Shared) (σ:St) (H:Hp) (Q:VK),Inv X pins σ H s->t σ H Q->wpAny (model X.prog X.w) X.A (eval e X.env) (EP X pins σ Q) X.xe s
def PT (X:Cx) (e:Expr) (t:TT):Prop:=
 ∀ (pins:List (Addr×Obj)) (s:Shared) (σ:St) (H:Hp) (Q:Bool->Hp->Prop),Inv X pins σ H s->t σ H Q->wpAny (model X.prog X.w) X.A (isTrue e X.env (eval e X.env)) (TP X pins σ Q) X.xe s
def PW (X:Cx) (e:Expr) (t:TT):Prop:=
 ∀ (whole:Sem Value) (pins:List (Addr×Obj)) (s:Shared) (σ:St) (H:Hp) (Q:Bool->Hp->Prop),Inv X pins σ H s->t σ H Q->wpAny (model X.prog X.w) X.A (isTrue e X.env whole) (TP X pins σ Q) X.xe s
theorem PW.pt {X:Cx}{e:Expr}{t:TT} (h:PW X e t):PT X e t:=h _
def PA (X:Cx) (es:List Expr) (t:TA):Prop:=
 ∀ (pos:Pos) (pins:List (Addr×Obj)) (s:Shared) (σ:St) (H:Hp) (Q:List V->Hp->Prop),Inv X pins σ H s->t σ H Q->wpAny (model X.prog X.w) X.A (spliced (backTo pos (starEach es X.env))) (AP X pins σ Q) X.xe s
def PS (X:Cx) (st:Stmt) (t:TS):Prop:=
 ∀ (pins:List (Addr×Obj)) (s:Shared) (σ:St) (H:Hp) (D:Ends),Inv X pins σ H s->t D σ H->wpAny (model X.prog X.w) X.A (exec st X.env) (SP X pins D) X.xe s
def PSs (X:Cx) (st:List Stmt) (t:TS):Prop:=
 ∀ (pins:List (Addr×Obj)) (s:Shared) (σ:St) (H:Hp) (D:Ends),Inv X pins σ H s->t D σ H->wpAny (model X.prog X.w) X.A (execs st X.env) (SP X pins D) X.xe s
theorem thn {α:Type}{t:Sem α}{Q Q':α->Shared->Prop}{M:Model}{A:Around}{E:Value->Shared->Prop}{s:Shared} (h:wpAny M A t Q E s) (hQ:∀ a s,Q a s->Q' a s):wpAny M A t Q' E s:=wpAny_mono h hQ λ_ _ x=>x
end L2
namespace L2
open PySem PySem.Spec PyProof.Rows
section
variable {X:Cx}
def tVar (i:Nat):TE:=λσ H Q=>∃ v,σ[i]? = some (some v)/\Q v H
def tC (v:V):TE:=λ_ H Q=>Q v H
theorem pe_var {i:Nat}{x:Str}{pos:Pos} (hN:X.N[i]? = some x) (hv:Vis X.env.scope x) (hd:(x == ("__debug__" : Str))=false:=by decide) (hcd:(x == ("__classdict__" : Str))=false:=by decide):PE X (.Name x pos) (tVar i):=by
 intro pins s σ H Q I h;obtain ⟨v,e,h⟩:=h;obtain ⟨m,hn,hl⟩:=I.loc;obtain ⟨u,r,l⟩:=hl i x v hN e hv;have fin:EP X pins σ Q u s:=⟨v,H,I,r,h⟩;rcases l with ⟨hk,hm⟩ | ⟨hk,c,hc,hcell⟩
 ·exact wpAny_Name (wpAny_loadName_local I.ok.kind hk hn hm fin) hd
 ·rcases hk with hk | hk
  ·exact wpAny_Name (wpAny_loadName_cell I.ok.kind hk hc hcell fin) hd
  ·exact wpAny_Name (wpAny_loadName_free I.ok.kind hk hc hcell fin hcd) hd
theorem pe_int {i j pos}:PE X (.Constant (.int i) j pos) (tC (.int i)):=λ_ _ _ H _ I h=>wpAny_Constant_int ⟨.int i,H,I.tok _,⟨_,rfl⟩,h⟩
theorem pe_bl {b j pos}:PE X (.Constant (.bool b) j pos) (tC (.bl b)):=λ_ _ _ H _ I h=>Constant_bool ⟨.bl b,H,I,rfl,h⟩
theorem pe_non {j pos}:PE X (.Constant .none j pos) (tC .non):=λ_ _ _ H _ I h=>Constant_none ⟨.non,H,I,rfl,h⟩
theorem pe_str {x j pos}:PE X (.Constant (.str x) j pos) (tC (.str x)):=λ_ _ _ H _ I h=>Calls.Constant_str ⟨.str x,H,I.tok _,⟨_,rfl⟩,h⟩
def Gl (X:Cx) (x:Str):Prop:=X.env.kindOf x=some .globalImplicit
theorem ld_glob {E:Value->Shared->Prop}{pins:List (Addr×Obj)}{s:Shared}{σ:St}{H:Hp}{x:Str}{u:Value}{pos:Pos}{Q:Value->Shared->Prop} (I:Inv X pins σ H s) (hg:Gl X x) (hm:X.mg x=some u) (h:Q u s)
  (hd:(x == ("__debug__" : Str))=false:=by decide):wpAny (model X.prog X.w) X.A (eval (.Name x pos) X.env) Q E s:=
 Calls.Name_function_global I.ok.kind hg (Calls.loadGlobal_global (by rw [I.ok.glob];exact I.mod.glob.keeps I.bk) hm h) hd
theorem ld_blt {E:Value->Shared->Prop}{pins:List (Addr×Obj)}{s:Shared}{σ:St}{H:Hp}{x:Str}{u:Value}{pos:Pos}{Q:Value->Shared->Prop} (I:Inv X pins σ H s) (hg:Gl X x) (hm:X.mg x=none) (hv:bootBuiltins x=some u) (h:Q u s)
  (hn:x ≠ "__name__" :=by decide) (hd:(x == ("__debug__" : Str))=false:=by decide):wpAny (model X.prog X.w) X.A (eval (.Name x pos) X.env) Q E s:=by
 obtain ⟨mb,h1,h2⟩:=I.mod.blt;exact Calls.Name_function_global I.ok.kind hg (Calls.loadGlobal_builtin (by rw [I.ok.glob];exact I.mod.glob.keeps I.bk) hm (by rw [I.ok.blt];exact h1.keeps I.bk) ((h2 x hn).trans hv) h) hd
theorem pe_glob {x:Str}{v:V}{u:Value}{pos:Pos} (hg:Gl X x) (hm:X.mg x=some u) (r:RelV v u) (hd:(x == ("__debug__" : Str))=false:=by decide):PE X (.Name x pos) (tC v):=
 λ_ _ _ H _ I h=>ld_glob I hg hm ⟨v,H,I,r,h⟩ hd
theorem pe_bltn {x:Str}{v:V}{u:Value}{pos:Pos} (hg:Gl X x) (hm:X.mg x=none) (hv:bootBuiltins x=some u) (r:RelV v u) (hn:x ≠ "__name__" :=by decide) (hd:(x == ("__debug__" : Str))=false:=by decide):PE X (.Name x pos) (tC v):=
 λ_ _ _ H _ I h=>ld_blt I hg hm hv ⟨v,H,I,r,h⟩ hn hd
variable {a b:Expr}{ta tb:TE}{pos:Pos}
def tB (t:TE):TT:=λσ H Q=>t σ H λx H1=>∃ c,x = .bl c/\Q c H1
theorem pt_val {e:Expr}{t:TE} (h:PE X e t) (he:∀ whole,isTrue e X.env whole=(do let v <-whole;standAt e.pos;holding [v] (truthy v)):=by intro _;rfl):PT X e (tB t):=by
 intro pins s σ H Q I hw;refine isTrue_plain (thn (h pins s σ H _ I hw) λv s1 ⟨x,H1,I1,r1,q1⟩=>?_) (he _);obtain ⟨d,rfl,q⟩:=q1;cases r1;exact wpAny_truthy_bool ⟨H1,I1,q⟩
variable {tA tB':TT}{rest:List Expr}
def tAnd (t u:TT):TT:=λσ H Q=>t σ H λc H1=>if c=true then u σ H1 Q else Q false H1
def tNot (t:TT):TT:=λσ H Q=>t σ H λc H1=>Q (!c) H1
theorem pw_and1 (ha:PT X a tA):PW X (.BoolOp .And [a] pos) tA:=by
 intro wh pins s σ H Q I h;refine isTrue_and (thn (ha pins s σ H Q I h) λc s1 e=>?_);cases c with
 | true=>exact isTrue_and_nil e
 | false=>exact e
theorem pw_and (ha:PT X a tA) (hb:PW X (.BoolOp .And (b::rest) pos) tB'):PW X (.BoolOp .And (a::b::rest) pos) (tAnd tA tB'):=by
 intro wh pins s σ H Q I h;refine isTrue_and (thn (ha pins s σ H _ I h) λc s1 ⟨H1,I1,q1⟩=>?_);cases c with
 | true=>exact hb wh pins s1 σ H1 Q I1 q1
 | false=>exact ⟨H1,I1,q1⟩
theorem pt_not (ha:PT X a tA):PT X (.UnaryOp .Not a pos) (tNot tA):=by
 intro pins s σ H Q I h;exact isTrue_not (ha pins s σ H (λc H1=>Q (!c) H1) I h)
def tAndV (ta tb:TE):TE:=λσ H Q=>ta σ H λx H1=>∃ c,x = .bl c/\if c=true then tb σ H1 Q else Q (.bl false) H1
def tNotV (ta:TE):TE:=λσ H Q=>ta σ H λx H1=>∃ c,x = .bl c/\Q (.bl (!c)) H1
theorem pe_one {op}{t:TE} (h:PE X a t):PE X (.BoolOp op [a] pos) t:=λpins s σ H Q I hw=>BoolOp_one (h pins s σ H Q I hw)
theorem pe_and (ha:PE X a ta) (hb:PE X (.BoolOp .And (b::rest) pos) tb):PE X (.BoolOp .And (a::b::rest) pos) (tAndV ta tb):=by
 intro pins s σ H Q I h;refine BoolOp_and (thn (ha pins s σ H _ I h) λv s1 ⟨x,H1,I1,r1,q1⟩=>?_);obtain ⟨c,rfl,q1⟩:=q1;cases r1;refine wpAny_truthy_bool ?_;cases c with
 | true=>exact hb pins s1 σ H1 Q I1 q1
 | false=>exact ⟨.bl false,H1,I1,rfl,q1⟩
theorem pe_not (ha:PE X a ta):PE X (.UnaryOp .Not a pos) (tNotV ta):=by
 intro pins s σ H Q I h;refine UnaryOp_ (thn (ha pins s σ H _ I h) λv s1 ⟨x,H1,I1,r1,q1⟩=>?_);obtain ⟨c,rfl,q1⟩:=q1;cases r1;exact not_of (wpAny_truthy_bool ⟨.bl (!c),H1,I1,rfl,q1⟩)
def tIf (t:TT) (ta tb:TE):TE:=λσ H Q=>t σ H λc H1=>if c=true then ta σ H1 Q else tb σ H1 Q
theorem pe_ifExp {c:Expr} (hc:PT X c tA) (ha:PE X a ta) (hb:PE X b tb):PE X (.IfExp c a b pos) (tIf tA ta tb):=by
 intro pins s σ H Q I h;refine wpAny_IfExp (thn (hc pins s σ H _ I h) λd s1 ⟨H1,I1,q1⟩=>?_);cases d with
 | true=>exact ha pins s1 σ H1 Q I1 q1
 | false=>exact hb pins s1 σ H1 Q I1 q1
end
end L2
namespace L2
open PySem PySem.Spec PyProof.Rows
def SqL (K:PySem.W.Frag) (H:Hp) (a:Addr) (xs:List V):Prop:=
 Rd H a (.lst xs) \/
  ∃ (o:Obj) (its:Array Value) (n:Nat),K.lookup a=some o/\o.cls = .type "list" /\ o.dict=none/\o.data = .seq its n/\its.size<=sizeLine/\Vals xs its.toList
def SqT (K:PySem.W.Frag) (H:Hp) (a:Addr) (xs:List V):Prop:=
 Rd H a (.tup xs) \/
  ∃ (o:Obj) (its:Array Value) (n:Nat),K.lookup a=some o/\o.cls = .type "tuple" /\ o.data = .seq its n/\its.size<=sizeLine/\Vals xs its.toList
def absV:Value->Option V
 | .none=>some .non
 | .bool b=>some (.bl b)
 | .int i _=>some (.int i)
 | .str x _=>some (.str x)
 | .bytes b _=>some (.byt b)
 | .float b _=>some (.flt b)
 | .ref a=>some (.ref a)
 | .type n=>some (.ty n)
 | _=>none
theorem RelV.abs {x:V}{u:Value} (r:RelV x u):absV u=some x:=by
 cases x with
 | non=>cases r;rfl
 | bl _=>cases r;rfl
 | int _=>obtain ⟨t,rfl⟩:=r;rfl
 | str _=>obtain ⟨t,rfl⟩:=r;rfl
 | byt _=>obtain ⟨t,rfl⟩:=r;rfl
 | flt _=>obtain ⟨t,rfl⟩:=r;rfl
 | ref _=>cases r;rfl
 | ty _=>cases r;rfl
theorem RelV.inj {x y:V}{u:Value} (r:RelV x u) (q:RelV y u):x=y:=Option.some.inj (r.abs.symm.trans q.abs)
theorem Vals.inj:∀ {xs ys:List V}{us:List Value},Vals xs us->Vals ys us->xs=ys
 | _,_,_,.nil,.nil=>rfl
 | _,_,_,.cons r t,.cons r' t'=>by rw [r.inj r',Vals.inj t t']
section
variable {X:Cx}{pins:List (Addr×Obj)}{σ:St}{H:Hp}{s:Shared}{a:Addr}{xs ys:List V}
theorem SqL.of {K:PySem.W.Frag} (h:H a=some (.lst xs)):SqL K H a xs:=.inl (.inl h)
theorem SqT.of {K:PySem.W.Frag} (h:H a=some (.tup xs)):SqT K H a xs:=.inl (.inl h)
theorem Inv.list (I:Inv X pins σ H s) (h:SqL X.K H a xs):∃ its:List Value,Vals xs its/\PlainL s.heap a its.toArray/\xs.length<=sizeLine:=by
 rcases h with h | ⟨o,its,n,hk,hc,hd,hs,hz,r⟩
 ·obtain ⟨z,its,n,r,e⟩:=h.ok I.hok;exact ⟨its,r,⟨_,n,e,rfl,rfl,rfl⟩,z⟩
 ·refine ⟨its.toList,r,⟨o,n,I.kIn a o hk,hc,hd,by simpa using hs⟩,?_⟩;have e:=r.length;simp only [Array.length_toList] at e;lia
theorem Inv.tuple (I:Inv X pins σ H s) (h:SqT X.K H a xs):∃ its:List Value,Vals xs its/\IsTup s.heap a its.toArray/\xs.length<=sizeLine:=by
 rcases h with h | ⟨o,its,n,hk,hc,hs,hz,r⟩
 ·obtain ⟨z,its,r,p⟩:=h.ok I.hok;exact ⟨its,r,p,z⟩
 ·refine ⟨its.toList,r,⟨o,I.kIn a o hk,hc,n,by simpa using hs⟩,?_⟩;have e:=r.length;simp only [Array.length_toList] at e;lia
theorem Inv.list_inj (I:Inv X pins σ H s) (h:SqL X.K H a xs) (h':SqL X.K H a ys):xs=ys:=by
 obtain ⟨its,r,⟨o,n,e,_,_,d⟩,_⟩:=I.list h;obtain ⟨its',r',⟨o',n',e',_,_,d'⟩,_⟩:=I.list h';rw [e] at e';cases e';rw [d] at d';injection d' with d1 _;have:its=its':=by simpa using congrArg Array.toList d1
 subst this;exact r.inj r'
end
abbrev Cx.wish (X:Cx) (E:Value->Shared->Prop):Cx:={ X with xe:=E }
abbrev Cx.nox (X:Cx):Cx:=X.wish λ_ _=>False
theorem Cx.Ok.wish {X:Cx} (ok:X.Ok) (E:Value->Shared->Prop):(X.wish E).Ok:=
 ⟨ok.mod,ok.kind,ok.glob,ok.blt,ok.above,ok.inj,ok.has,ok.cab,ok.hd,ok.frames,ok.stk,ok.exf,ok.bs,ok.bsz,ok.noex,ok.exfs,ok.funs,ok.frf⟩
theorem Cx.Ok.unwish {X:Cx}{E:Value->Shared->Prop} (ok:(X.wish E).Ok):X.Ok:=
 ⟨ok.mod,ok.kind,ok.glob,ok.blt,ok.above,ok.inj,ok.has,ok.cab,ok.hd,ok.frames,ok.stk,ok.exf,ok.bs,ok.bsz,ok.noex,ok.exfs,ok.funs,ok.frf⟩
section
variable {X:Cx}{pins:List (Addr×Obj)}{σ:St}{H:Hp}{s:Shared}{E:Value->Shared->Prop}
theorem Inv.wish (I:Inv X pins σ H s) (E:Value->Shared->Prop):Inv (X.wish E) pins σ H s:=⟨I.ok.wish E,I.os,I.bare,I.base,I.loc,I.cell,I.free,I.freeC,I.pin,I.hok,I.len⟩
theorem Inv.unwish (I:Inv (X.wish E) pins σ H s):Inv X pins σ H s:=⟨I.ok.unwish,I.os,I.bare,I.base,I.loc,I.cell,I.free,I.freeC,I.pin,I.hok,I.len⟩
theorem SP.unwish {D:Ends}{f:Flow}{s':Shared} (h:SP (X.wish E) pins D f s'):SP X pins D f s':=by
 cases f with
 | next=>obtain ⟨σ',H',I,q⟩:=h;exact ⟨σ',H',I.unwish,q⟩
 | brk=>obtain ⟨σ',H',I,q⟩:=h;exact ⟨σ',H',I.unwish,q⟩
 | cont=>obtain ⟨σ',H',I,q⟩:=h;exact ⟨σ',H',I.unwish,q⟩
 | ret u=>obtain ⟨v,σ',H',I,r,q⟩:=h;exact ⟨v,σ',H',I.unwish,r,q⟩
theorem PSs.nox {st:List Stmt}{t:TS} (h:PSs X.nox st t):PSs X st t:=λpins s σ H D I hw=>
 wpAny_mono (h pins s σ H D (I.wish _) hw) (λ_ _ q=>q.unwish) λ_ _ z=>False.elim z
end
section
variable {X:Cx}{st:Stmt}{rest:List Stmt}{t u:TS}{e:Expr}{te:TE}{pos:Pos}
def tNext:TS:=λD σ H=>D.nx σ H
def tSeq (t u:TS):TS:=λD σ H=>t { D with nx:=u D } σ H
theorem pss_nil:PSs X [] tNext:=λ_ _ σ H _ I h=>wpAny_execs_nil ⟨σ,H,I,h⟩
theorem pss_cons (h1:PS X st t) (h2:PSs X rest u):PSs X (st::rest) (tSeq t u):=by
 intro pins s σ H D I h;refine wpAny_execs_cons (thn (h1 pins s σ H { D with nx:=u D } I h) λf s1 q=>?_);cases f with
 | next=>
  obtain ⟨σ',H',I',q⟩:=q;exact h2 pins s1 σ' H' D I' q
 | ret v=>exact q
 | brk=>exact q
 | cont=>exact q
theorem pss_one (h1:PS X st t):PSs X [st] t:=by
 intro pins s σ H D I h;refine wpAny_execs_cons (thn (h1 pins s σ H D I h) λf s1 q=>?_);cases f with
 | next=>exact wpAny_execs_nil q
 | ret v=>exact q
 | brk=>exact q
 | cont=>exact q
theorem Inv.quiet {pins:List (Addr×Obj)}{σ:St}{H:Hp}{s:Shared} (I:Inv X pins σ H s):interactive X.env=false:=by simp [interactive,I.ok.kind]
def tDrop (te:TE):TS:=λD σ H=>te σ H λ_ H1=>D.nx σ H1
theorem ps_expr (he:PE X e te) (hs:swapsWith e none pos.line X.env=pure false:=by rfl):PS X (.Expr e pos) (tDrop te):=by
 intro pins s σ H D I h;exact wpAny_Expr_any (thn (he pins s σ H _ I h) λv s1 ⟨x,H1,I1,r1,q1⟩=>⟨σ,H1,I1,q1⟩) I.quiet hs
def tRet (te:TE):TS:=λD σ H=>te σ H D.rt
theorem ps_ret (he:PE X e te):PS X (.Return (some e) pos) (tRet te):=by
 intro pins s σ H D I h;exact wpAny_Return_some (thn (he pins s σ H _ I h) λv s1 ⟨x,H1,I1,r1,q1⟩=>⟨x,σ,H1,I1,r1,q1⟩)
def tIfS (c:TT) (t u:TS):TS:=λD σ H=>c σ H λb H1=>if b=true then t D σ H1 else u D σ H1
theorem ps_if {c:Expr}{a b:List Stmt}{tc:TT} (hc:PT X c tc) (ha:PSs X a t) (hb:PSs X b u):PS X (.If c a b pos) (tIfS tc t u):=by
 intro pins s σ H D I h;refine wpAny_If (thn (hc pins s σ H _ I h) λd s1 ⟨H1,I1,q1⟩=>?_);cases d with
 | true=>exact ha pins s1 σ H1 D I1 q1
 | false=>exact hb pins s1 σ H1 D I1 q1
def tNever:TS:=λ_ _ _=>False
theorem ps_never:PS X st tNever:=λ_ _ _ _ _ _ h=>h.elim
end
abbrev TG:=V->St->Hp->(St->Hp->Prop)->Prop
abbrev TGs:=List V->St->Hp->(St->Hp->Prop)->Prop
def PG (X:Cx) (target:Expr) (t:TG):Prop:=
 ∀ (pins:List (Addr×Obj)) (s:Shared) (σ:St) (H:Hp) (v:V) (u:Value) (Q:St->Hp->Prop),Inv X pins σ H s->RelV v u->t v σ H Q ->
  wpAny (model X.prog X.w) X.A (assign target X.env u) (λ_ s'=>∃ σ' H',Inv X pins σ' H' s'/\Q σ' H') X.xe s
def PGs (X:Cx) (ts:List Expr) (t:TGs):Prop:=
 ∀ (pins:List (Addr×Obj)) (s:Shared) (σ:St) (H:Hp) (vs:List V) (us:List Value) (Q:St->Hp->Prop),Inv X pins σ H s->Vals vs us->t vs σ H Q ->
  wpAny (model X.prog X.w) X.A (assignInOrder ((assignEach ts X.env).map (·.2)) us) (λ_ s'=>∃ σ' H',Inv X pins σ' H' s'/\Q σ' H') X.xe s
abbrev TSet:=V->V->V->Hp->(Hp->Prop)->Prop
def PSet (X:Cx) (t:TSet):Prop:=
 ∀ (pins:List (Addr×Obj)) (s:Shared) (σ:St) (H:Hp) (o i v:V) (ov iv u:Value) (Q:Hp->Prop),Inv X pins σ H s->RelV o ov->RelV i iv->RelV v u->t o i v H Q ->
  wpAny (model X.prog X.w) X.A (setItem ov iv u) (λ_ s'=>∃ H',Inv X pins σ H' s'/\Q H') X.xe s
section
variable {X:Cx}{pos:Pos}
def gName (i:Nat):TG:=λv σ H Q=>Q (σ.set i (some v)) H
theorem pg_name {i:Nat}{x:Str} (hN:X.N.Nodup) (hi:X.N[i]? = some x) (hx:Loc X.env.scope x) (hf:X.fn x=true\/X.env.scope.names.lookup x=some .local:=by first | exact .inl rfl | exact .inr rfl | assumption):PG X (.Name x pos) (gName i):=by
 intro pins s σ H v u Q I r h;exact wpAny_assign_Name (store_ok I hN hi hx r (λs' I'=>⟨_,H,I',h⟩) hf)
def gNil:TGs:=λvs σ H Q=>vs=[]/\Q σ H
def gCons (t:TG) (u:TGs):TGs:=λvs σ H Q=>∃ v r,vs=v::r/\t v σ H λσ' H'=>u r σ' H' Q
theorem pgs_nil:PGs X [] gNil:=by
 intro pins s σ H vs us Q I r h;obtain ⟨e,h⟩:=h;subst e;cases r;exact assignInOrder_nil ⟨σ,H,I,h⟩
theorem pgs_cons {e:Expr}{es:List Expr}{t:TG}{u:TGs} (h1:PG X e t) (h2:PGs X es u)
  (hs:(assignEach (e::es) X.env).map (·.2)=assign e X.env::(assignEach es X.env).map (·.2):=by rfl):PGs X (e::es) (gCons t u):=by
 intro pins s σ H vs us Q I r h;obtain ⟨v,vr,e1,h⟩:=h;subst e1;cases r with
 | cons r rr=>
  rw [hs];refine assignInOrder_cons (thn (h1 pins s σ H _ _ _ I r h) λ_ s1 ⟨σ1,H1,I1,q1⟩=>?_);exact h2 pins s1 σ1 H1 _ _ Q I1 rr q1
def gTup (K:PySem.W.Frag) (n:Nat) (t:TGs):TG:=λv σ H Q=>∃ a xs,v = .ref a/\SqT K H a xs/\xs.length=n/\t xs σ H Q
theorem pg_tup {es:List Expr}{k:Nat}{t:TGs}{n:Nat} (hc:X.calm=true) (h:PGs X es t)
  (hn:(assignEach es X.env).length=n:=by rfl) (hst:(assignEach es X.env).findIdx? (·.1)=none:=by rfl):PG X (.Tuple es k pos) (gTup X.K n t):=by
 intro pins s σ H v u Q I r hw;obtain ⟨a,xs,e1,hq,hl,hw⟩:=hw;subst e1;cases r;obtain ⟨its,rv,ht,hz⟩:=I.tuple hq;refine assign_Tuple_tuple (I.ok.hd hc) ht (by simp [hn,<-hl,rv.length]) hst λh' hx=>?_;have I1:=I.kept (t':=s.toks) λb o e=>hx b o (Nat.ne_of_lt (Heap.lt_size e)) e;exact h pins _ σ H xs _ Q I1 (by simpa using rv) hw
def gSub (to ti:TE) (t:TSet):TG:=λv σ H Q=>to σ H λo H1=>ti σ H1 λi H2=>t o i v H2 λH3=>Q σ H3
theorem pg_sub {o i:Expr}{to ti:TE}{t:TSet} (ho:PE X o to) (hi:PE X i ti) (hs:PSet X t)
  (ha:∀ v,assign (.Subscript o i pos) X.env v=(do
   let ov <-holding [v] (eval o X.env)
   let iv <-holding [v,ov] (eval i X.env)
   standAt pos
   holding [v,ov,iv] (setItem ov iv v)
   release [v,ov,iv] []):=by intro _;rfl):PG X (.Subscript o i pos) (gSub to ti t):=by
 intro pins s σ H v u Q I r h;rw [ha];refine wpAny_bind (wpAny_holding (thn (ho pins s σ H _ I h) λov s1 ⟨x,H1,I1,r1,q1⟩=>?_));refine wpAny_bind (wpAny_holding (thn (hi pins s1 σ H1 _ I1 q1) λiv s2 ⟨y,H2,I2,r2,q2⟩=>?_));refine wpAny_bind (wpAny_standAt (wpAny_bind (wpAny_holding (thn (hs pins s2 σ H2 x y v ov iv u _ I2 r1 r2 r q2) λ_ s3 ⟨H3,I3,q3⟩=>?_))));exact wpAny_release ⟨σ,H3,I3,q3⟩
def tAsg (te:TE) (g:TG):TS:=λD σ H=>te σ H λx H1=>g x σ H1 D.nx
theorem ps_asg {tg e:Expr}{te:TE}{g:TG} (he:PE X e te) (hg:PG X tg g) (hs:swapsWithSole [tg] e pos.line X.env=pure false:=by rfl) (hw:swappedStores [tg] e X.env=pure none:=by rfl)
  (h1:(assignEach [tg] X.env).map (·.2)=[assign tg X.env]:=by rfl):PS X (.Assign [tg] e pos) (tAsg te g):=by
 intro pins s σ H D I h;refine wpAny_Assign_stores (thn (he pins s σ H _ I h) λv s1 ⟨x,H1,I1,r1,q1⟩=>?_) hs hw;rw [h1];exact thn (hg pins s1 σ H1 x v _ I1 r1 q1) λ_ s2 q=>q
theorem ps_set {i:Nat}{x:Str}{e:Expr}{te:TE}{pos':Pos} (hN:X.N.Nodup) (hi:X.N[i]? = some x) (hx:Loc X.env.scope x) (he:PE X e te) (hs:swapsWith e (some (.Name x pos')) pos.line X.env=pure false:=by rfl) (hf:X.fn x=true\/X.env.scope.names.lookup x=some .local:=by first | exact .inl rfl | exact .inr rfl | assumption) :
  PS X (.Assign [.Name x pos'] e pos) (tAsg te (gName i)):=by
 intro pins s σ H D I h;refine wpAny_Assign_Name (thn (he pins s σ H _ I h) λv s1 ⟨y,H1,I1,r1,q1⟩=>?_) hs;exact store_ok I1 hN hi hx r1 (λs2 I2=>⟨_,H1,I2,q1⟩) hf
end
section
variable {X:Cx}{pos:Pos}
end
structure It where
 go:Nat->Hp->Prop
 yld:Nat->Hp->V->Hp->Prop
 stop:Nat->Hp->Prop
def FpOk (X:Cx) (pins:List (Addr×Obj)) (H:Hp) (b:Addr):Prop:=
 H b=none/\b≠X.env.locals/\b∉X.fs/\(b∈X.ex\/X.s₀.heap.objs.size<=b)/\(∀ x c,X.env.cells.lookup x=some c->c≠b)/\∀ p∈X.pn++pins,p.1≠b
theorem Inv.fpOk {X:Cx}{pins:List (Addr×Obj)}{σ:St}{H H':Hp}{s:Shared}{b:Addr} (I:Inv X pins σ H s) (hb:s.heap.objs.size<=b) (hn:H' b=none):FpOk X pins H' b:=by
 refine ⟨hn,Nat.ne_of_gt (Nat.lt_of_lt_of_le I.lt hb),I.nofs hb,.inr (Nat.le_trans I.sz hb),λx c e z=>?_,λp hp z=>?_⟩
 ·obtain ⟨v,q⟩:=I.cell x c e;exact absurd (Nat.lt_of_lt_of_le q.lt (by rw [z];exact hb)) (Nat.lt_irrefl _)
 ·exact absurd (Nat.lt_of_lt_of_le (Heap.lt_size (I.pin p hp).1) (by rw [z];exact hb)) (Nat.lt_irrefl _)
structure Turn (P:Program) (w:World) (K:PySem.W.Frag) (tg:Expr) (J:It) (fp:List Addr) (it:Addr) (tn:Nat->Heap->Prop):Prop where
 mem:it∈fp
 obj:∀ i h,tn i h->∀ b∈fp,∃ o,h.get? b=some o/\∀ v,o.data ≠ .cell v
 keep:∀ i h h',tn i h->(∀ b∈fp,∀ o,h.get? b=some o->h'.get? b=some o)->tn i h'
 item:∀ (X:Cx),X.prog=P->X.w=w->X.K=K->X.calm=true->∀ (i:Nat) (pins:List (Addr×Obj)) (s:Shared) (σ:St) (H:Hp) (E:Value->Shared->Prop),Inv X pins σ H s->(∀ b∈fp,FpOk X pins H b)->tn i s.heap->J.go i H ->
  wpAny (model P w) X.A (pyNext (.ref it)) (λr s1=>∃ u,r=some u /\
   wpAny (model P w) X.A (letOwnedTupleGo tg (.ref it) u) (λ_ s2=>∃ x H',Inv X pins σ H' s2/\RelV x u/\J.yld i H x H'/\tn (i+1) s2.heap/\∀ b∈fp,H' b=none) E s1) E s
 done:∀ (X:Cx),X.prog=P->X.w=w->X.K=K->X.calm=true->∀ (i:Nat) (pins:List (Addr×Obj)) (s:Shared) (σ:St) (H:Hp) (E:Value->Shared->Prop),Inv X pins σ H s->(∀ b∈fp,FpOk X pins H b)->tn i s.heap->J.stop i H ->
  wpAny (model P w) X.A (pyNext (.ref it)) (λr s1=>r=none/\Inv X pins σ H s1) E s
 self:∀ (A:Around) (i:Nat) (s:Shared) (Q:Value->Shared->Prop) (E:Value->Shared->Prop),tn i s.heap->Q (.ref it) s->wpAny (model P w) A (pyIter (.ref it)) Q E s
abbrev TI:=St->Hp->(It->Hp->Prop)->Prop
def PIE (X:Cx) (pins:List (Addr×Obj)) (σ:St) (tg:Expr) (R:It->Hp->Prop) (itv:Value) (s2:Shared):Prop:=
 ∃ (it:Addr) (fp:List Addr) (tn:Nat->Heap->Prop) (J:It) (H':Hp),itv = .ref it/\Inv X pins σ H' s2/\Turn X.prog X.w X.K tg J fp it tn/\tn 0 s2.heap/\(∀ b∈fp,FpOk X pins H' b)/\R J H'
def PI (X:Cx) (tg iter:Expr) (wi:TI):Prop:=
 ∀ (pins:List (Addr×Obj)) (s:Shared) (σ:St) (H:Hp) (R:It->Hp->Prop),Inv X pins σ H s->wi σ H R ->
  wpAny (model X.prog X.w) X.A (eval iter X.env) (λv s1=>wpAny (model X.prog X.w) X.A (pyIter v) (PIE X pins σ tg R) X.xe s1) X.xe s
theorem go_of {M:Model}{A:Around}{E:Value->Shared->Prop}{s:Shared}{tg:Expr}{it:Addr}{u:Value}{o:Obj}{n:String}{vs:Array Value}{Q:Unit->Shared->Prop} (ho:s.heap.get? it=some o) (hc:o.cls = .type n) (hd:o.data = .fields vs)
  (hn:["enumerate","zip","dict_itemiterator","dict_reverseitemiterator","odict_iterator","itertools.zip_longest","itertools.pairwise"].contains n=false) (hQ:Q () s):wpAny M A (letOwnedTupleGo tg (.ref it) u) Q E s:=by
 unfold letOwnedTupleGo;cases tg <;> first
  | exact wpAny_pure hQ
  | (cases u <;> first
    | exact wpAny_pure hQ
    | (refine wpAny_bind (wpAny_load ho ?_)
       rw [hc,hd];show wpAny M A (if (["enumerate","zip","dict_itemiterator","dict_reverseitemiterator","odict_iterator","itertools.zip_longest","itertools.pairwise"].contains n && vs[0]? == some (rawInt _))=true then _ else _) Q E s;rw [if_neg (by intro h;rw [hn,Bool.false_and] at h;cases h)];exact wpAny_pure hQ))
def Itl (K:PySem.W.Frag) (a:Addr):It:=
 ⟨λi H=>∃ xs x,SqL K H a xs/\xs[i]? = some x,λi H x H'=>H' = H/\∀ xs,SqL K H a xs->xs[i]? = some x,λi H=>∃ xs,SqL K H a xs/\xs.length<=i⟩
def Itr (lo:Int) (n:Nat):It:=⟨λi _=>i<n,λi H x H'=>H' = H/\x = .int (lo+i),λi _=>n<=i⟩
theorem turn_list {P:Program}{w:World}{K:PySem.W.Frag}{tg:Expr} (a it:Addr):Turn P w K tg (Itl K a) [it] it (λi h=>h.IsListIter it a i) where
 mem:=by simp
 obj:=λi h st b hb=>by
  have e:b=it:=by simpa using hb
  subst e;obtain ⟨o,e,c,d⟩:=st;exact ⟨o,e,λv z=>by rw [d] at z;cases z⟩
 keep:=λi h h' st k=>st.at λo e=>k it (by simp) o e
 item:=by
  intro X hP hw hK hc i pins s σ H E I hf st hg;subst hP hw hK;obtain ⟨xs,x,hq,hx⟩:=hg;obtain ⟨its,rv,p,hz⟩:=I.list hq;obtain ⟨u,hu,ru⟩:=rv.get hx;obtain ⟨f0,f1,f2,f3,f4,f5⟩:=hf it (by simp);refine wpAny_pyNext_list_item st p.isList (x:=u) (by simpa using hu) λh' st' sb=>?_;have I1:=I.turned (t':=s.toks) (λb o hb e=>(sb.2 b hb).trans e) f0 f1 f3 f4 f5;obtain ⟨o,e,c,d⟩:=id st';exact ⟨u,rfl,go_of (s:={ s with heap:=h' }) e c d (by decide) ⟨x,H,I1,ru,⟨rfl,λys hy=>by rw [I.list_inj hy hq];exact hx⟩,st',λb hb=>(hf b hb).1⟩⟩
 done:=by
  intro X hP hw hK hc i pins s σ H E I hf st hg;subst hP hw hK;obtain ⟨xs,hq,hx⟩:=hg;obtain ⟨its,rv,p,hz⟩:=I.list hq;obtain ⟨f0,f1,f2,f3,f4,f5⟩:=hf it (by simp);have hl:=rv.length;exact wpAny_pyNext_list_end (I.ok.hd hc) st p.isList (by simp;lia) λh' eb=>⟨rfl,I.turned (t':=s.toks) (λb o hb e=>eb b o hb e) f0 f1 f3 f4 f5⟩
 self:=λ_ _ _ _ _ st h=>wpAny_pyIter_listiter st h
theorem turn_range {P:Program}{w:World}{K:PySem.W.Frag}{tg:Expr} (it:Addr) (lo:Int) (n:Nat):Turn P w K tg (Itr lo n) [it] it (λi h=>IsRangeIter h it (lo+(i:Nat) * 1) ((n:Int) - (i:Nat)) 1) where
 mem:=by simp
 obj:=λi h st b hb=>by
  have e:b=it:=by simpa using hb
  subst e;exact ⟨_,st,λv z=>by
   have z':Data.fields _=Data.cell v:=z;cases z'⟩
 keep:=λi h h' st k=>k it (by simp) _ st
 item:=by
  intro X hP hw hK hc i pins s σ H E I hf st hg;subst hP hw hK;obtain ⟨f0,f1,f2,f3,f4,f5⟩:=hf it (by simp);have W:=Walks.range (prog:=X.prog) (w:=X.w) (I.ok.hd hc) it lo 1 n;refine W.item i s _ _ hg st λv h' tk hv st' kk=>?_;obtain ⟨t,rfl⟩:=hv;have I1:Inv X pins σ H { s with heap:=h',toks:=tk }:=I.turned (λb o hb e=>kk b o (by simpa using hb) e) f0 f1 f3 f4 f5;refine ⟨_,rfl,go_of (s:={ s with heap:=h',toks:=tk }) (n:= "range_iterator") st' rfl rfl (by decide) ⟨.int (lo+i),H,I1,⟨t,?_⟩,⟨rfl,rfl⟩,st',λb hb=>(hf b hb).1⟩⟩;rw [Int.mul_one]
 done:=by
  intro X hP hw hK hc i pins s σ H E I hf st hg;subst hP hw hK;obtain ⟨f0,f1,f2,f3,f4,f5⟩:=hf it (by simp);exact wpAny_pyNext_range_end (I.ok.hd hc) st (by have:n<=i:=hg;lia) λh' eb=>⟨rfl,I.turned (t':=s.toks) (λb o hb e=>eb b o hb e) f0 f1 f3 f4 f5⟩
 self:=λ_ _ _ _ _ st h=>wpAny_pyIter_rangeiter st h
end L2
namespace L2
open PySem PySem.Spec PyProof.Rows
section
variable {X:Cx}{tg:Expr}
def iList (K:PySem.W.Frag) (tl:TE):TI:=λσ H R=>tl σ H λx H1=>∃ a,x = .ref a/\(∃ xs,SqL K H1 a xs)/\R (Itl K a) H1
theorem pi_list {l:Expr}{tl:TE} (hl:PE X l tl):PI X tg l (iList X.K tl):=by
 intro pins s σ H R I h;refine thn (hl pins s σ H _ I h) λv s1 ⟨x,H1,I1,r1,q1⟩=>?_;obtain ⟨a,e,⟨xs,hq⟩,q⟩:=q1;subst e;cases r1;obtain ⟨its,rv,p,hz⟩:=I1.list hq;refine wpAny_pyIter_list p.isList ?_;refine ⟨s1.heap.objs.size,[s1.heap.objs.size],_,_,H1,rfl,I1.kept (t':=s1.toks) λb o e=>Heap.get?_push_of_some _ e,turn_list a _,⟨_,Heap.get?_push_size _ rfl,rfl,rfl⟩,λb hb=>?_,q⟩;have e:b=s1.heap.objs.size:=by simpa using hb
 subst e;exact I1.fpOk (Nat.le_refl _) (I1.hok.fresh (Nat.le_refl _))
theorem range_it {pins:List (Addr×Obj)}{σ:St}{H:Hp}{s:Shared}{R:It->Hp->Prop}{E:Value->Shared->Prop}{lo hi:Int}{t u v:Tok}{tk:Nat} (I:Inv X pins σ H s) (h1 : -(2 ^ 62)<=lo) (h2:lo<2 ^ 62) (h3 : -(2 ^ 62)<=hi) (h4:hi<2 ^ 62)
  (q:R (Itr lo (hi - lo).toNat) H):wpAny (model X.prog X.w) X.A (pyIter (.ref s.heap.objs.size)) (PIE X pins σ tg R) E { s with heap:=s.heap.push { cls:=.type "range",data:=.fields #[.int lo t,.int hi u,.int 1 v] },toks:=tk }:=by
 refine wpAny_pyIter_range (IsRange.new ..) (small_one h1 h2 h3 h4) ?_;have I1:Inv X pins σ H { s with heap:=s.heap.push { cls:=.type "range",data:=.fields #[.int lo t,.int hi u,.int 1 v] },toks:=tk }:=I.kept λb o e=>Heap.get?_push_of_some _ e;refine ⟨(s.heap.push { cls:=.type "range",data:=.fields #[.int lo t,.int hi u,.int 1 v] }).objs.size,[(s.heap.push { cls:=.type "range",data:=.fields #[.int lo t,.int hi u,.int 1 v] }).objs.size],_,_,H,rfl,
  I1.kept (t':=tk) λb o e=>Heap.get?_push_of_some _ e,turn_range _ lo (hi - lo).toNat,?_,λb hb=>?_,q⟩
 ·have e1:lo+((0:Nat):Int) * 1=lo:=by simp
  have e2:(((hi - lo).toNat:Nat):Int) - ((0:Nat):Int)=Builtin.Range.rangeSize lo hi 1:=by rw [rangeSize_one];split <;> lia
  show IsRangeIter _ _ (lo+((0:Nat):Int) * 1) ((((hi - lo).toNat:Nat):Int) - ((0:Nat):Int)) 1;rw [e1,e2];exact Heap.get?_push_size _ rfl
 ·have e:b=(s.heap.push { cls:=.type "range",data:=.fields #[.int lo t,.int hi u,.int 1 v] }).objs.size:=by simpa using hb
  subst e;exact I1.fpOk (Nat.le_refl _) (I1.hok.fresh (Nat.le_refl _))
def iRng1 (ta:TA):TI:=λσ H R=>ta σ H λvs H1=>∃ j:Int,vs=[.int j] /\ -(2 ^ 62)<=j/\j<2 ^ 62/\R (Itr 0 j.toNat) H1
theorem pi_range1 {a:Expr}{ta:TA}{p pos:Pos} (hg:Gl X "range") (hm:X.mg "range" = none) (ha:PA X [a] ta) (hs:starEach [a] X.env=[(false,eval a X.env)]:=by rfl):PI X tg (.Call (.Name "range" p) [a] [] pos) (iRng1 ta):=by
 intro pins s σ H R I h;refine Call_ (ld_blt I hg hm boot_range (PyProof.Rows.callWith_type1 (thn (ha pos pins s σ H _ I h) λus s1 ⟨vs,H1,I1,r1,q1⟩=>?_) hs rfl));obtain ⟨j,e,q1,q2,q⟩:=q1;subst e;cases r1 with
 | cons r rr=>
  cases rr;obtain ⟨t,rfl⟩:=r;exact call_range_1 (range_it I1 (by lia) (by lia) q1 q2 (by simpa using q))
def tFor (wi:TI) (g:TG) (tb:TS):TS:=λD σ H=>wi σ H λJ H1=>∃ W:Nat->Nat->St->Hp->Prop,(∃ m,W 0 m σ H1)/\∀ i m σ H,W i m σ H ->
 (J.stop i H/\D.nx σ H)\/(J.go i H/\∃ N:St->Hp->Prop,(∀ σ' H',N σ' H'->∃ m',m' < m/\W (i+1) m' σ' H')/\∀ x H',J.yld i H x H'->g x σ H' λσ2 H2=>tb { D with nx:=N,ct:=N,bk:=D.nx } σ2 H2)
def pinsAt (fp:List Addr) (h:Heap):List (Addr×Obj):=fp.filterMap λb=>(h.get? b).map λo=>(b,o)
theorem mem_pinsAt {fp:List Addr}{h:Heap}{b:Addr}{o:Obj} (hb:b∈fp) (e:h.get? b=some o):(b,o)∈pinsAt fp h:=List.mem_filterMap.mpr ⟨b,hb,by rw [e];rfl⟩
theorem of_pinsAt {fp:List Addr}{h:Heap}{p:Addr×Obj} (hp:p∈pinsAt fp h):p.1∈fp/\h.get? p.1=some p.2:=by
 obtain ⟨b,hb,e⟩:=List.mem_filterMap.mp hp;cases q:h.get? b with
 | none=>rw [q] at e;cases e
 | some o=>
  rw [q] at e;have e':=Option.some.inj e;subst e';exact ⟨hb,q⟩
theorem Inv.pinned {pins:List (Addr×Obj)}{σ:St}{H:Hp}{s:Shared}{fp:List Addr} (I:Inv X pins σ H s) (hf:∀ b∈fp,FpOk X pins H b) (ho:∀ b∈fp,∃ o,s.heap.get? b=some o/\∀ v,o.data ≠ .cell v):Inv X (pins++pinsAt fp s.heap) σ H s:=
 I.pins_of λp hp=>(List.mem_append.mp hp).elim (λz=>I.pin p (List.mem_append_right _ z)) λz=>by
  obtain ⟨hb,e⟩:=of_pinsAt z;obtain ⟨f0,f1,f2,_⟩:=hf p.1 hb;obtain ⟨o,e',d⟩:=ho p.1 hb;rw [e] at e';cases e';exact ⟨e,f0,f1,f2,d⟩
theorem Inv.unpinned {pins pl:List (Addr×Obj)}{σ:St}{H:Hp}{s:Shared} (I:Inv X (pins++pl) σ H s):Inv X pins σ H s:=I.pins_of λp hp=>I.pin p (List.mem_append_right _ (List.mem_append_left _ hp))
theorem ps_for {iter:Expr}{body:List Stmt}{wi:TI}{g:TG}{tb:TS}{pos:Pos} (hp:PassesOwn (model X.prog X.w) X.A X.env X.xe) (hc:X.calm=true) (hi:PI X tg iter wi) (hg:PG X tg g) (hb:PSs X body tb)
  (hs:∀ x,foldedSetIterable iter X.env x=pure x:=by intro _;rfl):PS X (.For tg iter body [] pos) (tFor wi g tb):=by
 intro pins s σ H D I h;refine wpAny_For (thn (hi pins s σ H _ I h) λv s1 h1=>thn h1 λitv s2 h2=>?_) hs;obtain ⟨it,fp,tn,J,H2,e,I2,T,st2,f2,W,⟨m0,w0⟩,turn⟩:=h2;subst e;have stat:∀ {H':Hp},(∀ b∈fp,H' b=none)->∀ b∈fp,FpOk X pins H' b:=λhn b hb=>⟨hn b hb,(f2 b hb).2⟩;refine codeAny_forLoop_any (λn s'=>∃ i σ' H',Inv X pins σ' H' s'/\tn i s'.heap/\(∀ b∈fp,H' b=none)/\W i n σ' H') ?_ m0 ⟨0,σ,H2,I2,st2,λb hb=>(f2 b hb).1,w0⟩;rintro n s3 ⟨i,σ3,H3,I3,st3,fr3,w3⟩;rcases turn i n σ3 H3 w3 with ⟨stop,qn⟩ | ⟨go,N,hN,step⟩
 ·refine wpAny_passesOwn hp (thn (T.done X rfl rfl rfl hc i pins s3 σ3 H3 X.xe I3 (stat fr3) st3 stop) λr s4 ⟨hr,I4⟩=>?_);subst hr;exact wpAny_execs_nil ⟨σ3,H3,I4,qn⟩
 ·refine wpAny_passesOwn hp (thn (T.item X rfl rfl rfl hc i pins s3 σ3 H3 X.xe I3 (stat fr3) st3 go) λr s4 ⟨u,hr,h4⟩=>?_);subst hr;refine wpAny_passesOwn hp (thn h4 λ_ s5 ⟨x,H5,I5,r5,y5,st5,fr5⟩=>?_);have I5':=I5.pinned (stat fr5) (T.obj _ _ st5);refine wpAny_passesOwn hp (thn (hg _ s5 σ3 H5 x u _ I5' r5 (step x H5 y5)) λ_ s6 ⟨σ6,H6,I6,q6⟩=>?_);refine wpAny_passesOwn hp (thn (hb _ s6 σ6 H6 _ I6 q6) λf s7 q7=>?_);have again:∀ {σ7:St}{H7:Hp},Inv X (pins++pinsAt fp s5.heap) σ7 H7 s7->N σ7 H7->∃ m,m<n/\∃ i σ' H',Inv X pins σ' H' s7/\tn i s7.heap/\(∀ b∈fp,H' b=none)/\W i m σ' H':=λ{σ7 H7} I7 n7=>by
   obtain ⟨m',hm,w7⟩:=hN σ7 H7 n7;refine ⟨m',hm,i+1,σ7,H7,I7.unpinned,T.keep _ _ _ st5 λb hb o e=>(I7.pin (b,o) (List.mem_append_right _ (List.mem_append_right _ (mem_pinsAt hb e)))).1,λb hb=>?_,w7⟩;obtain ⟨o,e,d⟩:=T.obj _ _ st5 b hb;exact (I7.pin (b,o) (List.mem_append_right _ (List.mem_append_right _ (mem_pinsAt hb e)))).2.1
  cases f with
  | next=>obtain ⟨σ7,H7,I7,n7⟩:=q7;exact again I7 n7
  | cont=>obtain ⟨σ7,H7,I7,n7⟩:=q7;exact again I7 n7
  | brk=>obtain ⟨σ7,H7,I7,q7⟩:=q7;exact ⟨σ7,H7,I7.unpinned,q7⟩
  | ret v=>obtain ⟨x7,σ7,H7,I7,r7,q7⟩:=q7;exact ⟨x7,σ7,H7,I7.unpinned,r7,q7⟩
end
theorem for_list {K:PySem.W.Frag}{a:Addr}{xs:List V}{g:TG}{tb:TS}{D:Ends}{σ:St}{H:Hp} (Pv:Nat->St->Hp->Prop) (h0:Pv 0 σ H) (hl:∀ i σ H,i<=xs.length->Pv i σ H->SqL K H a xs)
  (hs:∀ i x σ H,xs[i]? = some x->Pv i σ H->g x σ H λσ2 H2=>tb { D with nx:=Pv (i+1),ct:=Pv (i+1),bk:=D.nx } σ2 H2) (hd:∀ σ H,Pv xs.length σ H->D.nx σ H) :
  ∃ W:Nat->Nat->St->Hp->Prop,(∃ m,W 0 m σ H)/\∀ i m σ H,W i m σ H ->
   ((Itl K a).stop i H/\D.nx σ H)\/((Itl K a).go i H/\∃ N:St->Hp->Prop,(∀ σ' H',N σ' H'->∃ m',m' < m/\W (i+1) m' σ' H')/\∀ x H',(Itl K a).yld i H x H'->g x σ H' λσ2 H2=>tb { D with nx:=N,ct:=N,bk:=D.nx } σ2 H2):=by
 refine ⟨λi m σ H=>m=xs.length - i/\i<=xs.length/\Pv i σ H,⟨xs.length,by simp,Nat.zero_le _,h0⟩,?_⟩;rintro i m σ H ⟨rfl,hi,p⟩;have q:=hl i σ H hi p;by_cases hlt:i<xs.length
 ·refine .inr ⟨⟨xs,xs[i],q,by simp [hlt]⟩,Pv (i+1),λσ' H' p'=>⟨xs.length - (i+1),by lia,rfl,hlt,p'⟩,λx H' y=>?_⟩;obtain ⟨e,y⟩:=y;subst e;exact hs i x σ _ (y xs q) p
 ·have e:i=xs.length:=by lia
  subst e;exact .inl ⟨⟨xs,q,Nat.le_refl _⟩,hd σ H p⟩
theorem for_range {lo:Int}{n:Nat}{g:TG}{tb:TS}{D:Ends}{σ:St}{H:Hp} (Pv:Nat->St->Hp->Prop) (h0:Pv 0 σ H)
  (hs:∀ i σ H,i<n->Pv i σ H->g (.int (lo+i)) σ H λσ2 H2=>tb { D with nx:=Pv (i+1),ct:=Pv (i+1),bk:=D.nx } σ2 H2) (hd:∀ σ H,Pv n σ H->D.nx σ H) :
  ∃ W:Nat->Nat->St->Hp->Prop,(∃ m,W 0 m σ H)/\∀ i m σ H,W i m σ H ->
   ((Itr lo n).stop i H/\D.nx σ H)\/((Itr lo n).go i H/\∃ N:St->Hp->Prop,(∀ σ' H',N σ' H'->∃ m',m' < m/\W (i+1) m' σ' H')/\∀ x H',(Itr lo n).yld i H x H'->g x σ H' λσ2 H2=>tb { D with nx:=N,ct:=N,bk:=D.nx } σ2 H2):=by
 refine ⟨λi m σ H=>m=n - i/\i<=n/\Pv i σ H,⟨n,by simp,Nat.zero_le _,h0⟩,?_⟩;rintro i m σ H ⟨rfl,hi,p⟩;by_cases hlt:i<n
 ·refine .inr ⟨hlt,Pv (i+1),λσ' H' p'=>⟨n - (i+1),by lia,rfl,hlt,p'⟩,λx H' y=>?_⟩;obtain ⟨e,y⟩:=y;subst e y;exact hs i σ _ hlt p
 ·have e:i=n:=by lia
  subst e;exact .inl ⟨Nat.le_refl _,hd σ H p⟩
end L2
namespace L2
open PySem PySem.Spec PyProof.Rows
abbrev R2:=V->V->Hp->VK->Prop
def OpR (X:Cx) (f:Value->Value->Sem Value) (r:R2):Prop:=
 ∀ (pins:List (Addr×Obj)) (s:Shared) (σ:St) (H:Hp) (x y:V) (v u:Value) (Q:VK),Inv X pins σ H s->RelV x v->RelV y u->r x y H Q ->
  wpAny (model X.prog X.w) X.A (f v u) (EP X pins σ Q) X.xe s
def CallR (X:Cx) (f:Value) (r:List V->Hp->VK->Prop):Prop:=
 ∀ (pins:List (Addr×Obj)) (s:Shared) (σ:St) (H:Hp) (xs:List V) (us:List Value) (Q:VK),Inv X pins σ H s->Vals xs us->r xs H Q ->
  wpAny (model X.prog X.w) X.A (call f us) (EP X pins σ Q) X.xe s
def tOp (r:R2) (ta tb:TE):TE:=λσ H Q=>ta σ H λx H1=>tb σ H1 λy H2=>r x y H2 Q
def rI (C:Int->Int->Prop) (g:Int->Int->V):R2:=λx y H Q=>∃ i j,x = .int i/\y = .int j/\C i j/\Q (g i j) H
def rI0 (g:Int->Int->V):R2:=λx y H Q=>∃ i j,x = .int i/\y = .int j/\Q (g i j) H
section
variable {X:Cx}{a b c:Expr}{ta tb tc:TE}{pos:Pos}
theorem binT (ha:PE X a ta) (hb:PE X b tb) {pins:List (Addr×Obj)}{s:Shared}{σ:St}{H:Hp}{R:V->V->Hp->Prop} (I:Inv X pins σ H s)
  (h:ta σ H λx H1=>tb σ H1 λy H2=>R x y H2) {Q:Value->Shared->Prop}{f:Value->Value->Sem Value}
  (hf:∀ v u s2 x y H2,Inv X pins σ H2 s2->RelV x v->RelV y u->R x y H2->wpAny (model X.prog X.w) X.A (f v u) Q X.xe s2) :
  wpAny (model X.prog X.w) X.A (eval a X.env) (λv s₁=>wpAny (model X.prog X.w) X.A (eval b X.env) (λu s₂=>wpAny (model X.prog X.w) X.A (f v u) Q X.xe s₂) X.xe s₁) X.xe s:=by
 refine thn (ha pins s σ H _ I h) λv s1 ⟨x,H1,I1,r1,q1⟩=>?_;refine thn (hb pins s1 σ H1 _ I1 q1) λu s2 ⟨y,H2,I2,r2,q2⟩=>?_;exact hf v u s2 x y H2 I2 r1 r2 q2
theorem pe_op {op:Operator}{r:R2} (ho:OpR X (binaryOp op) r) (ha:PE X a ta) (hb:PE X b tb):PE X (.BinOp a op b pos) (tOp r ta tb):=by
 intro pins s σ H Q I h;exact wpAny_BinOp (binT ha hb I h λv u s2 x y H2 I2 rx ry q=>ho pins s2 σ H2 x y v u Q I2 rx ry q)
theorem opI {f:Value->Value->Sem Value}{C:Int->Int->Prop}{g:Int->Int->Int}
  (rule:∀ (i j:Int) (t u:Tok) (s:Shared) (Q:Value->Shared->Prop) (E:Value->Shared->Prop),C i j->Q (.int (g i j) s.toks) { s with toks:=s.toks+1 }->wpAny (model X.prog X.w) X.A (f (.int i t) (.int j u)) Q E s) :
  OpR X f (rI C λi j=>.int (g i j)):=by
 intro pins s σ H x y v u Q I rx ry h;obtain ⟨i,j,rfl,rfl,hc,q⟩:=h;obtain ⟨t,rfl⟩:=rx;obtain ⟨t',rfl⟩:=ry;exact rule i j t t' s _ _ hc ⟨.int (g i j),H,I.tok _,⟨_,rfl⟩,q⟩
theorem opI0 {f:Value->Value->Sem Value}{g:Int->Int->Int}
  (rule:∀ (i j:Int) (t u:Tok) (s:Shared) (Q:Value->Shared->Prop) (E:Value->Shared->Prop),Q (.int (g i j) s.toks) { s with toks:=s.toks+1 }->wpAny (model X.prog X.w) X.A (f (.int i t) (.int j u)) Q E s) :
  OpR X f (rI0 λi j=>.int (g i j)):=by
 intro pins s σ H x y v u Q I rx ry h;obtain ⟨i,j,rfl,rfl,q⟩:=h;obtain ⟨t,rfl⟩:=rx;obtain ⟨t',rfl⟩:=ry;exact rule i j t t' s _ _ ⟨.int (g i j),H,I.tok _,⟨_,rfl⟩,q⟩
theorem opB0 {f:Value->Value->Sem Value}{g:Int->Int->Bool}
  (rule:∀ (i j:Int) (t u:Tok) (s:Shared) (Q:Value->Shared->Prop) (E:Value->Shared->Prop),Q (.bool (g i j)) s->wpAny (model X.prog X.w) X.A (f (.int i t) (.int j u)) Q E s) :
  OpR X f (rI0 λi j=>.bl (g i j)):=by
 intro pins s σ H x y v u Q I rx ry h;obtain ⟨i,j,rfl,rfl,q⟩:=h;obtain ⟨t,rfl⟩:=rx;obtain ⟨t',rfl⟩:=ry;exact rule i j t t' s _ _ ⟨.bl (g i j),H,I,rfl,q⟩
def CDiv (i j:Int):Prop:=0<j/\j<1073741824
def CPow (i j:Int):Prop:=0<=j/\j<=1000000/\i.natAbs<2 ^ 64
def CMul (i j:Int):Prop:=(-(2 ^ 64)<i/\i<2 ^ 64)\/(-(2 ^ 64)<j/\j<2 ^ 64)
theorem CMul.ok {i j:Int} (h:CMul i j):IntMulOk i j:=by
 rcases h with ⟨h1,h2⟩ | ⟨h1,h2⟩
 ·exact .of_left (intBits_le_64 h1 h2)
 ·exact .of_right (intBits_le_64 h1 h2)
theorem op_add:OpR X (binaryOp .Add) (rI0 λi j=>.int (i+j)):=opI0 λ_ _ _ _ _ _ _ q=>add_int q
theorem op_sub:OpR X (binaryOp .Sub) (rI0 λi j=>.int (i - j)):=opI0 λ_ _ _ _ _ _ _ q=>sub_int q
theorem op_mul:OpR X (binaryOp .Mult) (rI CMul λi j=>.int (i * j)):=opI λ_ _ _ _ _ _ _ hc q=>mul_int q hc.ok
theorem op_fdiv:OpR X (binaryOp .FloorDiv) (rI CDiv λi j=>.int (i / j)):=opI λi j _ _ _ _ _ hc q=>by
 have h1:=hc.1;have h2:=hc.2;exact floordiv_int (by lia) (by rw [Int.fdiv_eq_ediv_of_nonneg i (by lia)];exact q) (.inl (PyProof.noPylong_small (by lia)))
theorem op_mod:OpR X (binaryOp .Mod) (rI (λ_ j=>0<j) λi j=>.int (i % j)):=opI λi j _ _ _ _ _ hc q=>by
 have h1:=hc;exact mod_int' (by lia) (by rw [Int.fmod_eq_emod_of_nonneg i (by lia)];exact q)
theorem op_pow:OpR X (binaryOp .Pow) (rI CPow λi j=>.int (i ^ j.toNat)):=opI λ_ _ _ _ _ _ _ hc q=>pow_int_small hc.1 hc.2.1 hc.2.2 q
end
def scal:V->V->Bool
 | .non,.non=>true | .non,.int _=>true | .int _,.non=>true | .non,.bl _=>true | .bl _,.non=>true | .non,.str _=>true | .str _,.non=>true
 | .int _,.int _=>true | .bl _,.bl _=>true | .str _,.str _=>true | .byt _,.byt _=>true
 | .int _,.str _=>true | .str _,.int _=>true | .bl _,.str _=>true | .str _,.bl _=>true
 | _,_=>false
def rEq:R2:=λx y H Q=>scal x y=true/\Q (.bl (decide (x=y))) H
def rNe:R2:=λx y H Q=>scal x y=true/\Q (.bl (!decide (x=y))) H
theorem dec_int {i j:Int}:decide (V.int i=V.int j)=(i == j):=by
 rw [Bool.eq_iff_iff];simp
theorem dec_bl {i j:Bool}:decide (V.bl i=V.bl j)=(i == j):=by
 rw [Bool.eq_iff_iff];simp
theorem dec_str {i j:Str}:decide (V.str i=V.str j)=(i == j):=by
 rw [Bool.eq_iff_iff];simp
theorem dec_byt {i j:Array UInt8}:decide (V.byt i=V.byt j)=(i.toList == j.toList):=by
 rw [Bool.eq_iff_iff];cases i;cases j;simp
section
variable {X:Cx}{a b c:Expr}{ta tb tc:TE}{pos:Pos}
theorem fin_bl {pins:List (Addr×Obj)}{σ:St}{H:Hp}{s:Shared}{Q:VK}{k k':Bool} (I:Inv X pins σ H s) (q:Q (.bl k) H) (e:k=k'):EP X pins σ Q (.bool k') s:=by
 subst e;exact ⟨.bl k,H,I,rfl,q⟩
theorem op_eq:OpR X (compareOp .Eq) rEq:=by
 intro pins s σ H x y v u Q I rx ry h;obtain ⟨hs,q⟩:=h;cases x with
 | non=>
  cases rx;cases y with
  | non=>cases ry;exact PySem.EqNone.eq_none_none (fin_bl I q (by simp))
  | bl j=>cases ry;exact PySem.EqNone.eq_none_bool (fin_bl I q (by simp))
  | int j=>obtain ⟨t',rfl⟩:=ry;exact PySem.EqNone.eq_none_int (fin_bl I q (by simp))
  | str j=>obtain ⟨t',rfl⟩:=ry;exact PySem.EqNone.eq_none_str (fin_bl I q (by simp))
  | _=>exact absurd (show false=true from hs) Bool.false_ne_true
 | bl i=>
  cases rx;cases y with
  | non=>cases ry;exact PySem.EqNone.eq_bool_none (fin_bl I q (by simp))
  | bl j=>cases ry;exact eq_bool (fin_bl I q dec_bl)
  | str j=>obtain ⟨t',rfl⟩:=ry;exact PySem.EqMixed.eq_bool_str (fin_bl I q (by simp))
  | _=>exact absurd (show false=true from hs) Bool.false_ne_true
 | int i=>
  obtain ⟨t,rfl⟩:=rx;cases y with
  | non=>cases ry;exact PySem.EqNone.eq_int_none (fin_bl I q (by simp))
  | int j=>obtain ⟨t',rfl⟩:=ry;exact eq_int (fin_bl I q dec_int)
  | str j=>obtain ⟨t',rfl⟩:=ry;exact PySem.EqMixed.eq_int_str (fin_bl I q (by simp))
  | _=>exact absurd (show false=true from hs) Bool.false_ne_true
 | str i=>
  obtain ⟨t,rfl⟩:=rx;cases y with
  | non=>cases ry;exact PySem.EqNone.eq_str_none (fin_bl I q (by simp))
  | bl j=>cases ry;exact PySem.EqMixed.eq_str_bool (fin_bl I q (by simp))
  | int j=>obtain ⟨t',rfl⟩:=ry;exact PySem.EqMixed.eq_str_int (fin_bl I q (by simp))
  | str j=>obtain ⟨t',rfl⟩:=ry;exact eq_str (fin_bl I q dec_str)
  | _=>exact absurd (show false=true from hs) Bool.false_ne_true
 | byt i=>
  obtain ⟨t,rfl⟩:=rx;cases y with
  | byt j=>obtain ⟨t',rfl⟩:=ry;exact PySem.W.eq_bytes (fin_bl I q dec_byt)
  | _=>exact absurd (show false=true from hs) Bool.false_ne_true
 | _=>cases y <;> exact absurd (show false=true from hs) Bool.false_ne_true
theorem op_ne:OpR X (compareOp .NotEq) rNe:=by
 intro pins s σ H x y v u Q I rx ry h;obtain ⟨hs,q⟩:=h;cases x with
 | non=>
  cases rx;cases y with
  | non=>cases ry;exact PySem.EqNone.ne_none_none (fin_bl I q (by simp))
  | bl j=>cases ry;exact PySem.EqNone.ne_none_bool (fin_bl I q (by simp))
  | int j=>obtain ⟨t',rfl⟩:=ry;exact PySem.EqNone.ne_none_int (fin_bl I q (by simp))
  | str j=>obtain ⟨t',rfl⟩:=ry;exact PySem.EqNone.ne_none_str (fin_bl I q (by simp))
  | _=>exact absurd (show false=true from hs) Bool.false_ne_true
 | bl i=>
  cases rx;cases y with
  | non=>cases ry;exact PySem.EqNone.ne_bool_none (fin_bl I q (by simp))
  | bl j=>cases ry;exact ne_bool (fin_bl I q (congrArg not dec_bl))
  | str j=>obtain ⟨t',rfl⟩:=ry;exact PySem.EqMixed.ne_bool_str (fin_bl I q (by simp))
  | _=>exact absurd (show false=true from hs) Bool.false_ne_true
 | int i=>
  obtain ⟨t,rfl⟩:=rx;cases y with
  | non=>cases ry;exact PySem.EqNone.ne_int_none (fin_bl I q (by simp))
  | int j=>obtain ⟨t',rfl⟩:=ry;exact ne_int (fin_bl I q (congrArg not dec_int))
  | str j=>obtain ⟨t',rfl⟩:=ry;exact PySem.EqMixed.ne_int_str (fin_bl I q (by simp))
  | _=>exact absurd (show false=true from hs) Bool.false_ne_true
 | str i=>
  obtain ⟨t,rfl⟩:=rx;cases y with
  | non=>cases ry;exact PySem.EqNone.ne_str_none (fin_bl I q (by simp))
  | bl j=>cases ry;exact PySem.EqMixed.ne_str_bool (fin_bl I q (by simp))
  | int j=>obtain ⟨t',rfl⟩:=ry;exact PySem.EqMixed.ne_str_int (fin_bl I q (by simp))
  | str j=>obtain ⟨t',rfl⟩:=ry;exact ne_str (fin_bl I q (congrArg not dec_str))
  | _=>exact absurd (show false=true from hs) Bool.false_ne_true
 | byt i=>
  obtain ⟨t,rfl⟩:=rx;cases y with
  | byt j=>obtain ⟨t',rfl⟩:=ry;exact PySem.W.ne_bytes (fin_bl I q (congrArg not dec_byt))
  | _=>exact absurd (show false=true from hs) Bool.false_ne_true
 | _=>cases y <;> exact absurd (show false=true from hs) Bool.false_ne_true
theorem op_lt:OpR X (compareOp .Lt) (rI0 λi j=>.bl (decide (i<j))):=opB0 λ_ _ _ _ _ _ _ q=>lt_int q
theorem op_le:OpR X (compareOp .LtE) (rI0 λi j=>.bl (decide (i<=j))):=opB0 λ_ _ _ _ _ _ _ q=>le_int q
theorem op_gt:OpR X (compareOp .Gt) (rI0 λi j=>.bl (decide (j<i))):=opB0 λ_ _ _ _ _ _ _ q=>gt_int q
theorem op_ge:OpR X (compareOp .GtE) (rI0 λi j=>.bl (decide (j<=i))):=opB0 λ_ _ _ _ _ _ _ q=>ge_int q
theorem op_isN:OpR X (compareOp .Is) (λx y H Q=>y = .non/\Q (.bl (decide (x = .non))) H):=by
 intro pins s σ H x y v u Q I rx ry h;obtain ⟨rfl,q⟩:=h;cases ry;refine is_none_gen (fin_bl I q ?_);cases x <;> first
  | (cases rx;rfl)
  | (obtain ⟨t,rfl⟩:=rx;rfl)
theorem nomark (b:Expr) {op:CmpOp} (h:op ≠ .In:=by decide) (h2:op ≠ .NotIn:=by decide):behindInMarks op b=false:=by
 have e1:(op == CmpOp.In)=false:=by cases op <;> first | rfl | exact absurd rfl h
 have e2:(op == CmpOp.NotIn)=false:=by cases op <;> first | rfl | exact absurd rfl h2
 cases b <;> simp [behindInMarks,e1,e2]
theorem pe_cmpR {op:CmpOp}{r:R2} (ho:OpR X (compareOp op) r) (ha:PE X a ta) (hb:PE X b tb) (hm:behindInMarks op b=false):PE X (.Compare a [op] [b] pos) (tOp r ta tb):=by
 intro pins s σ H Q I h;exact wpAny_Compare1 (binT ha hb I h λv u s2 x y H2 I2 rx ry q=>ho pins s2 σ H2 x y v u Q I2 rx ry q) hm
def tTest (t:TE):TT:=λσ H Q=>t σ H λx H'=>∃ k,x = .bl k/\Q k H'
theorem pt_cmpR {op:CmpOp}{r:R2} (ho:OpR X (compareOp op) r) (ha:PE X a ta) (hb:PE X b tb) (hm:behindInMarks op b=false):PT X (.Compare a [op] [b] pos) (tTest (tOp r ta tb)):=by
 intro pins s σ H Q I h;refine wpAny_isTrue_Compare1 (thn (ha pins s σ H _ I h) λv s1 ⟨x,H1,I1,r1,q1⟩=>thn (hb pins s1 σ H1 _ I1 q1) λu s2 ⟨y,H2,I2,r2,q2⟩=>
  thn (ho pins s2 σ H2 x y v u _ I2 r1 r2 q2) λc s3 ⟨z,H3,I3,r3,k,e,q3⟩=>?_) hm
 subst e;cases r3;exact wpAny_truthy_bool ⟨H3,I3,q3⟩
def tChain (r r':R2) (ta tb tc:TE):TE:=λσ H Q=>ta σ H λx H1=>tb σ H1 λy H2=>r x y H2 λz H3=>∃ k,z = .bl k /\
 (if k=true then tc σ H3 λw' H4=>r' y w' H4 Q else Q (.bl false) H3)
theorem pe_chain {op op':CmpOp}{r r':R2} (ho:OpR X (compareOp op) r) (ho':OpR X (compareOp op') r') (ha:PE X a ta) (hb:PE X b tb) (hc:PE X c tc)
  (hm:lastMarks [op,op'] [b,c]=false:=by with_unfolding_all rfl):PE X (.Compare a [op,op'] [b,c] pos) (tChain r r' ta tb tc):=by
 intro pins s σ H Q I h;refine Compare_chain (thn (ha pins s σ H _ I h) λv s1 ⟨x,H1,I1,r1,q1⟩=>chain_link (thn (hb pins s1 σ H1 _ I1 q1) λu s2 ⟨y,H2,I2,r2,q2⟩=>
  thn (ho pins s2 σ H2 x y v u _ I2 r1 r2 q2) λd s3 ⟨z,H3,I3,r3,k,e,q3⟩=>?_)) hm
 subst e;cases r3;refine wpAny_truthy_bool ?_;cases k with
 | false=>exact ite_ff ⟨.bl false,H3,I3,rfl,q3⟩
 | true=>exact ite_tt (chain_last (thn (hc pins s3 σ H3 _ I3 q3) λw' s4 ⟨z',H4,I4,r4,q4⟩=>ho' pins s4 σ H4 y z' u w' Q I4 r2 r4 q4))
theorem pt_chain {op op':CmpOp}{r r':R2} (ho:OpR X (compareOp op) r) (ho':OpR X (compareOp op') r') (ha:PE X a ta) (hb:PE X b tb) (hc:PE X c tc)
  (hm:lastMarks [op,op'] [b,c]=false:=by with_unfolding_all rfl):PT X (.Compare a [op,op'] [b,c] pos) (tTest (tChain r r' ta tb tc)):=by
 intro pins s σ H Q I h;refine isTrue_chain (thn (ha pins s σ H _ I h) λv s1 ⟨x,H1,I1,r1,q1⟩=>test_link (thn (hb pins s1 σ H1 _ I1 q1) λu s2 ⟨y,H2,I2,r2,q2⟩=>
  thn (ho pins s2 σ H2 x y v u _ I2 r1 r2 q2) λd s3 ⟨z,H3,I3,r3,k,e,q3⟩=>?_)) hm
 subst e;cases r3;refine wpAny_truthy_bool ?_;cases k with
 | false=>
  obtain ⟨k',e',q'⟩:=q3;cases e';exact ite_ff ⟨H3,I3,q'⟩
 | true=>
  refine ite_tt (test_last (thn (hc pins s3 σ H3 _ I3 q3) λw' s4 ⟨z',H4,I4,r4,q4⟩=>thn (ho' pins s4 σ H4 y z' u w' _ I4 r2 r4 q4) λd' s5 ⟨z2,H5,I5,r5,k2,e2,q5⟩=>?_));subst e2;cases r5;exact wpAny_truthy_bool ⟨H5,I5,q5⟩
theorem line63:(sizeLine:Nat)<2 ^ 63:=by rw [sizeLine_eq];decide
theorem op_add_str:OpR X (binaryOp .Add) (λx y H Q=>∃ i j,x = .str i/\y = .str j/\i.length+j.length<=sizeLine/\Q (.str (i++j)) H):=by
 intro pins s σ H x y v u Q I rx ry h;obtain ⟨i,j,rfl,rfl,hz,q⟩:=h;obtain ⟨t,rfl⟩:=rx;obtain ⟨t',rfl⟩:=ry;exact add_str (λt' tk=>⟨.str (i++j),H,I.tok _,⟨_,rfl⟩,q⟩) hz
theorem vals1 {x:V}{us:List Value} (r:Vals [x] us):∃ u,us=[u]/\RelV x u:=by
 cases r with
 | cons r1 r2=>cases r2;exact ⟨_,rfl,r1⟩
theorem vals2 {x y:V}{us:List Value} (r:Vals [x,y] us):∃ u w',us=[u,w']/\RelV x u/\RelV y w':=by
 cases r with
 | cons r1 r2=>
  cases r2 with
  | cons r3 r4=>cases r4;exact ⟨_,_,rfl,r1,r3⟩
end
end L2
namespace L2
open PySem PySem.Spec PyProof.Rows
structure ObjM (h:Heap) (x dx C:Addr) (mA:Str->Option Value):Prop where
 obj:h.get? x=some (PySem.W.instObj C dx)
 ns:h.Ns1 dx mA
 ne:dx≠x
theorem lookIn_ns {h:Heap}{dx:Addr}{mA:Str->Option Value} (n:h.Ns1 dx mA):∃ od,h.get? dx=some od/\∀ name,PySem.W.lookIn name od=some (mA name):=by
 obtain ⟨o,es,ep,ho,hd,hk,_,hm⟩:=n;refine ⟨o,ho,λname=>?_⟩;have e:=hm name;unfold nsFind findBy at e;rw [<-Array.find?_toList] at e;unfold PySem.W.lookIn;rw [hd];dsimp only
 split
 ·rename_i y q;rw [q] at e;exact congrArg some e
 ·rename_i q;rw [q] at e;have a:es.toList.any (·.refKey)=false:=by
   rw [List.any_eq_false];intro y hy;obtain ⟨z,t,hkey⟩:=hk y (Array.mem_toList_iff.mp hy);simp [DictEntry.refKey,hkey]
  have a':¬ es.toList.any (·.refKey)=true:=by rw [a];exact Bool.false_ne_true
  rw [if_neg a'];exact congrArg some e
theorem ObjM.look {h:Heap}{x dx C:Addr}{mA:Str->Option Value} (I:ObjM h x dx C mA):∃ od,PySem.W.InstAt h x (PySem.W.instObj C dx) C (some od)/\∀ name,PySem.W.lookIn name od=some (mA name):=
 let ⟨od,ho,hl⟩:=lookIn_ns I.ns
 ⟨od,⟨I.obj,rfl,rfl,ho⟩,hl⟩
section
variable {prog:Program}{w:World}{A:Around}{E:Value->Shared->Prop}{s:Shared}{K:PySem.W.Frag}{x dx C f:Addr}{mA:Str->Option Value}{name:Str}{v:Value}
end
theorem RelO.some_of {v:V}{o:Option Value} (r:RelO (some v) o):∃ u,o=some u/\RelV v u:=by
 cases o with
 | none=>exact (show False from r).elim
 | some u=>exact ⟨u,rfl,r⟩
section
variable {P:Program}{w:World}{H H':Hp}{h h':Heap}{a C dx:Addr}{fs fs':List (Str×V)}
theorem ins_get (hok:HOk P w H h) (e:H a=some (.ins C dx fs)):∃ mA,ObjM h a dx C mA/\(∀ f,RelO (fs.lookup f) (mA f))/\PySem.Within mA (fs.map (·.1))/\fs.length<=1000/\H dx=some (.own a):=by
 obtain ⟨d,z,ne,ob,mA,n,r,q⟩:=(show ObjOk P w H h a (.ins C dx fs) from hok a _ e);exact ⟨mA,⟨ob,n,ne⟩,r,q,z,d⟩
end
structure Cls (K:PySem.W.Frag) (C:Addr):Prop where
 pg:PySem.W.plainGet K C Str.empty=true
 hd:PySem.W.hasDictIn K C=true
 po:PySem.W.plainOver K C=true
 sa:PySem.W.findIn K (.ref C) "__setattr__" = some (some (.builtin "object.__setattr__"))
theorem Cls.get {K:PySem.W.Frag}{C:Addr} (c:Cls K C) (f:Str):PySem.W.plainGet K C f=true:=c.pg
structure Con (K:PySem.W.Frag) (C:Addr) (f:Str) (v:V) (u:Value):Prop where
 at_:PySem.W.findIn K (.ref C) f=some (some u)
 rel:RelV v u
 get:PySem.W.specialIn K u "__get__" = some none
 cp:PySem.W.copiedNames.contains f=false
structure Meth (K:PySem.W.Frag) (C:Addr) (m:Str) (f:Addr):Prop where
 at_:PySem.W.findIn K (.ref C) m=some (some (.ref f))
 fn:PySem.W.isFn K (.ref f)=true
 kp:PySem.W.keepIn K (.ref f)=true
section
variable {X:Cx}{pins:List (Addr×Obj)}{σ:St}{H:Hp}{s:Shared}{a C dx:Addr}{fs:List (Str×V)}{f:Str}{v:V}{A:Around}{E:Value->Shared->Prop}
end
section
variable {X:Cx}{o e value:Expr}{f:Str}{pos pos' tpos:Pos}{ta tv:TE}
end
section
variable {X:Cx}{pins:List (Addr×Obj)}{σ:St}{H:Hp}{s:Shared}{A:Around}{E:Value->Shared->Prop}{Q:Value->Shared->Prop}{c:Value}{b:Bool}
inductive TyOf (K:PySem.W.Frag) (H:Hp):V->Value->Prop where
 | non:TyOf K H .non (.type "NoneType")
 | bl (x:Bool):TyOf K H (.bl x) (.type "bool")
 | int (i:Int):TyOf K H (.int i) (.type "int")
 | str (x:Str):TyOf K H (.str x) (.type "str")
 | flt (x:UInt64):TyOf K H (.flt x) (.type "float")
 | lst {a:Addr}{xs:List V} (e:H a=some (.lst xs)):TyOf K H (.ref a) (.type "list")
 | frz {a:Addr}{o:Obj}{xs:List V} (e:H a=some (.frz o (.lst xs))):TyOf K H (.ref a) (.type "list")
 | tup {a:Addr}{xs:List V} (e:H a=some (.tup xs)):TyOf K H (.ref a) (.type "tuple")
 | dK {a:Addr}{kvs:List (Key×V)} (e:H a=some (.dK kvs)):TyOf K H (.ref a) (.type "dict")
 | dT {a:Addr}{kvs:List (List Key×V)} (e:H a=some (.dT kvs)):TyOf K H (.ref a) (.type "dict")
 | ins {a C dx:Addr}{fs:List (Str×V)} (e:H a=some (.ins C dx fs)) (cl:Cls K C) (ha:PySem.W.findIn K (.ref C) "__class__" = some (some (.builtin "object.__class__")))
   (hn:PySem.W.specialIn K (.builtin "object.__class__") "__get__" = some (some (.builtin "getset_descriptor.__get__"))) (htk:PySem.W.takesIn K (.builtin "object.__class__")=some true)
   (hm:PySem.W.mroIn K C (.type "object")=some true):TyOf K H (.ref a) (.ref C)
theorem isinst_ok {x:V}{u t:Value} (I:Inv X pins σ H s) (rx:RelV x u) (ty:TyOf X.K H x t) (e:PySem.W.kitOne X.K t c=some b) (h:∀ tk,Q (.bool b) { s with toks:=tk }) :
  wpAny (model X.prog X.w) A (call (.builtin "isinstance") [u,c]) Q E s:=by
 cases ty with
 | non=>cases (show u=Value.none from rx);exact PySem.W.kia_one PySem.W.kitx_none I.kIn True.intro e (λz=>nomatch z) h
 | bl y=>cases (show u=Value.bool y from rx);exact PySem.W.kia_one PySem.W.kitx_bool I.kIn True.intro e (λz=>nomatch z) h
 | int i=>obtain ⟨t,q⟩:=(show ∃ t,u=Value.int i t from rx);cases q;exact PySem.W.kia_one PySem.W.kitx_int I.kIn True.intro e (λz=>nomatch z) h
 | str y=>obtain ⟨t,q⟩:=(show ∃ t,u=Value.str y t from rx);cases q;exact PySem.W.kia_one PySem.W.kitx_str I.kIn True.intro e (λz=>nomatch z) h
 | flt y=>obtain ⟨t,q⟩:=(show ∃ t,u=Value.float y t from rx);cases q;exact PySem.W.kia_one PySem.W.kitx_float I.kIn True.intro e (λz=>nomatch z) h
 | @lst a xs ea=>
  cases (show u=Value.ref a from rx);obtain ⟨_,_,n,_,h1⟩:=(show ObjOk X.prog X.w H s.heap a (.lst xs) from I.hok a _ ea);exact PySem.W.kia_one PySem.W.kitx_list I.kIn ⟨_,h1,rfl⟩ e (λz=>nomatch z) h
 | @frz a ob xs ea=>
  cases (show u=Value.ref a from rx);obtain ⟨_,_,_,n,_,h1⟩:=(show ObjOk X.prog X.w H s.heap a (.frz ob (.lst xs)) from I.hok a _ ea);exact PySem.W.kia_one PySem.W.kitx_list I.kIn ⟨_,h1,rfl⟩ e (λz=>nomatch z) h
 | @tup a xs ea=>
  cases (show u=Value.ref a from rx);obtain ⟨_,_,_,p⟩:=(show ObjOk X.prog X.w H s.heap a (.tup xs) from I.hok a _ ea);obtain ⟨o,h1,h2,_⟩:=p;exact PySem.W.kia_one PySem.W.kitx_tuple I.kIn ⟨o,h1,h2⟩ e (λz=>nomatch z) h
 | @dK a kvs ea=>
  cases (show u=Value.ref a from rx);obtain ⟨_,_,vs,_,p⟩:=(show ObjOk X.prog X.w H s.heap a (.dK kvs) from I.hok a _ ea);obtain ⟨o,es,ep,h1,h2,_⟩:=p;exact PySem.W.kia_one PySem.W.kitx_dict I.kIn ⟨o,h1,h2.1⟩ e (λz=>nomatch z) h
 | @dT a kvs ea=>
  cases (show u=Value.ref a from rx);obtain ⟨_,_,xs,_,o,es,ep,h1,h2,_⟩:=(show ObjOk X.prog X.w H s.heap a (.dT kvs) from I.hok a _ ea);exact PySem.W.kia_one PySem.W.kitx_dict I.kIn ⟨o,h1,h2.1⟩ e (λz=>nomatch z) h
 | @ins a C dx fs ea cl ha hn htk hm=>
  cases (show u=Value.ref a from rx);obtain ⟨mA,O,_⟩:=ins_get I.hok ea;obtain ⟨od,J,_⟩:=O.look;exact PySem.W.kia_one (PySem.W.kitx_own (cl.get _) cl.hd ha hn htk hm) I.kIn J e (λz=>nomatch z) h
end
end L2
namespace L2
open PySem PySem.Spec PyProof.Rows
structure Room (k:Nat) (A:Around):Prop where
 hd:A.handled=none
 dp:A.depth+3 * k+5<recursionLimit
 un:A.units+16 * k+200<cLine
 gd:A.guards=some []
theorem Room.mono {j k:Nat}{A:Around} (r:Room k A) (h:j<=k):Room j A:=⟨r.hd,by have:=r.dp;lia,by have:=r.un;lia,r.gd⟩
theorem Room.deeper {k:Nat}{A:Around} (r:Room (k+1) A) (env:Env):Room k (A.deeper env):=
 ⟨r.hd,by have:=r.dp;show A.depth+1+3 * k+5<_;lia,by have:=r.un;show A.units+3+16 * k+200<_;lia,r.gd⟩
theorem Room.in1 {k:Nat}{A:Around} (r:Room (k+1) A):Room k A.in1:=
 ⟨r.hd,by have:=r.dp;show A.depth+3 * k+5<_;lia,by have:=r.un;show A.units+1+16 * k+200<_;lia,r.gd⟩
theorem Room.depth {k:Nat}{A:Around} (r:Room k A):A.depth<recursionLimit:=by have:=r.dp;lia
theorem Room.units {k:Nat}{A:Around} (r:Room k A):A.units+64<cLine:=by have:=r.un;lia
def tNil:TA:=λ_ H Q=>Q [] H
def tCons (ta:TE) (tr:TA):TA:=λσ H Q=>ta σ H λx H1=>tr σ H1 λxs H2=>Q (x::xs) H2
section
variable {X:Cx}{e:Expr}{es:List Expr}{te:TE}{t:TA}{pos:Pos}
theorem pa_nil:PA X [] tNil:=λ_ _ _ _ H Q I h=>Calls.spliced_nil ⟨[],H,I,.nil,h⟩
theorem pa_cons (ha:PE X e te) (hr:PA X es t) (hs:starEach (e::es) X.env=(false,eval e X.env)::starEach es X.env:=by rfl):PA X (e::es) (tCons te t):=by
 intro pos pins s σ H Q I h;rw [hs];show wpAny _ _ (spliced ((false,eval e X.env)::backTo pos (starEach es X.env))) _ _ s;refine Calls.spliced_cons (thn (ha pins s σ H _ I h) λu s1 ⟨x,H1,I1,r1,q1⟩=>?_);exact thn (hr pos pins s1 σ H1 _ I1 q1) λus s2 ⟨xs,H2,I2,r2,q2⟩=>⟨x::xs,H2,I2,.cons r1 r2,q2⟩
def tTup (t:TA):TE:=λσ H Q=>t σ H λxs H1=>xs.length<=sizeLine/\∀ p,H1 p=none->Q (.ref p) (upd H1 p (.tup xs))
def tLst (t:TA):TE:=λσ H Q=>t σ H λxs H1=>xs.length<=sizeLine/\∀ p,H1 p=none->Q (.ref p) (upd H1 p (.lst xs))
theorem pe_tup {x1} (h:PA X es t):PE X (.Tuple es x1 pos) (tTup t):=by
 intro pins s σ H Q I hq;refine wpAny_Tuple_spliced (thn (h pos pins s σ H _ I hq) λus s1 ⟨xs,H1,I1,r,z,q⟩=>⟨by rw [<-r.length];exact z,?_⟩);have hf:=I1.hok.fresh (Nat.le_refl _);refine ⟨.ref s1.heap.objs.size,upd H1 s1.heap.objs.size (.tup xs),I1.laid (t':=s1.toks) (λb u e=>Heap.get?_push_of_some _ e) (Nat.le_refl _) ?_,rfl,q _ hf⟩;exact ⟨z,us,r,⟨_,Heap.get?_push_size _ rfl,rfl,_,rfl⟩⟩
theorem pe_lst (h:PA X es t):PE X (.List es pos) (tLst t):=by
 intro pins s σ H Q I hq;refine wpAny_List_spliced (thn (h pos pins s σ H _ I hq) λus s1 ⟨xs,H1,I1,r,z,q⟩=>⟨by rw [<-r.length];exact z,?_⟩);have hf:=I1.hok.fresh (Nat.le_refl _);refine ⟨.ref s1.heap.objs.size,upd H1 s1.heap.objs.size (.lst xs),I1.laid (t':=s1.toks) (λb u e=>Heap.get?_push_of_some _ e) (Nat.le_refl _) ?_,rfl,q _ hf⟩;exact ⟨z,us,0,r,Heap.get?_push_size _ rfl⟩
end
abbrev Sp:=List V->Hp->VK->XK->Prop
abbrev CXT:=List Env->Hp->Shared->XK->Value->Shared->Prop
structure Env0 (P:Program) (w:World) (K:PySem.W.Frag) (mg:Str->Option Value) (base:Heap) (A:Around) (outer:List Env) (s:Shared) (H:Hp):Prop where
 frames:A.frames=some outer
 mod:Mod K mg base
 bs:∀ b o,base.get? b=some o->s.heap.get? b=some o/\H b=none
 bsz:base.objs.size<=s.heap.objs.size
 funs:s.heap.FunFrames base outer
 frf:∀ b∈frs outer,H b=none
 hok:HOk P w H s.heap
 bare:AllBare s.gens
def CE (outer:List Env) (P:Program) (w:World) (H:Hp) (s:Shared) (Q:VK) (u:Value) (s':Shared):Prop:=
 ∃ v H',s'.os=s.os/\AllBare s'.gens/\Un (frs outer) [] H H' s.heap s'.heap/\HOk P w H' s'.heap/\RelV v u/\Q v H'
def CR (CX:CXT) (outer:List Env) (P:Program) (w:World) (H:Hp) (s:Shared) (Q:VK) (E:XK) (r:Result) (s':Shared):Prop:=
 match r with
 | .ok (.ret u)=>CE outer P w H s Q u s'
 | .ok _=>False
 | .error e=>CX outer H s E e s'
structure FnOk (P:Program) (w:World) (K:PySem.W.Frag) (mg:Str->Option Value) (base:Heap) (CX:CXT) (k:Nat) (f:Addr) (fd:FuncData) (ps:List Str) (sp:Sp):Prop where
 len:∀ vs H Q E,sp vs H Q E->vs.length=ps.length
 run:∀ (A:Around) (outer:List Env) (s:Shared) (H:Hp) (args:Args) (us:List Value) (vs:List V) (Q:VK) (E:XK),Room k A->Env0 P w K mg base A outer s H->BindsTo s fd args (ps.zip us)->Vals vs us->sp vs H Q E ->
  codeAny (model P w) A (.call (.ref f) args) (CR CX outer P w H s Q E) s
theorem FnOk.mono {P:Program}{w:World}{K:PySem.W.Frag}{mg:Str->Option Value}{base:Heap}{CX:CXT}{j k:Nat}{f:Addr}{fd:FuncData}{ps:List Str}{sp:Sp} (F:FnOk P w K mg base CX j f fd ps sp) (h:j<=k) :
  FnOk P w K mg base CX k f fd ps sp:=⟨F.len,λA outer s H args us vs Q E hr=>F.run A outer s H args us vs Q E (hr.mono h)⟩
theorem Env0.in1 {P:Program}{w:World}{K:PySem.W.Frag}{mg:Str->Option Value}{base:Heap}{A:Around}{outer:List Env}{s:Shared}{H:Hp} (e:Env0 P w K mg base A outer s H) :
  Env0 P w K mg base A.in1 outer s H:=⟨e.frames,e.mod,e.bs,e.bsz,e.funs,e.frf,e.hok,e.bare⟩
section
variable {X:Cx}{pins:List (Addr×Obj)}{σ:St}{H:Hp}{s s':Shared}
theorem Inv.env0 (I:Inv X pins σ H s):Env0 X.prog X.w X.K X.mg X.base X.A X.stack s H:=
 ⟨I.ok.frames,I.ok.mod,I.bs,Nat.le_trans I.ok.bsz I.sz,I.stack,I.stkFree,I.hok,I.bare⟩
theorem Inv.after {Q:VK}{u:Value} (I:Inv X pins σ H s) (h:CE X.stack X.prog X.w H s Q u s'):EP X pins σ Q u s':=by
 obtain ⟨v,H',os,bare,un,hok,r,q⟩:=h;obtain ⟨hh,g,d,t,os'⟩:=s';obtain rfl:os' = s.os:=os;exact ⟨v,H',I.call (h':=hh) (g':=g) (d':=d) (t':=t) (ch:=[]) un hok bare (λb z=>absurd z (by simp)),r,q⟩
end
def tCall (sp:Sp) (dvs:List V) (E:XK) (t:TA):TE:=λσ H Q=>t σ H λvs H1=>sp (vs++dvs) H1 Q E
def Binds (K:PySem.W.Frag) (fd:FuncData) (ps:List Str) (ds:List Value):Prop:=
 ∀ (s:Shared) (us:List Value),K.In s.heap->(us++ds).length=ps.length->BindsTo s fd ⟨us,[]⟩ (ps.zip (us++ds))
theorem Binds.all {K:PySem.W.Frag}{fd:FuncData}{ps:List Str} (h:∀ us:List Value,us.length=ps.length->bindArgs fd ⟨us,[]⟩=pure (ps.zip us)):Binds K fd ps []:=λs us _ hl=>by
 rw [List.append_nil] at hl ⊢;exact .of_eq (h us hl)
def Passes (CX:CXT) (X:Cx) (E:XK):Prop:=∀ (pins:List (Addr×Obj)) (σ:St) (H:Hp) (s:Shared) (e:Value) (s':Shared),Inv X pins σ H s->CX X.stack H s E e s'->X.xe e s'
section
variable {X:Cx}{CX:CXT}{k:Nat}{f C:Addr}{fd:FuncData}{ps:List Str}{sp:Sp}{dvs:List V}{ds:List Value}{E:XK}{x m:Str}{p pos apos:Pos}{e o:Expr}{es:List Expr}{ta:TE}{t:TA}
theorem run_fn {pins:List (Addr×Obj)}{σ:St}{H:Hp}{s:Shared}{Q:VK}{us:List Value}{vs:List V} (F:FnOk X.prog X.w X.K X.mg X.base CX k f fd ps sp) (hr:Room k X.A) (hb:Binds X.K fd ps ds) (hd:Vals dvs ds) (hx:Passes CX X E)
  (I:Inv X pins σ H s) (r:Vals vs us) (h:sp (vs++dvs) H Q E):wpAny (model X.prog X.w) X.A (call (.ref f) us) (EP X pins σ Q) X.xe s:=by
 have r2:=r.append hd;have hl:(us++ds).length=ps.length:=by rw [<-r2.length];exact F.len _ _ _ _ h
 refine wpAny_call (codeAny_mono (F.run X.A X.stack s H ⟨us,[]⟩ (us++ds) (vs++dvs) Q E hr I.env0 (hb s us I.kIn hl) r2 h) λr s' hq=>?_);cases r with
 | error e=>exact hx pins σ H s e s' I hq
 | ok fl=>
  cases fl with
  | ret u=>exact I.after hq
  | next=>exact False.elim hq
  | brk=>exact False.elim hq
  | cont=>exact False.elim hq
theorem pe_call (F:FnOk X.prog X.w X.K X.mg X.base CX k f fd ps sp) (hr:Room k X.A) (hg:Gl X x) (hm:X.mg x=some (.ref f)) (hk:PySem.W.keepIn X.K (.ref f)=true) (hb:Binds X.K fd ps ds) (hd:Vals dvs ds) (hx:Passes CX X E)
  (ha:PA X (e::es) t) (hdb:(x == ("__debug__" : Str))=false:=by decide) (he:starEach (e::es) X.env=(false,eval e X.env)::starEach es X.env:=by rfl) (hpl:(backTo pos (starEach es X.env)).any (·.1)=false:=by rfl) :
  PE X (.Call (.Name x p) (e::es) [] pos) (tCall sp dvs E t):=by
 intro pins s σ H Q I h;refine wpAny_Call_Name_kw (ld_glob I hg hm ?_ hdb);refine PySem.W.callWith_K (h₀:=X.base) I.ok.mod.kin hk (thn (ha pos pins s σ H _ I h) λus s1 ⟨vs,H1,I1,r,q⟩=>⟨I1.kIn,?_⟩) he hpl;exact run_fn F hr hb hd hx I1 r q
structure Mk (K:PySem.W.Frag) (C f:Addr):Prop where
 makes:PySem.W.makesIn K C=true
 init:PySem.W.findIn K (.ref C) "__init__" = some (some (.ref f))
 fn:PySem.W.isFn K (.ref f)=true
 kp:PySem.W.keepIn K (.ref C)=true
end
section
variable {X:Cx}{CX:CXT}{k:Nat}{f C:Addr}{fd:FuncData}{ps ks:List Str}{sp:Sp}{E:XK}{x m:Str}{p pos apos kpos:Pos}{e o:Expr}{es:List Expr}{kws:List Keyword}{te ta:TE}{t tk:TA}{nm:Option Str}
structure KBinds (K:PySem.W.Frag) (fd:FuncData) (ps ks:List Str) (g:List Value->List Value->List Value) (gV:List V->List V->List V):Prop where
 to:∀ (s:Shared) (us ws:List Value),K.In s.heap->(g us ws).length=ps.length->BindsTo s fd ⟨us,ks.zip ws⟩ (ps.zip (g us ws))
 rel:∀ {vs:List V}{us:List Value}{zs:List V}{ws:List Value},Vals vs us->Vals zs ws->Vals (gV vs zs) (g us ws)
variable {g:List Value->List Value->List Value}{gV:List V->List V->List V}
end
structure FnScope (N P:List Str) (sc:Scope):Prop where
 kind:sc.kind = .function
 co:sc.isCoroutine=false
 gen:sc.isGenerator=false
 nd:N.Nodup
 pre:N.take P.length=P
 par:∀ x∈P,sc.names.lookup x=some .local\/sc.names.lookup x=some .cell
 nofree:∀ y∈sc.names,y.2 ≠ .free
theorem bindL_out {kindOf:Str->Option NameKind}{x:Str}:∀ {binds:List (Str×Value)}{m:Str->Option Value},(∀ v,(x,v)∉binds)->bindL kindOf binds m x=m x
 | [],_,_=>rfl
 | (n,v)::r,m,h=>by
  unfold bindL;rw [bindL_out λw hw=>h w (List.mem_cons_of_mem _ hw)]
  split
  ·have:x≠n:=by rintro rfl;exact h v List.mem_cons_self
   simp [this]
  ·rfl
theorem bindC_out {kindOf:Str->Option NameKind}{x:Str}:∀ {binds:List (Str×Value)}{m:Str->Option Value},(∀ v,(x,v)∉binds)->bindC kindOf binds m x=m x
 | [],_,_=>rfl
 | (n,v)::r,m,h=>by
  unfold bindC;rw [bindC_out λw hw=>h w (List.mem_cons_of_mem _ hw)]
  split
  ·rfl
  ·have:x≠n:=by rintro rfl;exact h v List.mem_cons_self
   simp [this]
theorem bindL_get {kindOf:Str->Option NameKind}{x:Str}{v:Value}:∀ {P:List Str}{vs:List Value}{i:Nat}{m:Str->Option Value},P.Nodup->P[i]? = some x->vs[i]? = some v->kindOf x=some .local ->
  bindL kindOf (P.zip vs) m x=some v
 | [],_,_,_,_,h,_,_=>by simp at h
 | _::_,[],_,_,_,_,h,_=>by simp at h
 | p::P,w::vs,0,m,nd,h1,h2,hk=>by
  simp at h1 h2;subst h1;subst h2;show bindL kindOf ((p,w)::P.zip vs) m p=_;unfold bindL;rw [bindL_out λv hv=>(List.nodup_cons.mp nd).1 (List.of_mem_zip hv).1,if_pos hk];simp
 | p::P,w::vs,i+1,m,nd,h1,h2,hk=>by
  show bindL kindOf ((p,w)::P.zip vs) m x=_;unfold bindL;exact bindL_get (i:=i) (List.nodup_cons.mp nd).2 (by simpa using h1) (by simpa using h2) hk
theorem bindC_get {kindOf:Str->Option NameKind}{x:Str}{v:Value}:∀ {P:List Str}{vs:List Value}{i:Nat}{m:Str->Option Value},P.Nodup->P[i]? = some x->vs[i]? = some v->kindOf x≠some .local ->
  bindC kindOf (P.zip vs) m x=some v
 | [],_,_,_,_,h,_,_=>by simp at h
 | _::_,[],_,_,_,_,h,_=>by simp at h
 | p::P,w::vs,0,m,nd,h1,h2,hk=>by
  simp at h1 h2;subst h1;subst h2;show bindC kindOf ((p,w)::P.zip vs) m p=_;unfold bindC;rw [bindC_out λv hv=>(List.nodup_cons.mp nd).1 (List.of_mem_zip hv).1,if_neg hk];simp
 | p::P,w::vs,i+1,m,nd,h1,h2,hk=>by
  show bindC kindOf ((p,w)::P.zip vs) m x=_;unfold bindC;exact bindC_get (i:=i) (List.nodup_cons.mp nd).2 (by simpa using h1) (by simpa using h2) hk
def start (N:List Str) (vs:List V):St:=vs.map some++List.replicate (N.length - vs.length) none
def cxOf (CX:CXT) (P:Program) (w:World) (K:PySem.W.Frag) (mg:Str->Option Value) (base:Heap) (N:List Str) (qual:Str) (scope:Scope) (f:Addr) (cd:Value) (A:Around) (outer:List Env) (s:Shared) (H:Hp) (E:XK):Cx where
 prog:=P
 w:=w
 K:=K
 mg:=mg
 base:=base
 A:=A.deeper (envOfC qual scope s.heap.objs.size f cd)
 N:=N
 s₀:=s
 H₀:=H
 env:=envOfC qual scope s.heap.objs.size f cd
 outer:=outer
 stack:=envOfC qual scope s.heap.objs.size f cd::outer
 ex:=[]
 calm:=true
 fn:=λ_=>true
 pn:=[]
 xe:=λe s'=>wpAny (model P w) (A.deeper (envOfC qual scope s.heap.objs.size f cd)) (leaving (envOfC qual scope s.heap.objs.size f cd) e) (λ_ s''=>CX outer H s E e s'') (λe' s''=>CX outer H s E e' s'') s'
theorem cell_has {sc:Scope}{n:Nat}{x:Str} (h:sc.names.lookup x=some .cell):∃ c,(cellsFrom n sc.names []).lookup x=some c:=by
 have q:=PySem.W.cellsFrom_some sc.names n [] (.inl h);exact Option.isSome_iff_exists.mp q
theorem inv_start {CX:CXT}{P:Program}{w:World}{K:PySem.W.Frag}{mg:Str->Option Value}{base:Heap}{N ps:List Str}{qual:Str}{scope:Scope}{f:Addr}{cd:Value}{A:Around}{outer:List Env}{s s1:Shared}{H:Hp}{E:XK}{us:List Value}{vs:List V}
  (S:FnScope N ps scope) (hd:A.handled=none) (e0:Env0 P w K mg base A outer s H) (hl:vs.length=ps.length) (r:Vals vs us)
  (x:InCallC s s.heap.objs.size (bindL (envOfC qual scope s.heap.objs.size f cd).kindOf (ps.zip us) λ_=>none) (cellsFrom (s.heap.objs.size+1) scope.names []) (bindC (envOfC qual scope s.heap.objs.size f cd).kindOf (ps.zip us) λ_=>none) s1) :
  Inv (cxOf CX P w K mg base N qual scope f cd A outer s H E) [] (start N vs) H s1:=by
 have hpl:ps.length<=N.length:=by have:=congrArg List.length S.pre;rw [List.length_take] at this;lia
 obtain ⟨h1,tk,rfl,hk⟩:=x.done;have noA:∀ b:Addr,b∉(cxOf CX P w K mg base N qual scope f cd A outer s H E).ex:=λb z=>absurd (show b∈([]:List Addr) from z) (by simp);refine ⟨⟨e0.mod,S.kind,rfl,rfl,Nat.le_refl _,λy z c h1 h2=>?_,λy hy=>?_,λy c _ h=>?_,λ_=>hd,Around.frames_deeper e0.frames,.inr ⟨rfl,rfl⟩,λb z=>absurd z (noA b),e0.bs,e0.bsz,λb _ _=>noA b,λb z=>absurd z (noA b),e0.funs,e0.frf⟩,
  rfl,e0.bare,Un.kept hk,⟨_,x.toInCall.ns,λi y v h1 h2 h3=>?_⟩,λy c h=>⟨_,x.cell y c h⟩,e0.hok.fresh (Nat.le_refl _),λy c h=>?_,λp hp=>absurd (show p∈([]:List (Addr×Obj)) from hp) (by simp),e0.hok.kept hk,?_⟩
 ·exact name_of_addr x.apart (PySem.mem_of_lookup h1) (PySem.mem_of_lookup h2)
 ·have hy:=hy;rcases hy with hy | hy
  ·exact cell_has hy
  ·exact absurd rfl (S.nofree _ (PySem.mem_of_lookup hy))
 ·exact Nat.le_of_lt (x.above y c (PySem.mem_of_lookup h))
 ·have hi:i<vs.length:=by
   unfold start at h2;by_cases hi:i<vs.length
   ·exact hi
   ·rw [List.getElem?_append_right (by simpa using hi)] at h2;rw [List.getElem?_replicate] at h2
    split at h2 <;> cases h2
  have ha:vs[i]? = some v:=by
   unfold start at h2;rw [List.getElem?_append_left (by simpa using hi),List.getElem?_map] at h2;cases e:vs[i]? with
   | none=>rw [e] at h2;cases h2
   | some a=>rw [e] at h2;cases h2;rfl
  obtain ⟨u,hu,rv⟩:=r.get ha;have hp:ps[i]? = some y:=by
   rw [<-S.pre,List.getElem?_take_of_lt (by lia)];exact h1
  have ndP:ps.Nodup:=by rw [<-S.pre];exact S.nd.sublist (List.take_sublist _ _)
  refine ⟨u,rv,?_⟩;rcases S.par y (List.mem_of_getElem? hp) with k | k
  ·exact .inl ⟨k,bindL_get ndP hp hu k⟩
  ·obtain ⟨c,e⟩:=cell_has (n:=s.heap.objs.size+1) k;refine .inr ⟨.inl k,c,e,?_⟩;have q:=x.cell y c e;rw [bindC_get ndP hp hu (by show scope.names.lookup y≠_;rw [k];decide)] at q;exact q
 ·exact e0.hok.fresh (Nat.le_of_lt (x.above y c (PySem.mem_of_lookup h)))
 ·unfold start;show _=N.length;rw [List.length_append,List.length_map,List.length_replicate];lia
theorem fn_of {CX:CXT}{P:Program}{w:World}{K:PySem.W.Frag}{mg:Str->Option Value}{base:Heap}{k:Nat}{f:Addr}{name qual:Str}{params:Arguments}{body:List Stmt}{scope:Scope}{dV kV doc pm cdv ct oc:Value}{an od:Option Addr}
  {osl:Array (Option Value)}{N ps:List Str}{sp:Sp} (lk:K.lookup f=some ⟨oc,od,.func (PySem.W.fnOf name qual params body scope dV kV doc pm an cdv ct),osl⟩) (hcd:PySem.W.codeIn K cdv qual=true) (S:FnScope N ps scope)
  (len:∀ vs H Q E,sp vs H Q E->vs.length=ps.length)
  (hbody:∀ (A:Around) (outer:List Env) (s:Shared) (H:Hp) (vs:List V) (Q:VK) (E:XK),Room k (A.deeper (envOfC qual scope s.heap.objs.size f cdv))->sp vs H Q E ->
   ∃ t,PSs (cxOf CX P w K mg base N qual scope f cdv A outer s H E) body t/\t { nx:=λ_ H'=>Q .non H',rt:=Q } (start N vs) H) :
  FnOk P w K mg base CX (k+1) f (PySem.W.fnOf name qual params body scope dV kV doc pm an cdv ct) ps sp:=by
 refine ⟨len,λA outer s H args us vs Q E hr e0 hb r hsp=>?_⟩;have hl:=len _ _ _ _ hsp;have KX:K.In s.heap:=e0.mod.kin.keeps λb o e=>(e0.bs b o e).1;have lim:s.heap.NoLimit:=e0.mod.nolimit.keeps λb o e=>(e0.bs b o e).1;have hkind:∀ y∈ps.zip us,scope.names.lookup y.1=some .local\/(scope.names.lookup y.1=some .cell/\((cellsFrom (s.heap.objs.size+1) scope.names []).lookup y.1).isSome=true):=λ⟨n,v⟩ hy=>by
  rcases S.par n (List.of_mem_zip hy).1 with q | q
  ·exact .inl q
  ·exact .inr ⟨q,PySem.W.cellsFrom_some _ _ _ (.inl q)⟩
 refine codeAny_call_function hr.depth (KX _ _ lk) rfl S.co S.gen rfl (PySem.W.codeRec_of KX hcd) (hb _ _ _ _ ?_);refine wpAny_newFunctionEnv_cells S.kind hkind λenv he s1 x=>?_;subst he;refine ⟨lim.keeps x.toInCall.keep,codeAny_func ?_⟩;obtain ⟨t,ht,hq⟩:=hbody A outer s H vs Q E (hr.deeper _) hsp;have I:Inv (cxOf CX P w K mg base N qual scope f cdv A outer s H E) [] (start N vs) H s1:=inv_start S hr.hd e0 hl r x;refine wpAny_mono (ht [] s1 (start N vs) H _ I hq) (λfl s' hs=>?_) λe s' hs=>hs;have fin:∀ {σ':St}{H':Hp}{v:V}{u:Value},Inv (cxOf CX P w K mg base N qual scope f cdv A outer s H E) [] σ' H' s'->RelV v u->Q v H'->CE outer P w H s Q u s':=
  λ{σ' H' v u} J rv q=>⟨v,H',J.os,J.bare,J.base,J.hok,rv,q⟩
 cases fl with
 | ret u=>
  obtain ⟨v,σ',H',J,rv,q⟩:=hs;exact fin J rv q
 | next=>
  obtain ⟨σ',H',J,q⟩:=hs;exact fin (v:=V.non) (u:=Value.none) J rfl q
 | brk=>
  obtain ⟨_,_,_,q⟩:=hs;exact False.elim q
 | cont=>
  obtain ⟨_,_,_,q⟩:=hs;exact False.elim q
end L2
namespace L2
open PySem PySem.Spec PyProof.Rows
section
variable {X:Cx}{x:Str}{p pos:Pos}{e:Expr}{es:List Expr}{t:TA}{id T:String}{r:List V->Hp->VK->Prop}
def tCB (r:List V->Hp->VK->Prop) (t:TA):TE:=λσ H Q=>t σ H λvs H1=>r vs H1 Q
theorem pe_callB (hc:CallR X (.builtin id) r) (hg:Gl X x) (hm:X.mg x=none) (hv:bootBuiltins x=some (.builtin id)) (ha:PA X (e::es) t) (hn:x ≠ "__name__" :=by decide) (hdb:(x == ("__debug__" : Str))=false:=by decide)
  (he:starEach (e::es) X.env=(false,eval e X.env)::starEach es X.env:=by rfl) (hpl:(backTo pos (starEach es X.env)).any (·.1)=false:=by rfl):PE X (.Call (.Name x p) (e::es) [] pos) (tCB r t):=by
 intro pins s σ H Q I h;refine wpAny_Call_Name_kw (ld_blt I hg hm hv ?_ hn hdb);exact PyProof.Rows.callWith_builtin1 (thn (ha pos pins s σ H _ I h) λus s1 ⟨vs,H1,I1,r1,q1⟩=>hc pins s1 σ H1 vs us Q I1 r1 q1) he hpl
theorem pe_callTy (hc:CallR X (.type T) r) (hg:Gl X x) (hm:X.mg x=none) (hv:bootBuiltins x=some (.type T)) (ha:PA X (e::es) t) (hn:x ≠ "__name__" :=by decide) (hdb:(x == ("__debug__" : Str))=false:=by decide)
  (he:starEach (e::es) X.env=(false,eval e X.env)::starEach es X.env:=by rfl) (hpl:(backTo pos (starEach es X.env)).any (·.1)=false:=by rfl):PE X (.Call (.Name x p) (e::es) [] pos) (tCB r t):=by
 intro pins s σ H Q I h;refine wpAny_Call_Name_kw (ld_blt I hg hm hv ?_ hn hdb);exact PyProof.Rows.callWith_type1 (thn (ha pos pins s σ H _ I h) λus s1 ⟨vs,H1,I1,r1,q1⟩=>hc pins s1 σ H1 vs us Q I1 r1 q1) he hpl
end
end L2
namespace HT
open PySem PyProof.Rows
theorem rcLt_int (A:Around) (s:Shared) (a:Int) (t:Tok) (c:Int) (u:Tok) (prog:Program) (w:World) (E:Value->Shared->Prop) (Q:Value->Shared->Prop) (h:Q (.bool (decide (a<c))) s) :
  wpAny (model prog w) A (richCompare .Lt (.int a t) (.int c u)) Q E s:=
 (PyProof.Rows.lt_int h:wpAny (model prog w) A (compareOp .Lt (.int a t) (.int c u)) Q E s)
section
open PySem.SeqAt
open PySem.AutoSeq1 (wpAny_loadPart')
open PySem.MeetsSeq PySem.MeetsSeq2 PySem.MeetsSeq3
end
section
variable {prog:Program}{w:World}{A:Around}{E:Value->Shared->Prop}{s:Shared}
def sIx (n d:Nat):Option Int->Nat
 | none=>d
 | some v=>if v<0 then (v+(n:Int)).toNat else min v.toNat n
theorem sIx_nat (n d k:Nat):sIx n d (some (k:Int))=min k n:=by
 show (if (k:Int)<0 then ((k:Int)+(n:Int)).toNat else min (k:Int).toNat n)=min k n;rw [if_neg (by lia),Int.toNat_natCast]
end
end HT
namespace L2
open PySem PySem.Spec PyProof.Rows
abbrev TO:=St->Hp->(Option Int->Hp->Prop)->Prop
def PO (X:Cx) (e:Option Expr) (t:TO):Prop:=
 ∀ (pins:List (Addr×Obj)) (s:Shared) (σ:St) (H:Hp) (Q:Option Int->Hp->Prop),Inv X pins σ H s->t σ H Q ->
  wpAny (model X.prog X.w) X.A (evalPart e X.env) (λu s'=>∃ o H',Inv X pins σ H' s'/\IsPart u o/\Q o H') X.xe s
def tNoPart:TO:=λ_ H Q=>Q none H
def tPart (t:TE):TO:=λσ H Q=>t σ H λx H1=>∃ i,x = .int i/\Q (some i) H1
section
variable {X:Cx}{e:Expr}{te:TE}{lo hi:Option Expr}{tl th:TO}{pos p2:Pos}
theorem po_none:PO X none tNoPart:=by
 intro pins s σ H Q I h;rw [evalPart_none];exact wpAny_pure ⟨none,H,I,.none,h⟩
theorem po_some (h:PE X e te):PO X (some e) (tPart te):=by
 intro pins s σ H Q I hw;rw [evalPart_some];refine thn (h pins s σ H _ I hw) λu s1 ⟨x,H1,I1,r1,q1⟩=>?_;obtain ⟨i,rfl,q⟩:=q1;obtain ⟨t,rfl⟩:=r1;exact ⟨some i,H1,I1,.int i t,q⟩
def SlR (X:Cx) (r:V->Option Int->Option Int->Hp->VK->Prop):Prop:=
 ∀ (pins:List (Addr×Obj)) (s:Shared) (σ:St) (H:Hp) (x:V) (v vl vu:Value) (lo hi:Option Int) (sl:Addr) (Q:VK),Inv X pins σ H s->RelV x v->s.heap.IsSliceOf sl vl vu .none->IsPart vl lo->IsPart vu hi->r x lo hi H Q ->
  ∃ T id,typeLookup (.type T) "__getitem__" = pure (some (.builtin id))/\s.TypeIs v T/\wpAny (model X.prog X.w) X.A (getItem v (.ref sl)) (EP X pins σ Q) X.xe s
def tSl (r:V->Option Int->Option Int->Hp->VK->Prop) (te:TE) (tl th:TO):TE:=λσ H Q=>te σ H λx H1=>tl σ H1 λl H2=>th σ H2 λu H3=>r x l u H3 Q
theorem pe_slice {r:V->Option Int->Option Int->Hp->VK->Prop} (hr:SlR X r) (he:PE X e te) (hl:PO X lo tl) (hu:PO X hi th):PE X (.Subscript e (.Slice lo hi none p2) pos) (tSl r te tl th):=by
 intro pins s σ H Q I h;refine Subscript_ (thn (he pins s σ H _ I h) λv s1 ⟨x,H1,I1,r1,q1⟩=>?_);refine wpAny_Slice (thn (hl pins s1 σ H1 _ I1 q1) λvl s2 ⟨l,H2,I2,pl,q2⟩=>thn (hu pins s2 σ H2 _ I2 q2) λvu s3 ⟨u,H3,I3,pu,q3⟩=>?_);rw [evalPart_none];refine wpAny_pure ?_;have I4:Inv X pins σ H3 { s3 with heap:=s3.heap.push { cls:=.type "slice",data:=.fields #[vl,vu,.none] } }:=I3.kept (t':=s3.toks) λb ob q=>Heap.get?_push_of_some _ q;obtain ⟨T,id,hT,ht,hg⟩:=hr pins { s3 with heap:=s3.heap.push { cls:=.type "slice",data:=.fields #[vl,vu,.none] } } σ H3 x v vl vu l u s3.heap.objs.size Q I4 r1 (Heap.IsSliceOf.new ..) pl pu q3;show wpAny (model X.prog X.w) X.A (subscriptTail e (.Slice lo hi none p2) v (.ref s3.heap.objs.size)) (EP X pins σ Q) X.xe { s3 with heap:=s3.heap.push { cls:=.type "slice",data:=.fields #[vl,vu,.none] } };exact tail_any (ops:=[.ref s3.heap.objs.size,v]) ht hT hg (by with_unfolding_all rfl)
def cutV (xs:List V) (lo hi:Option Int):List V:=(xs.drop (HT.sIx xs.length 0 lo)).take (HT.sIx xs.length xs.length hi - HT.sIx xs.length 0 lo)
theorem cutV_length (xs:List V) (lo hi:Option Int):(cutV xs lo hi).length<=xs.length:=by
 unfold cutV;rw [List.length_take,List.length_drop];lia
end
end L2
namespace L2
open PySem PySem.Spec PyProof.Rows
def ixN (n:Nat) (i:Int):Option Nat:=if 0<=i then (if i<n then some i.toNat else none) else if -(n:Int)<=i then some (i+n).toNat else none
def atI {α:Type} (xs:List α) (i:Int):Option α:=(ixN xs.length i).bind λj=>xs[j]?
theorem ixN_seq {n:Nat}{i:Int}{j:Nat} (h:ixN n i=some j):seqIndex? i n=some j/\j<n /\ -(n:Int)<=i/\i<n:=by
 unfold ixN at h;by_cases h0:0<=i
 ·rw [if_pos h0] at h;by_cases h1:i<n
  ·rw [if_pos h1] at h;have e:=Option.some.inj h;exact ⟨by rw [seqIndex_of h0 h1,e],by lia,by lia,h1⟩
  ·rw [if_neg h1] at h;cases h
 ·rw [if_neg h0] at h;by_cases h1 : -(n:Int)<=i
  ·rw [if_pos h1] at h;have e:=Option.some.inj h;exact ⟨by rw [seqIndex_neg (by lia) h1,e],by lia,h1,by lia⟩
  ·rw [if_neg h1] at h;cases h
theorem atI_get {α:Type}{xs:List α}{i:Int}{v:α} (h:atI xs i=some v):∃ j,seqIndex? i xs.length=some j/\xs[j]? = some v/\j<xs.length /\ -(xs.length:Int)<=i/\i<xs.length:=by
 unfold atI at h;cases e:ixN xs.length i with
 | none=>rw [e] at h;cases h
 | some j=>
  rw [e] at h;obtain ⟨h1,h2,h3,h4⟩:=ixN_seq e;exact ⟨j,h1,h,h2,h3,h4⟩
theorem atI_nat {α:Type}{xs:List α}{j:Nat}{v:α} (h:xs[j]? = some v):atI xs (j:Int)=some v:=by
 have hj:=(List.getElem?_eq_some_iff.mp h).1;have e:ixN xs.length (j:Int)=some j:=by
  unfold ixN;rw [if_pos (by lia),if_pos (by lia)];simp
 unfold atI;rw [e];exact h
def PlainIx (b:Expr):Prop:=∀ o i,subscripted b false o i=operate [o,i] (getItem o i)
def IxR (X:Cx) (r:R2):Prop:=
 ∀ (value slice:Expr) (pins:List (Addr×Obj)) (s:Shared) (σ:St) (H:Hp) (x y:V) (v u:Value) (Q:VK),Inv X pins σ H s->RelV x v->RelV y u->r x y H Q ->
  subscripted slice false v u=operate [v,u] (getItem v u)->wpAny (model X.prog X.w) X.A (subscriptTail value slice v u) (EP X pins σ Q) X.xe s
def MtR (X:Cx) (id:String) (r:V->List V->Hp->VK->Prop):Prop:=
 ∀ (pins:List (Addr×Obj)) (s:Shared) (σ:St) (H:Hp) (x:V) (xs:List V) (v:Value) (us:List Value) (Q:VK),Inv X pins σ H s->RelV x v->Vals xs us->r x xs H Q ->
  wpAny (model X.prog X.w) X.A (call (.builtin id) (v::us)) (EP X pins σ Q) X.xe s
section
variable {X:Cx}{a b:Expr}{ta tb:TE}{pos:Pos}
theorem pe_ix {r:R2} (hr:IxR X r) (ha:PE X a ta) (hb:PE X b tb) (hs:PlainIx b):PE X (.Subscript a b pos) (tOp r ta tb):=by
 intro pins s σ H Q I h;exact Subscript_ (binT ha hb I h λv u s2 x y H2 I2 rx ry q=>hr a b pins s2 σ H2 x y v u Q I2 rx ry q (hs _ _))
def rIxL (K:PySem.W.Frag):R2:=λx y H Q=>∃ p xs i v,x = .ref p/\y = .int i/\SqL K H p xs/\atI xs i=some v/\Q v H
def rIxT (K:PySem.W.Frag):R2:=λx y H Q=>∃ p xs i v,x = .ref p/\y = .int i/\SqT K H p xs/\atI xs i=some v/\Q v H
def rIxS:R2:=λx y H Q=>∃ z i c,x = .str z/\y = .int i/\z.length<=sizeLine/\atI z.cps.toList i=some c/\Q (.str ⟨#[c]⟩) H
theorem ix_list:IxR X (rIxL X.K):=by
 intro value slice pins s σ H x y v u Q I rx ry h hs;obtain ⟨p,xs,i,z,rfl,rfl,hq,he,q⟩:=h;cases rx;obtain ⟨t,rfl⟩:=ry;obtain ⟨its,r,pl,hz⟩:=I.list hq;obtain ⟨j,h1,h2,h3,h4,h5⟩:=atI_get he;obtain ⟨w,ew,rw'⟩:=r.get h2;have hl:=r.length;have hn:=line63;have fin:EP X pins σ Q w s:=⟨z,H,I,rw',q⟩;by_cases h0:0<=i
 ·have hj:i.toNat=j:=by
   rw [seqIndex_of h0 h5] at h1;exact Option.some.inj h1
  exact item_listR pl.isList h0 (by lia) (by rw [hj];simpa using ew) fin hs
 ·have hj:(i+(its.toArray.size:Int)).toNat=j:=by
   rw [seqIndex_neg (by lia) h4] at h1;rw [List.size_toArray,<-hl];exact Option.some.inj h1
  exact subscriptTail_builtinR (x:=w) pl.isList.typeIs slot_list_getitem.lookup
   (wpAny_getItem_list_neg (Q:=λr s'=>r=w/\EP X pins σ Q r s') pl.isList (by lia) (by rw [List.size_toArray] <;> lia) (by lia) (by rw [hj];simpa using ew) ⟨rfl,fin⟩) hs
theorem ix_tup:IxR X (rIxT X.K):=by
 intro value slice pins s σ H x y v u Q I rx ry h hs;obtain ⟨p,xs,i,z,rfl,rfl,hq,he,q⟩:=h;cases rx;obtain ⟨t,rfl⟩:=ry;obtain ⟨its,r,pl,hz⟩:=I.tuple hq;obtain ⟨j,h1,h2,h3,h4,h5⟩:=atI_get he;obtain ⟨w,ew,rw'⟩:=r.get h2;have hl:=r.length;have hn:=line63;have fin:EP X pins σ Q w s:=⟨z,H,I,rw',q⟩;exact subscriptTail_builtinR (x:=w) pl.typeIs slot_tuple_getitem.lookup
  (getItem_tuple (j:=j) (Q:=λr s'=>r=w/\EP X pins σ Q r s') pl (by lia) (by lia) (by rw [List.size_toArray,<-hl];exact h1) (by simpa using ew) ⟨rfl,fin⟩) hs
theorem ix_str:IxR X rIxS:=by
 intro value slice pins s σ H x y v u Q I rx ry h hs;obtain ⟨z,i,c,rfl,rfl,hz,he,q⟩:=h;obtain ⟨t,rfl⟩:=rx;obtain ⟨t',rfl⟩:=ry;obtain ⟨j,h1,h2,h3,h4,h5⟩:=atI_get he;have hl:z.cps.toList.length=z.length:=by simp [Str.length]
 rw [hl] at h1 h4 h5;have hn:=line63;exact tail_any (typeIs_str s z t) slot_str_getitem.lookup (getItem_str (c:=c) (by
  have e1:decide (i < -(2 ^ 63:Int))=false:=decide_eq_false (by lia);have e2:decide (i ≥ 2 ^ 63)=false:=decide_eq_false (by lia);rw [e1,e2,Bool.or_false]) (by rw [h1];simpa using h2) ⟨.str ⟨#[c]⟩,H,I.tok _,⟨_,rfl⟩,q⟩) hs
theorem mapSeq_set (its:List Value) (n j:Nat) (u:Value):Obj.mapSeq (·.setIfInBounds j u) { cls:=.type "list",data:=.seq its.toArray n }={ cls:=.type "list",data:=.seq (its.set j u).toArray n }:=by
 simp [Obj.mapSeq]
theorem Inv.lst {pins:List (Addr×Obj)}{σ:St}{H:Hp}{s:Shared}{p:Addr}{xs:List V} (I:Inv X pins σ H s) (h:H p=some (.lst xs)) :
  ∃ (its:List Value) (n:Nat),Vals xs its/\s.heap.get? p=some { cls:=.type "list",data:=.seq its.toArray n }/\xs.length<=sizeLine:=by
 obtain ⟨z,its,n,r,e⟩:=I.hok p _ h;exact ⟨its,n,r,e,z⟩
theorem Inv.lstUpd {pins:List (Addr×Obj)}{σ:St}{H:Hp}{s:Shared}{p:Addr}{xs ys:List V}{its its':List Value}{n n':Nat}{f:Obj->Obj} (I:Inv X pins σ H s) (h:H p=some (.lst xs))
  (ho:s.heap.get? p=some { cls:=.type "list",data:=.seq its.toArray n }) (hf:f { cls:=.type "list",data:=.seq its.toArray n }={ cls:=.type "list",data:=.seq its'.toArray n' }) (r:Vals ys its') (hz:ys.length<=sizeLine) (t:Nat) :
  Inv X pins σ (upd H p (.lst ys)) { s with heap:=s.heap.update p f,toks:=t }:=by
 have e:(s.heap.update p f).get? p=some { cls:=.type "list",data:=.seq its'.toArray n' }:=by
  rw [Heap.get?_update_self f ho (by rw [hf] <;> rfl),hf]
 refine I.write (x:=p) (e:=p) (by rw [h];trivial) (.inl rfl) (λb u hb q=>(Heap.get?_update_other _ _ (Ne.symm hb)).trans q) ⟨_,e⟩ ?_;exact ⟨hz,its',n',r,e⟩
def rSetL:V->V->V->Hp->(Hp->Prop)->Prop:=λo i v H Q=>∃ p xs k j,o = .ref p/\i = .int k/\H p=some (.lst xs)/\ixN xs.length k=some j/\Q (upd H p (.lst (xs.set j v)))
theorem set_list:PSet X rSetL:=by
 intro pins s σ H o i v ov iv u Q I ro ri rv h;obtain ⟨p,xs,k,j,rfl,rfl,hp,hj,q⟩:=h;cases ro;obtain ⟨t,rfl⟩:=ri;obtain ⟨its,n,r,ho,hz⟩:=I.lst hp;obtain ⟨h1,h2,h3,h4⟩:=ixN_seq hj;have hl:=r.length;have hn:=line63;have I':Inv X pins σ (upd H p (.lst (xs.set j v))) { s with heap:=s.heap.update p (Obj.mapSeq (·.setIfInBounds j u)) }:=
  I.lstUpd hp ho (mapSeq_set its n j u) (r.set rv j) (by rw [List.length_set];exact hz) s.toks
 by_cases h0:0<=k
 ·have hk:k.toNat=j:=by
   rw [seqIndex_of h0 h4] at h1;exact Option.some.inj h1
  exact PySem.W.ki_setAt ho h0 (by lia) (by rw [List.size_toArray,<-hl];exact h4) (by rw [hk];exact ⟨_,I',q⟩)
 ·have hk:(k+(its.toArray.size:Int)).toNat=j:=by
   rw [seqIndex_neg (by lia) h3] at h1;rw [List.size_toArray,<-hl];exact Option.some.inj h1
  exact PySem.W.ki_setBack ho (by lia) (by rw [List.size_toArray,<-hl];exact h3) (by lia) (by rw [hk];exact ⟨_,I',q⟩)
theorem slice_bounds (lo hi:Option Int) (n:Nat):(sliceBounds lo hi none n).1=((HT.sIx n 0 lo:Nat):Int)/\(sliceBounds lo hi none n).2.1=((HT.sIx n n hi:Nat):Int)/\(sliceBounds lo hi none n).2.2=1:=by
 refine ⟨?_,?_,rfl⟩
 ·cases lo with
  | none=>simp [sliceBounds,HT.sIx]
  | some i=>
   simp only [sliceBounds,HT.sIx,Option.getD_none,show (1:Int) > 0 by decide,if_true];by_cases h:i<0
   ·simp only [h,if_true] <;> lia
   ·simp only [h,if_false] <;> lia
 ·cases hi with
  | none=>simp [sliceBounds,HT.sIx]
  | some i=>
   simp only [sliceBounds,HT.sIx,Option.getD_none,show (1:Int) > 0 by decide,if_true];by_cases h:i<0
   ·simp only [h,if_true] <;> lia
   ·simp only [h,if_false] <;> lia
theorem slicePick_cut (its:List Value) (lo hi:Option Int):slicePick its.toArray lo hi none=((its.drop (HT.sIx its.length 0 lo)).take (HT.sIx its.length its.length hi - HT.sIx its.length 0 lo)).toArray:=by
 obtain ⟨h1,h2,h3⟩:=slice_bounds lo hi its.toArray.size;unfold slicePick;rw [h1,h2,h3];simp only [sliceRange_one,pick_run,List.size_toArray] <;> rfl
def rSlL (K:PySem.W.Frag):V->Option Int->Option Int->Hp->VK->Prop:=λx lo hi H Q=>∃ a xs,x = .ref a/\SqL K H a xs/\∀ p,H p=none->Q (.ref p) (upd H p (.lst (cutV xs lo hi)))
theorem sl_list:SlR X (rSlL X.K):=by
 intro pins s σ H x v vl vu lo hi sl Q I rx hs pl pu h;obtain ⟨a,xs,rfl,hx,q⟩:=h;cases rx;obtain ⟨its,r,ht,hz⟩:=I.list hx;have hlen:=r.length;refine ⟨"list",_,slot_list_getitem.lookup,ht.isList.typeIs,?_⟩;refine wpAny_getItem_list_slice ht.isList hs pl pu .none (by simp) ?_ (by rw [List.size_toArray] <;> lia);rw [slicePick_cut,<-hlen];refine ⟨.ref s.heap.objs.size,_,I.laid (t':=s.toks) (o:=.lst (cutV xs lo hi)) (λb ob q=>Heap.get?_push_of_some _ q) (Nat.le_refl _) ?_,rfl,q _ (I.hok.fresh (Nat.le_refl _))⟩;exact ⟨Nat.le_trans (cutV_length xs lo hi) hz,_,0,(r.drop (HT.sIx xs.length 0 lo)).take (HT.sIx xs.length xs.length hi - HT.sIx xs.length 0 lo),Heap.get?_push_size _ rfl⟩
def flatV:V->Bool
 | .non=>true
 | .bl _=>true
 | .int _=>true
 | .str _=>true
 | _=>false
def eqV:V->V->Bool
 | .non,.non=>true
 | .bl a,.bl b=>a == b
 | .bl a,.int b=>(if a then 1 else 0) == b
 | .int a,.bl b=>a == (if b then 1 else 0)
 | .int a,.int b=>a == b
 | .str a,.str b=>a == b
 | _,_=>false
theorem eqAt_V {A:Around}{s:Shared}{y x:V}{u v:Value} (ry:RelV y u) (rx:RelV x v) (fy:flatV y=true) (fx:flatV x=true):SeqAt.EqAt A s u v (eqV y x):=by
 cases y with
 | non=>
  cases ry;cases x with
  | non=>cases rx;exact SeqAt.EqAt.same _
  | bl b=>cases rx;exact SeqAt.EqAt.none_bool b
  | int b=>obtain ⟨t,rfl⟩:=rx;exact SeqAt.EqAt.none_int b t
  | str b=>obtain ⟨t,rfl⟩:=rx;exact SeqAt.EqAt.none_str b t
  | _=>exact absurd (show false=true from fx) Bool.false_ne_true
 | bl a=>
  cases ry;cases x with
  | non=>cases rx;exact SeqAt.EqAt.bool_none a
  | bl b=>cases rx;exact SeqAt.EqAt.bool_bool a b
  | int b=>obtain ⟨t,rfl⟩:=rx;exact SeqAt.EqAt.bool_int a b t
  | str b=>obtain ⟨t,rfl⟩:=rx;exact SeqAt.EqAt.bool_str a b t
  | _=>exact absurd (show false=true from fx) Bool.false_ne_true
 | int a=>
  obtain ⟨t',rfl⟩:=ry;cases x with
  | non=>cases rx;exact SeqAt.EqAt.int_none a t'
  | bl b=>cases rx;exact SeqAt.EqAt.int_bool a t' b
  | int b=>obtain ⟨t,rfl⟩:=rx;exact SeqAt.EqAt.int_int a t' b t
  | str b=>obtain ⟨t,rfl⟩:=rx;exact SeqAt.EqAt.int_str a t' b t
  | _=>exact absurd (show false=true from fx) Bool.false_ne_true
 | str a=>
  obtain ⟨t',rfl⟩:=ry;cases x with
  | non=>cases rx;exact SeqAt.EqAt.str_none a t'
  | bl b=>cases rx;exact SeqAt.EqAt.str_bool a t' b
  | int b=>obtain ⟨t,rfl⟩:=rx;exact SeqAt.EqAt.str_int a t' b t
  | str b=>obtain ⟨t,rfl⟩:=rx;exact SeqAt.EqAt.str_str a t' b t
  | _=>exact absurd (show false=true from fx) Bool.false_ne_true
 | _=>exact absurd (show false=true from fy) Bool.false_ne_true
def eqU (x:V) (u:Value):Bool:=match u with
 | .none=>eqV .non x
 | .bool b=>eqV (.bl b) x
 | .int i _=>eqV (.int i) x
 | .str z _=>eqV (.str z) x
 | _=>false
theorem eqU_of {x y:V}{u:Value} (r:RelV y u) (f:flatV y=true):eqU x u=eqV y x:=by
 cases y with
 | non=>cases r;rfl
 | bl b=>cases r;rfl
 | int i=>obtain ⟨t,rfl⟩:=r;rfl
 | str z=>obtain ⟨t,rfl⟩:=r;rfl
 | _=>exact absurd (show false=true from f) Bool.false_ne_true
theorem any_eqU {x:V}:∀ {xs:List V}{us:List Value},Vals xs us->xs.all flatV=true->us.any (eqU x)=xs.any λy=>eqV y x
 | _,_,.nil,_=>rfl
 | y::xs,u::us,.cons r t,f=>by
  rw [List.all_cons,Bool.and_eq_true] at f;rw [List.any_cons,List.any_cons,eqU_of r f.1,any_eqU t f.2]
theorem mem_eqAt {A:Around}{s:Shared}{x:V}{v:Value} (rx:RelV x v) (fx:flatV x=true):∀ {xs:List V}{us:List Value},Vals xs us->xs.all flatV=true->∀ u∈us,SeqAt.EqAt A s u v (eqU x u)
 | _,_,.nil,_=>λu hu=>by cases hu
 | y::xs,u::us,.cons r t,f=>λu' hu=>by
  rw [List.all_cons,Bool.and_eq_true] at f;rcases List.mem_cons.mp hu with rfl | hu
  ·rw [eqU_of r f.1];exact eqAt_V r rx f.1 fx
  ·exact mem_eqAt rx fx t f.2 u' hu
def inV (x:V) (xs:List V):Bool:=xs.any λy=>eqV y x
def rIn (K:PySem.W.Frag) (neg:Bool):R2:=λx y H Q=>∃ p xs,y = .ref p/\(SqL K H p xs\/SqT K H p xs)/\flatV x=true/\xs.all flatV=true/\Q (.bl (if neg then !inV x xs else inV x xs)) H
theorem op_in_seq:OpR X (compareOp .In) (rIn X.K false):=by
 intro pins s σ H x y v u Q I rx ry h;obtain ⟨p,xs,rfl,hq,fx,fs,q⟩:=h;cases ry;rcases hq with hq | hq
 ·obtain ⟨its,r,pl,hz⟩:=I.list hq;refine SeqAt.in_listAt (eqU x) pl.isList (λw hw=>mem_eqAt rx fx r fs w (by simpa using hw)) ⟨.bl _,H,I,rfl,?_⟩;rw [show its.toArray.any (eqU x)=its.any (eqU x) by simp,any_eqU r fs];exact q
 ·obtain ⟨its,r,pl,hz⟩:=I.tuple hq;refine SeqAt.in_tupleAt (eqU x) pl (λw hw=>mem_eqAt rx fx r fs w (by simpa using hw)) ⟨.bl _,H,I,rfl,?_⟩;rw [show its.toArray.any (eqU x)=its.any (eqU x) by simp,any_eqU r fs];exact q
theorem call_len_seq:CallR X (.builtin "len") (λxs H Q=>∃ p ys,xs=[.ref p]/\(SqL X.K H p ys\/SqT X.K H p ys)/\Q (.int ys.length) H):=by
 intro pins s σ H xs us Q I r h;obtain ⟨p,ys,rfl,hq,q⟩:=h;obtain ⟨u,rfl,rx⟩:=vals1 r;cases rx;have hn:=line63;rcases hq with hq | hq
 ·obtain ⟨its,r',pl,hz⟩:=I.list hq;have hlen:=r'.length;exact Calls.call_len_list pl.isList (by simp only [List.size_toArray] <;> lia) ⟨.int ys.length,H,I.tok _,⟨s.toks+1,by rw [List.size_toArray,hlen]⟩,q⟩
 ·obtain ⟨its,r',pl,hz⟩:=I.tuple hq;have hlen:=r'.length;exact len_tuple pl (by simp only [List.size_toArray] <;> lia) ⟨.int ys.length,H,I.tok _,⟨s.toks+1,by rw [List.size_toArray,hlen]⟩,q⟩
theorem call_len_str:CallR X (.builtin "len") (λxs H Q=>∃ z,xs=[.str z]/\z.length<=sizeLine/\Q (.int z.length) H):=by
 intro pins s σ H xs us Q I r h;obtain ⟨z,rfl,hz,q⟩:=h;obtain ⟨u,rfl,t,rfl⟩:=vals1 r;have hn:=line63;exact len_str (by lia) ⟨.int z.length,H,I.tok _,⟨_,rfl⟩,q⟩
theorem call_list_of:CallR X (.type "list") (λxs H Q=>∃ p ys,xs=[.ref p]/\(SqL X.K H p ys\/SqT X.K H p ys)/\∀ l,H l=none->Q (.ref l) (upd H l (.lst ys))):=by
 intro pins s σ H xs us Q I r h;obtain ⟨p,ys,rfl,hq,q⟩:=h;obtain ⟨u,rfl,rx⟩:=vals1 r;cases rx;have fin:∀ (its:List Value),Vals ys its->ys.length<=sizeLine->∀ (h':Heap) (c':Nat),(∀ b o',s.heap.get? b=some o'->h'.get? b=some o') ->
   h'.get? s.heap.objs.size=some { cls:=.type "list",dict:=none,data:=.seq its.toArray c',slots:=#[] }->EP X pins σ Q (.ref s.heap.objs.size) { s with heap:=h' }:=λits r' hz h' c' kp e=>
  ⟨.ref s.heap.objs.size,_,I.laid (t':=s.toks) kp (Nat.le_refl _) (show ObjOk X.prog X.w _ h' _ (.lst ys) from ⟨hz,its,c',r',e⟩),rfl,q _ (I.hok.fresh (Nat.le_refl _))⟩
 rcases hq with hq | hq
 ·obtain ⟨its,r',pl,hz⟩:=I.list hq;have hlen:=r'.length;obtain ⟨o,ho,hc,n,hd⟩:=pl.isList;exact call_list_seq p (.inl rfl) ho hc hd (λh' c' kp e=>fin its r' hz h' c' kp e) (by simp only [List.size_toArray] <;> lia)
 ·obtain ⟨its,r',pl,hz⟩:=I.tuple hq;have hlen:=r'.length;obtain ⟨o,ho,hc,n,hd⟩:=pl;exact call_list_seq p (.inr rfl) ho hc hd (λh' c' kp e=>fin its r' hz h' c' kp e) (by simp only [List.size_toArray] <;> lia)
def tyV (K:PySem.W.Frag) (T:String) (x:V) (H:Hp):Prop:=match x with
 | .str _=>T = "str"
 | .int _=>T = "int"
 | .ref p=>(T = "list" /\ ∃ xs,SqL K H p xs)\/(T = "tuple" /\ ∃ o,K.lookup p=some o/\o.cls = .type "tuple" /\ o.dict=none) \/
   (T = "dict" /\ ((∃ kvs,H p=some (.dK kvs))\/∃ kvs,H p=some (.dT kvs)))\/(T = "set" /\ ∃ S n,H p=some (.set S n))
 | _=>False
theorem tyV_is {pins:List (Addr×Obj)}{σ:St}{H:Hp}{s:Shared}{T:String}{x:V}{v:Value} (I:Inv X pins σ H s) (r:RelV x v) (ty:tyV X.K T x H) :
  s.TypeIs v T/\∀ a,v = .ref a->∃ ob,s.heap.get? a=some ob/\ob.dict=none:=by
 cases x with
 | str z=>
  obtain ⟨t,rfl⟩:=r;cases (show T = "str" from ty);exact ⟨typeIs_str s z t,λ_ e=>nomatch e⟩
 | int i=>
  obtain ⟨t,rfl⟩:=r;cases (show T = "int" from ty);exact ⟨typeIs_int s i t,λ_ e=>nomatch e⟩
 | ref p=>
  cases r;rcases ty with ⟨rfl,xs,hq⟩ | ⟨rfl,o,hk,hc,hd⟩ | ⟨rfl,hk⟩ | ⟨rfl,S,n,hk⟩
  ·obtain ⟨its,_,pl,_⟩:=I.list hq;refine ⟨pl.isList.typeIs,λa e=>?_⟩;cases e;obtain ⟨o,n,e,c,hd,_⟩:=pl;exact ⟨o,e,hd⟩
  ·refine ⟨⟨o,I.kIn p o hk,hc⟩,λa e=>?_⟩;cases e;exact ⟨o,I.kIn _ o hk,hd⟩
  ·have z:∃ o,s.heap.get? p=some o/\o.ExactDict:=by
    rcases hk with ⟨kvs,hk⟩ | ⟨kvs,hk⟩
    ·obtain ⟨_,_,_,_,o,_,_,e,ex,_⟩:=I.hok p _ hk;exact ⟨o,e,ex⟩
    ·obtain ⟨_,_,_,_,o,_,_,e,ex,_⟩:=I.hok p _ hk;exact ⟨o,e,ex⟩
   obtain ⟨o,e,ex⟩:=z;refine ⟨⟨o,e,ex.1⟩,λa e2=>?_⟩;cases e2;exact ⟨o,e,ex.2.1⟩
  ·obtain ⟨o,_,_,_,e,ex,_⟩:=I.hok p _ hk;refine ⟨⟨o,e,ex.1⟩,λa e2=>?_⟩;cases e2;exact ⟨o,e,ex.2.1⟩
 | _=>exact False.elim ty
def tBM (K:PySem.W.Frag) (T:String) (r:V->List V->Hp->VK->Prop) (to:TE) (t:TA):TE:=λσ H Q=>to σ H λx H1=>tyV K T x H1/\t σ H1 λxs H2=>r x xs H2 Q
variable {o e:Expr}{es:List Expr}{to:TE}{t:TA}{name:Str}{apos cpos:Pos}{T id:String}{r:V->List V->Hp->VK->Prop}
theorem pe_bm (pa:PlainAttrs T) (slot:Slot T name id) (hty:typeOf (.builtin id)=pure (.type "method_descriptor")) (hm:MtR X id r) (ho:PE X o to) (ha:PA X (e::es) t)
  (hbase:attributeBase o name X.env (eval o X.env)=eval o X.env:=by rfl)
  (hfew:((backTo cpos (starEach (e::es) X.env)).all (λx=>!x.1) && (backToKw cpos (keywordEach [] X.env)).all (λx=>x.1.isSome)
   && decide ((e::es).length+([]:List Keyword).length+(if ([]:List Keyword).isEmpty then 0 else 1)<30))=true:=by rfl)
  (hline:(apos.endLine == cpos.line)=true:=by rfl) (hs:starEach (e::es) X.env=(false,eval e X.env)::starEach es X.env:=by rfl) (hplain:(backTo cpos (starEach es X.env)).any (·.1)=false:=by rfl) :
  PE X (.Call (.Attribute o name apos) (e::es) [] cpos) (tBM X.K T r to t):=by
 intro pins s σ H Q I h;refine wpAny_Call_method_late hbase hfew hline rfl (thn (ho pins s σ H _ I h) λv s1 ⟨x,H1,I1,r1,ty,q1⟩=>?_);obtain ⟨h1,h2⟩:=tyV_is I1 r1 ty;refine ⟨T,id,pa,slot,hty,h1,h2,?_⟩;have hA:=ha cpos pins s1 σ H1 _ I1 q1;rw [hs] at hA ⊢;refine Calls.callWith_builtin (by show (false || (backTo cpos (starEach es X.env)).any (·.1))=false;rw [hplain] <;> rfl) (Calls.evalArgs_plain ?_)
 exact thn hA λus s2 ⟨vs,H2,I2,r2,q2⟩=>hm pins s2 σ H2 x vs v us Q I2 r1 r2 q2
end
end L2
namespace L2
open PySem PySem.Spec PyProof.Rows
def MtM (X:Cx) (id:String) (r:V->List V->Hp->VK->Prop):Prop:=
 ∀ (pins:List (Addr×Obj)) (s:Shared) (σ:St) (H:Hp) (x:V) (xs:List V) (v:Value) (us:List Value) (Q:VK),Inv X pins σ H s->RelV x v->Vals xs us->r x xs H Q ->
  wpAny (model X.prog X.w) X.A (call (.builtin id) (v::us)) (EP X pins σ Q) X.xe s
theorem Vals.one:∀ {x:V}{us:List Value},Vals [x] us->∃ u,us=[u]/\RelV x u
 | _,_,.cons r .nil=>⟨_,rfl,r⟩
section
variable {X:Cx}{pins:List (Addr×Obj)}{σ:St}{H:Hp}{s:Shared}{l b:Addr}{xs ys zs:List V}
theorem Inv.lset {its its':List Value}{n:Nat}{f:Array Value->Array Value}{t':Nat} (I:Inv X pins σ H s) (hH:H l=some (.lst xs))
  (e:s.heap.get? l=some { cls:=.type "list",data:=.seq its.toArray n }) (hf:f its.toArray=its'.toArray) (hv:Vals ys its') (hz:ys.length<=sizeLine) :
  Inv X pins σ (upd H l (.lst ys)) { s with heap:=s.heap.update l (Obj.mapSeq f),toks:=t' }:=by
 have q:=PySem.IsL.update e f;rw [hf] at q;refine I.write (x:=l) (e:=l) (by rw [hH];exact trivial) (.inl rfl) (λb' u hb hu=>(Heap.get?_update_other s.heap (Obj.mapSeq f) (Ne.symm hb)).trans hu) ⟨_,q⟩ ?_;exact ⟨hz,its',_,hv,q⟩
theorem Inv.lnew {its:List Value}{t':Nat} (I:Inv X pins σ H s) (hv:Vals ys its) (hz:ys.length<=sizeLine) :
  Inv X pins σ (upd H s.heap.objs.size (.lst ys)) { s with heap:=s.heap.push { cls:=.type "list",data:=.seq its.toArray },toks:=t' }:=
 I.laid (λ_ _ q=>Heap.get?_push_of_some _ q) (Nat.le_refl _) ⟨hz,its,0,hv,Heap.get?_push_size _ rfl⟩
theorem Inv.fresh (I:Inv X pins σ H s):H s.heap.objs.size=none:=I.hok.fresh (Nat.le_refl _)
theorem Inv.lstM (I:Inv X pins σ H s) (hH:H l=some (.lst xs)):xs.length<=sizeLine/\∃ (its:List Value) (n:Nat),Vals xs its/\xs.length=its.length/\s.heap.get? l=some { cls:=.type "list",data:=.seq its.toArray n }:=by
 obtain ⟨z,its,n,r,e⟩:=I.hok l _ hH;exact ⟨z,its,n,r,r.length,e⟩
theorem notLongL {n:Nat} (h:n<=sizeLine):Builtin.List.listTooLong n=false:=by
 unfold Builtin.List.listTooLong;exact decide_eq_false (by lia)
end
section
variable {X:Cx}
def rAppend:V->List V->Hp->VK->Prop:=λx vs H Q=>∃ l xs y,x = .ref l/\vs=[y]/\H l=some (.lst xs)/\xs.length<sizeLine/\Q .non (upd H l (.lst (xs++[y])))
theorem mt_append:MtM X "list.append" rAppend:=by
 intro pins s σ H x vs v us Q I rx rv h;obtain ⟨l,xs,y,rfl,rfl,hH,hz,q⟩:=h;cases rx;obtain ⟨u,rfl,ru⟩:=rv.one;obtain ⟨z,its,n,r,hl,e⟩:=I.lstM hH;refine call_meets F.slot_list_append ⟨_,e,rfl⟩ F.entry_list_append (F.args_list_append_2 _ _) (PySem.list_append l its.toArray n u (by rw [List.size_toArray];lia)) ⟨e,?_⟩;refine ⟨.non,_,I.lset (its':=its++[u]) hH e (by simp) (r.append (.cons ru .nil)) ?_,rfl,q⟩;rw [List.length_append,List.length_singleton];lia
def rExtend:V->List V->Hp->VK->Prop:=λx vs H Q=>∃ l b xs zs,x = .ref l/\vs=[.ref b]/\H l=some (.lst xs)/\H b=some (.lst zs)/\xs.length+zs.length<=sizeLine/\Q .non (upd H l (.lst (xs++zs)))
theorem mt_extend:MtM X "list.extend" rExtend:=by
 intro pins s σ H x vs v us Q I rx rv h;obtain ⟨l,b,xs,zs,rfl,rfl,hH,hB,hz,q⟩:=h;cases rx;obtain ⟨u,rfl,ru⟩:=rv.one;cases ru;obtain ⟨z,its,n,r,hl,e⟩:=I.lstM hH;obtain ⟨z2,its2,n2,r2,hl2,e2⟩:=I.lstM hB;have hsz:its.toArray.size+its2.toArray.size<=sizeLine:=by rw [List.size_toArray,List.size_toArray];lia
 have hlong:¬ (!its.toArray.isEmpty && Builtin.List.listTooLong (its.toArray.size+its2.toArray.size))=true:=by
  rw [notLongL hsz,Bool.and_false];exact Bool.false_ne_true
 refine call_meets F.slot_list_extend ⟨_,e,rfl⟩ F.entry_list_extend (F.args_list_extend_2 _ _)
  (AutoSeq1.list_extend_list_list_0 l its.toArray n b its2.toArray n2 hlong (by rw [List.size_toArray];lia) (by lia)) ⟨e,e2,?_⟩
 refine ⟨.non,_,I.lset (its':=its++its2) hH e (by simp) (r.append r2) ?_,rfl,q⟩;rw [List.length_append];lia
end
section
variable {prog:Program}{w:World}{A:Around}{E:Value->Shared->Prop}{s:Shared}
end
section
variable {X:Cx}
end
end L2
namespace Att
open PySem PySem.W PySem.Calls PyProof.Rows
theorem ints_of_wellAll {P:Params}{h:Heap}:∀ (ns:List Int) (vs:List Value),WellAll P h vs (ns.map WData.int)->IntsAre vs ns:=by
 intro ns
 induction ns with
 | nil=>
  intro vs w;rw [List.map_nil] at w;cases w;exact .nil
 | cons n ns ih=>
  intro vs w;rw [List.map_cons] at w;cases w with
  | cons a b=>
   cases a;exact .cons _ _ (ih _ b)
theorem script_of {l:OpenLaw}{n:Nat} (hn:l.most=some n) {P:Params}{h:Heap}{args:List WData}{vals:List Value}
  (hpre:l.row.toRowW.claim.pre args=true) (hwl:WellAll P h vals args) :
  ∃ a vs ns,vals=[Value.ref a]/\args=[WData.list (ns.map WData.int)]/\h.get? a=some { cls:=.type "list",data:=.seq vs.toArray }/\IntsAre vs ns/\ns.length<=n:=by
 have hsh:=(pre_splitW hpre).1;have hc:l.pre.holds [] { args:=args }=true:=(pre_splitW hpre).2;obtain ⟨d,r,rfl,h1,h2⟩:=hasAllW_cons hsh;obtain rfl:=hasAllW_nil h2;obtain ⟨xs,rfl,h3⟩:=hasW_list h1;obtain ⟨ns,rfl⟩:=items_int h3;have hlen:ns.length<=n:=by
  unfold OpenLaw.pre at hc;have h4:(WTm.not (.lt (.lit (.int (n:Int))) (.len (.arg 0)))).holds [] { args:=[.list (ns.map .int)] }=true:=by
   have h4:=(holds_andW hc).1;rw [hn] at h4;exact h4
  have h5:=condW_of h4 (w_not (w_lt w_lit (w_len_list (w_arg rfl))));rw [List.length_map] at h5;refine Nat.le_of_not_lt λq=>?_;have q':(n:Int)<((ns.length:Nat):Int):=by lia
  first
   | (rw [decide_eq_true q'] at h5;exact absurd h5 (by decide))
   | (simp at h5;lia)
 cases hwl with
 | cons w1 w2=>
  cases w2;cases w1 with
  | list ho hall=>exact ⟨_,_,ns,rfl,rfl,ho,ints_of_wellAll ns _ hall,hlen⟩
theorem post_true (l:OpenLaw) (args:List WData):l.row.toRowW.claim.post args (.bool true) args=true:=
 postW_of (r:=l.row.toRowW) (X:=(true == true))
  (show WShape.has [] (.bool true) .bool=true by first | rfl | decide | simp [WShape.has,WShape.arms,WShape.armsAll])
  (show (WTm.eq .res (.lit (.bool true))).value [] { args:=args,res:=some (.bool true),after:=args }=some (.bool (true == true)) from w_eq_bool (w_res rfl) w_lit) rfl
theorem attach_call {l:OpenLaw}{n:Nat}{q:Program}{loose:List Str}{XP:(Str->Option Value)->Heap->Prop}{YP:World->Heap->Prop}{d:DefRec}
  (hn:l.most=some n) (hdf:d.params.defaults=[])
  (call:∀ (w:World) (s₀ s₁:Shared) (mg mb:Str->Option Value) (fa:Addr) (o:Obj) (pm cd doc:Value) (a:Addr) (vs:List Value) (ns:List Int),
   Ground q loose [] XP w s₀ mg mb s₁.heap->YP w s₁.heap ->
   s₁.heap.get? fa=some o->o.data = .func (docDef d.name d.params d.body d.scope pm cd doc)->s₁.heap.CodeRec cd d.name->mg d.name=some (.ref fa) ->
   s₁.heap.get? a=some { cls:=.type "list",data:=.seq vs.toArray }->IntsAre vs ns->ns.length<=n->s₁.gens = #[] ->
   codeAny (model l.prog w) callerA (.call (.ref fa) ⟨[.ref a],[]⟩) (λr s'=>r = .ok (.ret (.bool true))/\OldK s₁.heap s'.heap/\s'.os=s₁.os/\AllBare s'.gens) s₁) :
  WalkO q loose XP YP l.row.toRowW d [] (λf vs=>PySem.call f vs):=by
 intro w s₀ s₁ mg mb G Y fa o pm cd doc dV kV ho hd hcd hD hmg hg args vals as hpre hlay hrd hwl hlo;obtain rfl:dV = .none:=Dflts.none hD hdf;obtain rfl:kV = .none:=Dflts.noKw hD;obtain ⟨a,vs,ns,rfl,rfl,hobj,hints,hlen⟩:=script_of hn hpre hwl;refine enter_call (codeAny_mono (call w s₀ s₁ mg mb fa o pm cd doc a vs ns G Y ho (fd_plain hd) hcd hmg hobj hints hlen hg) λr s' hq=>?_);obtain ⟨rfl,h2,h3,h4⟩:=hq;exact ⟨.inl ⟨.bool true,.bool true,[],rfl,λ_=>rfl,.bool true,post_true l _,λ_=>⟨List.Pairwise.nil,λ_ hm=>(nomatch hm)⟩⟩,h2,h3,h4⟩
section
variable {prog:Program}{w:World}{A:Around}{E:Value->Shared->Prop}{s:Shared}{K:Frag}
end
end Att
namespace L2
open PySem PySem.Spec PyProof.Rows
theorem vals_ints:∀ {vs:List Value}{ns:List Int},IntsAre vs ns->Vals (ns.map V.int) vs
 | _,_,.nil=>.nil
 | _,_,.cons n t h=>.cons ⟨t,rfl⟩ (vals_ints h)
end L2
namespace L2
open PySem PySem.Spec PyProof.Rows
end L2
namespace L2
open PySem PySem.Spec PyProof.Rows
abbrev CX0:CXT:=λ_ _ _ _ _ _=>False
abbrev E0:XK:=λ_ _ _=>False
theorem pass0 {X:Cx}:Passes CX0 X E0:=λ_ _ _ _ _ _ _ h=>h.elim
structure Fun (K:PySem.W.Frag) (x qual:Str) (st:Stmt) (f:Addr) (fd:FuncData):Prop where
 ex:∃ (oc:Value) (od:Option Addr) (kV doc pm:Value) (an:Option Addr) (cdv ct:Value) (osl:Array (Option Value)),
  fd=PySem.W.fnOf x qual (defArgs st) (defBody st) (defScope st) .none kV doc pm an cdv ct/\K.lookup f=some ⟨oc,od,.func fd,osl⟩/\PySem.W.codeIn K cdv qual=true
 kp:PySem.W.keepIn K (.ref f)=true
section
variable {P:Program}{w:World}{K:PySem.W.Frag}{mg:Str->Option Value}{base:Heap}
theorem Fun.ok {x qual:Str}{st:Stmt}{f:Addr}{fd:FuncData}{N ps:List Str}{k:Nat}{sp:Sp} (F:Fun K x qual st f fd) (S:FnScope N ps (defScope st)) (len:∀ vs H Q E,sp vs H Q E->vs.length=ps.length)
  (hbody:∀ (cdv:Value) (A:Around) (outer:List Env) (s:Shared) (H:Hp) (vs:List V) (Q:VK) (E:XK),Room k (A.deeper (envOfC qual (defScope st) s.heap.objs.size f cdv))->sp vs H Q E ->
   ∃ t,PSs (cxOf CX0 P w K mg base N qual (defScope st) f cdv A outer s H E).nox (defBody st) t/\t { nx:=λ_ H'=>Q .non H',rt:=Q } (start N vs) H):FnOk P w K mg base CX0 (k+1) f fd ps sp:=by
 obtain ⟨oc,od,kV,doc,pm,an,cdv,ct,osl,rfl,lk,hcd⟩:=F.ex;refine fn_of lk hcd S len λA outer s H vs Q E hr hsp=>?_;obtain ⟨t,h,q⟩:=hbody cdv A outer s H vs Q E hr hsp;exact ⟨t,h.nox,q⟩
theorem Fun.binds {x qual:Str}{st:Stmt}{f:Addr}{fd:FuncData}{ps:List Str} (F:Fun K x qual st f fd)
  (h:∀ (kV doc pm:Value) (an:Option Addr) (cdv ct:Value) (us:List Value),us.length=ps.length->bindArgs (PySem.W.fnOf x qual (defArgs st) (defBody st) (defScope st) .none kV doc pm an cdv ct) ⟨us,[]⟩=pure (ps.zip us)):Binds K fd ps []:=by
 obtain ⟨oc,od,kV,doc,pm,an,cdv,ct,osl,rfl,lk,hcd⟩:=F.ex;exact .all (h kV doc pm an cdv ct)
theorem fun_mk {x qual:Str}{st:Stmt}{f:Addr}{oc:Value}{od an:Option Addr}{osl:Array (Option Value)}{kV doc pm cdv ct:Value} (l:K.lookup f=some ⟨oc,od,.func (PySem.W.fnOf x qual (defArgs st) (defBody st) (defScope st) .none kV doc pm an cdv ct),osl⟩)
  (c:PySem.W.codeIn K cdv qual=true) (k:PySem.W.keepIn K (.ref f)=true):Fun K x qual st f (PySem.W.fnOf x qual (defArgs st) (defBody st) (defScope st) .none kV doc pm an cdv ct):=⟨⟨oc,od,kV,doc,pm,an,cdv,ct,osl,rfl,l,c⟩,k⟩
end
theorem hu_of {A:Around}{k:Nat} (hr:Room k A):A.units+1<cLine:=Nat.lt_of_le_of_lt (Nat.add_le_add_left (by decide:1<=64) _) hr.units
section
variable {X:Cx}
theorem pv (i:Nat) {x:Str}{pos:Pos} (hN:X.N[i]? = some x:=by rfl) (hv:Vis X.env.scope x:=by first | exact Or.inl rfl | exact Or.inr (Or.inl rfl) | exact Or.inr (Or.inr rfl)) (hd:(x == ("__debug__" : Str))=false:=by decide)
  (hcd:(x == ("__classdict__" : Str))=false:=by decide):PE X (.Name x pos) (tVar i):=pe_var hN hv hd hcd
end
theorem iteF {A B:Prop} (h:B):if false=true then A else B:=by
 rw [if_neg Bool.false_ne_true];exact h
theorem iteT {A B:Prop} (h:A):if true=true then A else B:=by
 rw [if_pos rfl];exact h
theorem ite2 {c A B:Prop} [Decidable c] (h1:c->A) (h2:¬ c->B):if c then A else B:=by
 by_cases h:c
 ·rw [if_pos h];exact h1 h
 ·rw [if_neg h];exact h2 h
def Same (H H':Hp):Prop:=∀ b o,H b=some o->H' b=some o
theorem Same.refl (H:Hp):Same H H:=λ_ _ h=>h
theorem Same.trans {H H1 H2:Hp} (a:Same H H1) (b:Same H1 H2):Same H H2:=λc o h=>b c o (a c o h)
theorem Same.free {H H':Hp} (e:Same H H') {l:Addr} (h:H' l=Option.none):H l=Option.none:=by
 cases q:H l with
 | none=>rfl
 | some o=>
  rw [e l o q] at h;cases h
theorem Same.seq {K:PySem.W.Frag}{H H':Hp}{a:Addr}{xs:List V} (e:Same H H') (h:SqL K H a xs):SqL K H' a xs:=by
 rcases h with (h | ⟨o,h⟩) | h
 ·exact .inl (.inl (e _ _ h))
 ·exact .inl (.inr ⟨o,e _ _ h⟩)
 ·exact .inr h
end L2
namespace L2
open PySem PySem.Spec PyProof.Rows
section
variable {κ:Type} [DecidableEq κ]
def valV (kvs:List (κ×V)) (k:κ):Option V:=(kvs.find? λkv=>decide (kv.1=k)).map (·.2)
def putK (kvs:List (κ×V)) (k:κ) (v:V):List (κ×V):=
 if (kvs.any λkv=>decide (kv.1=k))=true then kvs.map (λkv=>if kv.1=k then (kv.1,v) else kv) else kvs++[(k,v)]
theorem valV_pos {p:κ×V}{r:List (κ×V)}{k:κ} (e:p.1=k):valV (p::r) k=some p.2:=by simp [valV,List.find?_cons,e]
theorem valV_neg {p:κ×V}{r:List (κ×V)}{k:κ} (e:¬ p.1=k):valV (p::r) k=valV r k:=by simp [valV,List.find?_cons,e]
theorem valV_any (k:κ):∀ kvs:List (κ×V),(kvs.any λkv=>decide (kv.1=k))=(valV kvs k).isSome
 | []=>rfl
 | p::r=>by
  rw [List.any_cons];by_cases e:p.1=k
  ·simp only [valV_pos e,decide_eq_true e,Bool.true_or,Option.isSome_some]
  ·rw [valV_neg e,decide_eq_false e,Bool.false_or];exact valV_any k r
theorem length_putK (kvs:List (κ×V)) (k:κ) (v:V):(putK kvs k v).length<=kvs.length+1:=by
 unfold putK
 grind
theorem RelO.isSome_eq {o:Option V}{u:Option Value} (r:RelO o u):o.isSome=u.isSome:=by
 cases o with
 | none=>cases u with
  | none=>rfl
  | some _=>exact (show False from r).elim
 | some _=>cases u with
  | none=>exact (show False from r).elim
  | some _=>rfl
theorem KV.val {kvs:List (κ×V)}{vs:List (κ×Value)} (r:KV kvs vs) (k:κ):RelO (valV kvs k) (valueAt vs k):=by
 induction r with
 | nil=>exact True.intro
 | @cons p q ps qs h t ih=>
  obtain ⟨h1,h2⟩:=h;by_cases e:p.1=k
  ·have e':=h1.symm.trans e;have b:valueAt (q::qs) k=some q.2:=by simp [valueAt,List.find?_cons,e']
   rwa [valV_pos e,b]
  ·grind [valueAt,List.find?_cons,valV_neg]
theorem KV.any {kvs:List (κ×V)}{vs:List (κ×Value)} (r:KV kvs vs) (k:κ):(kvs.any λkv=>decide (kv.1=k))=vs.any λkv=>decide (kv.1=k):=by
 induction r with
 | nil=>rfl
 | cons h t ih=>rw [List.any_cons,List.any_cons,ih,h.1]
theorem KV.repl {kvs:List (κ×V)}{vs:List (κ×Value)} (r:KV kvs vs) (k:κ) {y:V}{u:Value} (ry:RelV y u) :
  KV (kvs.map λkv=>if kv.1=k then (kv.1,y) else kv) (vs.map λkv=>if kv.1=k then (kv.1,u) else kv):=by
 induction r with
 | nil=>exact .nil
 | @cons p q ps qs h t ih=>
  rw [List.map_cons,List.map_cons];refine .cons ?_ ih;lia
theorem KV.put {kvs:List (κ×V)}{vs:List (κ×Value)} (r:KV kvs vs) (k:κ) {y:V}{u:Value} (ry:RelV y u):KV (putK kvs k y) (stored vs k u):=by
 unfold putK stored;rw [r.any k];by_cases e:(vs.any λkv=>decide (kv.1=k))=true
 ·rw [if_pos e,if_pos e];exact r.repl k ry
 ·rw [if_neg e,if_neg e];exact Paired.snoc r ⟨rfl,ry⟩
theorem KV.keys {kvs:List (κ×V)}{vs:List (κ×Value)} (r:KV kvs vs):kvs.map (·.1)=vs.map (·.1):=by
 unfold KV at r
 induction r with
 | nil=>rfl
 | cons h t ih=>rw [List.map_cons,List.map_cons,ih,h.1]
theorem KV.length {kvs:List (κ×V)}{vs:List (κ×Value)} (r:KV kvs vs):kvs.length=vs.length:=Paired.length r
end
theorem kV_is {P:Program}{w:World}{k:Key}{u:Value} (r:RelV (kV k) u):(mixKind P w).is k u=true:=by
 cases k with
 | inl i=>obtain ⟨t,e⟩:=(show ∃ t,u=Value.int i t from r);subst e;exact mixKind_int P w i t
 | inr x=>obtain ⟨t,e⟩:=(show ∃ t,u=Value.str x t from r);subst e;exact mixKind_str P w x t
theorem items_are {P:Program}{w:World}:∀ {ks:List Key}{us:List Value},Vals (ks.map kV) us->ItemsAre (mixKind P w) ks us
 | [],_,r=>by rw [List.map_nil] at r;cases r;exact .nil
 | k::ks,_,r=>by
  rw [List.map_cons] at r;cases r with
  | cons h t=>exact .cons (kV_is h) (items_are t)
abbrev KT (H:Hp):List (List Key×V)->List (List Key×Addr×Value)->Prop:=Paired λp q=>p.1=q.1/\H q.2.1=some (.tup (p.1.map kV))/\RelV p.2 q.2.2
theorem KT.val {H:Hp}{kvs:List (List Key×V)}{xs:List (List Key×Addr×Value)} (r:KT H kvs xs) (k:List Key):RelO (valV kvs k) ((atKey xs k).map (·.2)):=by
 induction r with
 | nil=>exact True.intro
 | @cons p q ps qs h t ih=>
  obtain ⟨h1,_,h2⟩:=h;by_cases e:p.1=k
  ·have e':=h1.symm.trans e;have b:atKey (q::qs) k=some q.2:=by simp [atKey,List.find?_cons,e']
   rwa [valV_pos e,b]
  ·grind [atKey,List.find?_cons,valV_neg]
theorem KT.repl {H:Hp}{kvs:List (List Key×V)}{xs:List (List Key×Addr×Value)} (r:KT H kvs xs) (k:List Key) {y:V}{u:Value} (ry:RelV y u) :
  KT H (kvs.map λkv=>if kv.1=k then (kv.1,y) else kv) (xs.map (putAt k u)):=by
 induction r with
 | nil=>exact .nil
 | @cons p q ps qs h t ih=>
  rw [List.map_cons,List.map_cons];refine .cons ?_ ih;obtain ⟨h1,h2,h3⟩:=h;unfold putAt;by_cases e:p.1=k
  ·rw [if_pos e,if_pos (h1.symm.trans e)];exact ⟨h1,h2,ry⟩
  ·rw [if_neg e,if_neg (λz=>e (h1.trans z))];exact ⟨h1,h2,h3⟩
theorem KT.put {H:Hp}{kvs:List (List Key×V)}{xs:List (List Key×Addr×Value)} (r:KT H kvs xs) (k:List Key) {b:Addr}{y:V}{u:Value} (hb:H b=some (.tup (k.map kV))) (ry:RelV y u) :
  KT H (putK kvs k y) (storedH xs k b u):=by
 have e:(kvs.any λkv=>decide (kv.1=k))=(atKey xs k).isSome:=by
  rw [valV_any,(r.val k).isSome_eq,Option.isSome_map]
 unfold putK storedH;rw [e];by_cases q:(atKey xs k).isSome=true
 ·rw [if_pos q,if_pos q];exact r.repl k ry
 ·rw [if_neg q,if_neg q];exact Paired.snoc r ⟨rfl,hb,ry⟩
theorem KT.keeps {H H':Hp}{kvs:List (List Key×V)}{xs:List (List Key×Addr×Value)} (r:KT H kvs xs) (ht:∀ b ys,H b=some (.tup ys)->H' b=some (.tup ys)):KT H' kvs xs:=
 Paired.mapP r λ_ _ z=>⟨z.1,ht _ _ z.2.1,z.2.2⟩
section
variable {P:Program}{w:World}{H:Hp}{h:Heap}{a:Addr}
theorem rd_of {u:HO} (ok:HOk P w H h) (e:Rd H a u):ObjOk P w H h a u:=e.ok ok
theorem dk_rd {kvs:List (Key×V)} (ok:HOk P w H h) (e:Rd H a (.dK kvs)):kvs.length<=sizeLine/\(a == sysModules)=false/\∃ vs,KV kvs vs/\h.DictOf (mixKind P w) a vs:=
 show ObjOk P w H h a (.dK kvs) from rd_of ok e
theorem dk_of {kvs:List (Key×V)} (ok:HOk P w H h) (e:H a=some (.dK kvs)):kvs.length<=sizeLine/\(a == sysModules)=false/\∃ vs,KV kvs vs/\h.DictOf (mixKind P w) a vs:=dk_rd ok (.inl e)
theorem key_of {ks:List Key} (ok:HOk P w H h) (e:H a=some (.tup (ks.map kV))):(tupleKind (mixKind P w)).is h ks a:=by
 obtain ⟨_,its,r,o,h1,h2,n,h3⟩:=(show ObjOk P w H h a (.tup (ks.map kV)) from ok a _ e);exact ⟨o,its.toArray,n,h1,h2,h3,by simpa using items_are r⟩
theorem dt_rd {kvs:List (List Key×V)} (ok:HOk P w H h) (e:Rd H a (.dT kvs)):kvs.length<=sizeLine/\(a == sysModules)=false /\
  ∃ xs,KT H kvs xs/\h.DictOfH (tupleKind (mixKind P w)) a xs:=by
 obtain ⟨z,y,xs,r,o,es,ep,h1,h2,h3,h4,h5⟩:=(show ObjOk P w H h a (.dT kvs) from rd_of ok e);refine ⟨z,y,xs,r,o,es,ep,h1,h2,h3,h4,λx hx=>?_,h5⟩;have all:∀ {l:List (List Key×V)}{m:List (List Key×Addr×Value)},KT H l m->∀ x∈m,(tupleKind (mixKind P w)).is h x.1 x.2.1:=by
  intro l m q
  induction q with
  | nil=>intro x hx;exact nomatch hx
  | @cons p q ps qs hq t ih=>
   grind [key_of]
 exact all r x hx
theorem dt_of {kvs:List (List Key×V)} (ok:HOk P w H h) (e:H a=some (.dT kvs)):kvs.length<=sizeLine/\(a == sysModules)=false /\
  ∃ xs,KT H kvs xs/\h.DictOfH (tupleKind (mixKind P w)) a xs:=dt_rd ok (.inl e)
end
def DGet (H:Hp) (a:Addr) (y:V) (r:Option V):Prop:=
 (∃ kvs k,Rd H a (.dK kvs)/\y=kV k/\r=valV kvs k)\/∃ kvs k b,Rd H a (.dT kvs)/\y = .ref b/\H b=some (.tup (k.map kV))/\r=valV kvs k
def DPut (H:Hp) (a:Addr) (y v:V) (H':Hp):Prop:=
 (∃ kvs k,H a=some (.dK kvs)/\y=kV k/\kvs.length<sizeLine/\H' = upd H a (.dK (putK kvs k v))) \/
 ∃ kvs k b,H a=some (.dT kvs)/\y = .ref b/\H b=some (.tup (k.map kV))/\kvs.length<sizeLine/\H' = upd H a (.dT (putK kvs k v))
theorem DGet.k {H:Hp}{a:Addr}{kvs:List (Key×V)}{k:Key} (e:H a=some (.dK kvs)):DGet H a (kV k) (valV kvs k):=.inl ⟨kvs,k,.inl e,rfl,rfl⟩
theorem DPut.k {H:Hp}{a:Addr}{kvs:List (Key×V)}{k:Key}{v:V} (e:H a=some (.dK kvs)) (hl:kvs.length<sizeLine):DPut H a (kV k) v (upd H a (.dK (putK kvs k v))):=.inl ⟨kvs,k,e,rfl,hl,rfl⟩
section
variable {X:Cx}{pins:List (Addr×Obj)}{σ:St}{H:Hp}{s:Shared}{a:Addr}{y v:V}{u r:Value}{o:Option V}{A:Around}{E:Value->Shared->Prop}
theorem Inv.big (I:Inv X pins σ H s):sysModules<s.heap.objs.size:=by
 exact Nat.lt_trans (by decide) ((I.mod.glob.keeps I.bk).lt)
theorem d_getItem {Q:Value->Shared->Prop} (hu:A.units+1<cLine) (I:Inv X pins σ H s) (g:DGet H a y (some v)) (ry:RelV y u) (h:∀ w' s',Inv X pins σ H s'->RelV v w'->Q w' s') :
  wpAny (model X.prog X.w) A (getItem (.ref a) u) Q E s:=by
 rcases g with ⟨kvs,k,e,ey,l⟩ | ⟨kvs,k,b,e,ey,eb,l⟩
 ·subst ey;obtain ⟨z,hd,vs,rel,dd⟩:=dk_rd I.hok e;obtain ⟨w',hw,rw'⟩:=RelO.some_of (v:=v) (o:=valueAt vs k) (by rw [l];exact rel.val k);exact wpAny_getItem_of (kV_is ry) dd.mapOf hw (h w' _ (I.tok _) rw')
 ·subst ey;cases (show u=Value.ref b from ry);obtain ⟨z,hd,xs,rel,dd⟩:=dt_rd I.hok e;obtain ⟨w',hw,rw'⟩:=RelO.some_of (v:=v) (o:=(atKey xs k).map (·.2)) (by rw [l];exact rel.val k)
  obtain ⟨p,hp,hp2⟩:=Option.map_eq_some_iff.mp hw;refine wpAny_getItem_heap (tupleKind_room_in1 hu) (key_of I.hok eb) dd hp ?_;rw [hp2];exact h w' _ (I.tok _) rw'
theorem d_write {h':Heap}{t':Nat}{ob:HO} (I:Inv X pins σ H s) (mu:Mut (H a)) (hs:Heap.SameBut a s.heap h') (he:∃ q,h'.get? a=some q) (new:ObjOk X.prog X.w (upd H a ob) h' a ob) :
  Inv X pins σ (upd H a ob) { s with heap:=h',toks:=t' }:=
 I.write (x:=a) (e:=a) mu (.inl rfl) (λb q hb z=>(hs.2 b hb).trans z) he new
theorem dk_new {P:Program}{w:World}{H':Hp}{h':Heap}{kvs:List (Key×V)}{vs:List (Key×Value)} (z:kvs.length<=sizeLine) (hd:(a == sysModules)=false) (rel:KV kvs vs) (dd:h'.DictOf (mixKind P w) a vs) :
  ObjOk P w H' h' a (.dK kvs):=⟨z,hd,vs,rel,dd⟩
theorem d_setItem {H':Hp}{Q:Unit->Shared->Prop} (hu:A.units+1<cLine) (I:Inv X pins σ H s) (g:DPut H a y v H') (ry:RelV y u) (rv:RelV v r) (h:∀ s',Inv X pins σ H' s'->Q () s') :
  wpAny (model X.prog X.w) A (setItem (.ref a) u r) Q E s:=by
 rcases g with ⟨kvs,k,e,ey,l,eH⟩ | ⟨kvs,k,b,e,ey,eb,l,eH⟩
 ·subst ey eH;obtain ⟨z,hd,vs,rel,dd⟩:=dk_of I.hok e;have hz:vs.length<=sizeLine:=by rw [<-rel.length];exact z
  have hl:(putK kvs k v).length<=sizeLine:=by have:=length_putK kvs k v;lia
  refine wpAny_setItem_pairs (hsz:=hz) (kV_is ry) dd λh' dd' hs=>h _ ?_;have he:∃ q,h'.get? a=some q:=let ⟨q,_,_,hq,_⟩:=dd';⟨q,hq⟩;exact d_write I (by rw [e];exact True.intro) hs he (dk_new hl hd (rel.put k rv) dd')
 ·subst ey eH;cases (show u=Value.ref b from ry);obtain ⟨z,hd,xs,rel,dd⟩:=dt_of I.hok e;have hz:xs.length<=sizeLine:=by rw [<-Paired.length rel];exact z
  have hl:(putK kvs k v).length<=sizeLine:=by have:=length_putK kvs k v;lia
  refine wpAny_setItem_heap (hsz:=hz) (tupleKind_room_in1 hu) (key_of I.hok eb) dd λh' dd' hs=>h _ ?_;obtain ⟨q,es,ep,hq,h2,h3,h4,_,h5⟩:=dd';refine d_write I (by rw [e];exact True.intro) hs ⟨q,hq⟩ ⟨hl,hd,_,(rel.put k eb rv).keeps λc ys ec=>?_,q,es,ep,hq,h2,h3,h4,h5⟩;rw [upd_ne (ne_of ec e (λz=>nomatch z))]
  exact ec
end
section
variable {X:Cx}{pins:List (Addr×Obj)}{σ:St}{H:Hp}{s:Shared}{a:Addr}{kvs:List (Key×V)}{k:Key}{u:Value}{A:Around}{E:Value->Shared->Prop}
end
def NoSl (i:Expr):Prop:=∀ ov iv,subscripted i false ov iv=operate [ov,iv] (getItem ov iv)
theorem subD_of {prog:Program}{w:World}{A:Around}{E:Value->Shared->Prop}{s:Shared}{env:Env}{value slice:Expr}{pos:Pos}{T id:String}{Q:Value->Shared->Prop}
  (hl:typeLookup (.type T) "__getitem__" = pure (some (.builtin id))) (hs:NoSl slice)
  (h:wpAny (model prog w) A (eval value env) (λo s₁=>wpAny (model prog w) A (eval slice env) (λi s₂=>s₂.TypeIs o T/\wpAny (model prog w) A (getItem o i) Q E s₂) E s₁) E s) :
  wpAny (model prog w) A (eval (.Subscript value slice pos) env) Q E s:=by
 refine Subscript_ (wpAny_mono h (λo s₁ h₁=>wpAny_mono h₁ (λi s₂ h₂=>?_) λ_ _ x=>x) λ_ _ x=>x);obtain ⟨hT,h₂⟩:=h₂;refine wpAny_bind ?_;rw [getitemInPython_of_ne hT.not_modules];refine wpAny_bind (wpAny_specialOf hT hl ?_);have fin:wpAny (model prog w) A (subscripted slice false o i) (λr s₃=>wpAny (model prog w) A (letTemporaryGo value o r >>= λ_=>pure r) Q E s₃) E s₂:=by
  rw [hs o i];exact wpAny_operating (wpAny_mono h₂ (λr s₃ h₃=>wpAny_bind (wpAny_letTemporaryGo (wpAny_pure h₃))) λ_ _ x=>x)
 grind [wpAny_pure,wpAny_bind]
theorem dict_typeIs {X:Cx}{pins:List (Addr×Obj)}{σ:St}{H:Hp}{s:Shared}{a:Addr}{y:V}{o:Option V} (I:Inv X pins σ H s) (g:DGet H a y o):s.TypeIs (.ref a) "dict" :=by
 rcases g with ⟨kvs,k,e,_,_⟩ | ⟨kvs,k,b,e,_,_,_⟩
 ·obtain ⟨_,_,vs,_,dd⟩:=dk_rd I.hok e;exact dd.typeIs
 ·obtain ⟨_,_,xs,_,dd⟩:=dt_rd I.hok e;exact dd.typeIs
def tDGet (td ty:TE):TE:=λσ H Q=>td σ H λx H1=>ty σ H1 λy H2=>∃ a v,x = .ref a/\DGet H2 a y (some v)/\Q v H2
def sDPut (td ty tv:TE):TS:=λD σ H=>tv σ H λv H1=>td σ H1 λx H2=>ty σ H2 λy H3=>∃ a H4,x = .ref a/\DPut H3 a y v H4/\D.nx σ H4
section
variable {X:Cx}{o i e value:Expr}{pos pos' tpos:Pos}{td ty tv:TE}
theorem pe_dget (hu:X.A.units+1<cLine) (ho:PE X o td) (hi:PE X i ty) (hs:NoSl i):PE X (.Subscript o i pos) (tDGet td ty):=by
 intro pins s σ H Q I h;refine subD_of PySem.F.slot_dict_getitem.lookup hs (thn (ho pins s σ H _ I h) λu s1 ⟨x,H1,I1,rx,q1⟩=>thn (hi pins s1 σ H1 _ I1 q1) λiv s2 ⟨y,H2,I2,ry,a,v,ex,g,q2⟩=>?_);subst ex;obtain rfl:u=Value.ref a:=rx;exact ⟨dict_typeIs I2 g,d_getItem hu I2 g ry λw' s3 I3 rw'=>⟨v,H2,I3,rw',q2⟩⟩
theorem ps_dput (hu:X.A.units+1<cLine) (ho:PE X o td) (hi:PE X i ty) (hv:PE X value tv) (hs:swapsWith value (some (.Subscript o i pos')) pos.line X.env=pure false) :
  PS X (.Assign [.Subscript o i pos'] value pos) (sDPut td ty tv):=by
 intro pins s σ H D I h;refine wpAny_Assign_Subscript (thn (hv pins s σ H _ I h) λr s1 ⟨v,H1,I1,rv,q1⟩=>thn (ho pins s1 σ H1 _ I1 q1) λu s2 ⟨x,H2,I2,rx,q2⟩=>thn (hi pins s2 σ H2 _ I2 q2) λiv s3 ⟨y,H3,I3,ry,a,H4,ex,g,q3⟩=>?_) hs;subst ex;obtain rfl:u=Value.ref a:=rx;exact d_setItem hu I3 g ry rv λs4 I4=>⟨σ,H4,I4,q3⟩
end
theorem dk_empty {P:Program}{w:World}{H:Hp} (h:Heap) (hb:sysModules<h.objs.size):ObjOk P w H (h.push { cls:=.type "dict",data:=.dict #[] }) h.objs.size (.dK []):=
 ⟨Nat.zero_le _,beq_eq_false_iff_ne.mpr (Ne.symm (Nat.ne_of_lt hb)),[],.nil,Heap.DictOf.new h⟩
def tDNewK:TE:=λ_ H Q=>∀ p,H p=none->Q (.ref p) (upd H p (.dK []))
section
variable {X:Cx}{pos:Pos}
theorem pe_dnewK:PE X (.Dict [] [] pos) tDNewK:=λpins s σ H Q I h=>
 wpAny_Dict_empty ⟨.ref s.heap.objs.size,_,I.laid (a:=s.heap.objs.size) (o:=.dK []) (t':=s.toks) (λ_ _ q=>Heap.get?_push_of_some _ q) (Nat.le_refl _) (dk_empty s.heap I.big),rfl,h _ (I.hok.fresh (Nat.le_refl _))⟩
end
def tPairs:List (TE×TE)->St->Hp->(List (V×V)->Hp->Prop)->Prop
 | [],_,H,Q=>Q [] H
 | (tk,tv)::r,σ,H,Q=>tk σ H λx H1=>tv σ H1 λy H2=>tPairs r σ H2 λps H3=>Q ((x,y)::ps) H3
abbrev VV:List (V×V)->List (Value×Value)->Prop:=Paired λp q=>RelV p.1 q.1/\RelV p.2 q.2
def PPs (X:Cx) (pos:Pos) (keys:List (Option Expr)) (values:List Expr) (trs:List (TE×TE)):Prop:=
 ∀ (pins:List (Addr×Obj)) (s:Shared) (σ:St) (H:Hp) (Q:List (V×V)->Hp->Prop),Inv X pins σ H s->tPairs trs σ H Q ->
  wpAny (model X.prog X.w) X.A (evalPairs (pairTrees keys values X.env pos)) (λvs s'=>∃ ps H',Inv X pins σ H' s'/\VV ps vs/\Q ps H') X.xe s
theorem pps_nil {X:Cx}{pos:Pos}:PPs X pos [] [] []:=λpins s σ H Q I h=>pairTrees_nil_walk ⟨[],H,I,.nil,h⟩
theorem pps_cons {X:Cx}{pos:Pos}{k v:Expr}{ks:List (Option Expr)}{vs:List Expr}{tk tv:TE}{trs:List (TE×TE)} (hk:PE X k tk) (hv:PE X v tv) (hr:PPs X pos ks vs trs) :
  PPs X pos (some k::ks) (v::vs) ((tk,tv)::trs):=λpins s σ H Q I h=>
 pairTrees_cons_walk (thn (hk pins s σ H _ I h) λu s1 ⟨x,H1,I1,rx,q1⟩=>thn (hv pins s1 σ H1 _ I1 q1) λw2 s2 ⟨y,H2,I2,ry,q2⟩=>
  thn (hr pins s2 σ H2 _ I2 q2) λws s3 ⟨ps,H3,I3,rel,q3⟩=>⟨(x,y)::ps,H3,I3,.cons ⟨rx,ry⟩ rel,q3⟩)
def mergeK (kvs more:List (Key×V)):List (Key×V):=more.foldl (λacc kv=>putK acc kv.1 kv.2) kvs
theorem KV.merge:∀ {more:List (Key×V)}{rs:List (Key×Value)}{kvs:List (Key×V)}{vs:List (Key×Value)},KV more rs->KV kvs vs->KV (mergeK kvs more) (merged vs rs):=by
 intro more rs kvs vs r
 induction r generalizing kvs vs with
 | nil=>intro q;exact q
 | @cons p q ps qs h t ih=>
  intro r0;have e:KV (putK kvs p.1 p.2) (stored vs q.1 q.2):=by
   have:=r0.put p.1 h.2
   rwa [<-h.1]
  exact ih e
theorem length_mergeK:∀ (more kvs:List (Key×V)),(mergeK kvs more).length<=kvs.length+more.length
 | [],kvs=>by show kvs.length<=kvs.length+0;lia
 | p::r,kvs=>by
  have h1:=length_mergeK r (putK kvs p.1 p.2)
  grind [length_putK,mergeK,putK,List.length_cons]
theorem carries_of {P:Program}{w:World}:∀ {kvs:List (Key×V)}{ws:List (Value×Value)},VV (kvs.map λkv=>(kV kv.1,kv.2)) ws->∃ rs,Carries (mixKind P w) ws rs/\KV kvs rs
 | [],_,r=>by rw [List.map_nil] at r;cases r;exact ⟨[],True.intro,.nil⟩
 | p::kvs,_,r=>by
  rw [List.map_cons] at r;cases r with
  | @cons a b as bs h t=>
   obtain ⟨rs,c,q⟩:=carries_of (P:=P) (w:=w) t;obtain ⟨b1,b2⟩:=b;exact ⟨(p.1,b2)::rs,⟨kV_is h.1,rfl,c⟩,.cons ⟨rfl,h.2⟩ q⟩
def tDisp (trs:List (TE×TE)):TE:=λσ H Q=>∀ p,H p=none->tPairs trs σ (upd H p (.dK [])) λps H2=>H2 p=some (.dK [])/\∃ kvs:List (Key×V),ps=kvs.map (λkv=>(kV kv.1,kv.2))/\kvs.length<=15/\Q (.ref p) (upd H2 p (.dK (mergeK [] kvs)))
theorem pe_disp {X:Cx}{pos:Pos}{keys:List (Option Expr)}{values:List Expr}{trs:List (TE×TE)} (h:PPs X pos keys values trs) (hall:keys.all (·.isSome)=true) (hl:keys.length=values.length) (h0:keys≠[])
  (h15:keys.length<=15):PE X (.Dict keys values pos) (tDisp trs):=by
 intro pins s σ H Q I q;have hn:=I.hok.fresh (Nat.le_refl s.heap.objs.size);have I1:=I.laid (a:=s.heap.objs.size) (o:=.dK []) (h':=s.heap.push { cls:=.type "dict",data:=.dict #[] }) (t':=s.toks) (λ_ _ q=>Heap.get?_push_of_some _ q) (Nat.le_refl _) (dk_empty s.heap I.big);refine wpAny_Dict_walk (knd:=mixKind X.prog X.w) hall hl h0 h15 (thn (h pins _ σ _ _ I1 (q _ hn)) λws s2 ⟨ps,H2,I2,rel,e,kvs,ep,lk,q2⟩=>?_);subst ep;obtain ⟨rs,c,rk⟩:=carries_of (P:=X.prog) (w:=X.w) rel;obtain ⟨z,hd,vs0,r0,dd⟩:=dk_of I2.hok e;cases r0;refine ⟨rs,c,dd,λh' dd' hs=>⟨.ref s.heap.objs.size,_,?_,rfl,q2⟩⟩;have hz:(mergeK [] kvs).length<=sizeLine:=by
  have h1:=length_mergeK kvs [];rw [List.length_nil] at h1;rw [sizeLine_eq];lia
 have he:∃ q,h'.get? s.heap.objs.size=some q:=let ⟨q,_,_,hq,_⟩:=dd';⟨q,hq⟩;exact d_write I2 (by rw [e];exact True.intro) hs he (dk_new hz hd (rk.merge .nil) dd')
structure M1 (X:Cx) (o:Expr) (m:Str) (apos:Pos) (e:Expr) (cpos:Pos):Prop where
 base:attributeBase o m X.env (eval o X.env)=eval o X.env
 few:((backTo cpos (starEach [e] X.env)).all (λx=>!x.1) && (backToKw cpos (keywordEach [] X.env)).all (λx=>x.1.isSome)
  && decide (([e]:List Expr).length+([]:List Keyword).length+(if ([]:List Keyword).isEmpty then 0 else 1)<30))=true
 line:(apos.endLine == cpos.line)=true
 trees:backTo cpos (starEach [e] X.env)=[(false,eval e X.env)]
structure M2 (X:Cx) (o:Expr) (m:Str) (apos:Pos) (e f:Expr) (cpos:Pos):Prop where
 base:attributeBase o m X.env (eval o X.env)=eval o X.env
 few:((backTo cpos (starEach [e,f] X.env)).all (λx=>!x.1) && (backToKw cpos (keywordEach [] X.env)).all (λx=>x.1.isSome)
  && decide (([e,f]:List Expr).length+([]:List Keyword).length+(if ([]:List Keyword).isEmpty then 0 else 1)<30))=true
 line:(apos.endLine == cpos.line)=true
 trees:backTo cpos (starEach [e,f] X.env)=[(false,eval e X.env),(false,eval f X.env)]
def IsD (H:Hp) (a:Addr):Prop:=(∃ kvs,Rd H a (.dK kvs))\/∃ kvs,Rd H a (.dT kvs)
theorem isD_at {X:Cx}{pins:List (Addr×Obj)}{σ:St}{H:Hp}{s:Shared}{a:Addr} (I:Inv X pins σ H s) (d:IsD H a) :
  s.TypeIs (.ref a) "dict" /\ (∀ b,Value.ref a = .ref b->∃ ob,s.heap.get? b=some ob/\ob.dict=none)/\(a == sysModules)=false:=by
 rcases d with ⟨kvs,e⟩ | ⟨kvs,e⟩
 ·obtain ⟨_,hd,vs,_,dd⟩:=dk_rd I.hok e;refine ⟨dd.typeIs,λb q=>?_,hd⟩;cases q;obtain ⟨ob,_,_,h1,h2,_⟩:=dd;exact ⟨ob,h1,h2.2.1⟩
 ·obtain ⟨_,hd,xs,_,dd⟩:=dt_rd I.hok e;refine ⟨dd.typeIs,λb q=>?_,hd⟩;cases q;obtain ⟨ob,_,_,h1,h2,_⟩:=dd;exact ⟨ob,h1,h2.2.1⟩
section
variable {X:Cx}{pins:List (Addr×Obj)}{σ:St}{H:Hp}{s:Shared}{a:Addr}{y d:V}{u r:Value}{o:Option V}{A:Around}{E:Value->Shared->Prop}
end
section
variable {X:Cx}{o e f:Expr}{apos cpos:Pos}{td ty tx:TE}
end
section
variable {X:Cx}{pins:List (Addr×Obj)}{σ:St}{H:Hp}{s:Shared}{a:Addr}{kvs:List (Key×V)}{A:Around}{E:Value->Shared->Prop}
end
section
variable {X:Cx}{pins:List (Addr×Obj)}{σ:St}{H:Hp}{s:Shared}{a:Addr}{y:V}{u:Value}{A:Around}{E:Value->Shared->Prop}
end
end L2
namespace L2
open PySem PySem.Spec PyProof.Rows
def clos (cells:List (Str×Addr)):List (Str×NameKind)->List (Str×Addr)->List (Str×Addr)
 | [],acc=>acc
 | (n,k)::r,acc=>clos cells r (if (k == NameKind.free)=true then (match cells.lookup n with | some c=>(n,c)::acc | none=>acc) else acc)
theorem closureFor_clos {env:Env}:∀ (names:List (Str×NameKind)) (acc:List (Str×Addr)),(∀ y∈names,y.2 = .free->∃ c,env.cells.lookup y.1=some c) ->
  (forIn (m:=Sem) names acc λ(x:Str×NameKind) r=>(match x with | (name,kind)=>if (kind == NameKind.free)=true then (do let a <-cellOf env name;pure (ForInStep.yield ((name,a)::r))) else pure (ForInStep.yield r)))=pure (clos env.cells names acc)
 | [],acc,_=>rfl
 | (n,k)::r,acc,h=>by
  rw [List.forIn_cons];unfold clos;by_cases hk:(k == NameKind.free)=true
  ·obtain ⟨c,e⟩:=h (n,k) List.mem_cons_self (by simpa using hk);simp only [hk,if_true];have e1:cellOf env n=pure c:=by grind [cellOf]
   rw [e1,show env.cells.lookup n=some c from e];exact closureFor_clos r _ λy hy=>h y (List.mem_cons_of_mem _ hy)
  ·have hk':(k == NameKind.free)=false:=by simpa using hk
   simp only [hk',Bool.false_eq_true,if_false,pure_bind];exact closureFor_clos r _ λy hy=>h y (List.mem_cons_of_mem _ hy)
theorem closure_of {env:Env}{scope:Scope} (h:∀ y∈scope.names,y.2 = .free->∃ c,env.cells.lookup y.1=some c):closureFor scope env=pure (clos env.cells scope.names []):=by
 grind [closureFor,bind_pure,closureFor_clos]
theorem clos_sub {cells:List (Str×Addr)}{x:Str}{c:Addr}:∀ (names:List (Str×NameKind)) (acc:List (Str×Addr)),(∀ y d,acc.lookup y=some d->cells.lookup y=some d)->(clos cells names acc).lookup x=some c->cells.lookup x=some c
 | [],acc,ha,h=>ha _ _ h
 | (n,k)::r,acc,ha,h=>by
  refine clos_sub r _ (λy d hy=>?_) h
  grind
theorem lookup_cons_some {x n:Str}{c:Addr}{acc:List (Str×Addr)} (h:∃ d,acc.lookup x=some d):∃ d,((n,c)::acc).lookup x=some d:=by
 grind
theorem clos_has {cells:List (Str×Addr)}{x:Str}:∀ (names:List (Str×NameKind)) (acc:List (Str×Addr)),((∃ d,acc.lookup x=some d)\/((x,NameKind.free)∈names/\∃ d,cells.lookup x=some d))->∃ d,(clos cells names acc).lookup x=some d
 | [],acc,h=>by
  rcases h with h | ⟨h,_⟩
  ·exact h
  ·cases h
 | (n,k)::r,acc,h=>by
  refine clos_has r _ ?_
  grind
theorem cellsFrom_app:∀ (names:List (Str×NameKind)) (n:Nat) (acc:List (Str×Addr)),cellsFrom n names acc=cellsFrom n names []++acc
 | [],n,acc=>rfl
 | (x,k)::r,n,acc=>by
  unfold cellsFrom
  split
  ·rw [cellsFrom_app r _ ((x,n)::acc),cellsFrom_app r _ [(x,n)]];simp
  ·exact cellsFrom_app r n acc
theorem lookup_app {x:Str}{c:Addr}:∀ {l l':List (Str×Addr)},(l++l').lookup x=some c->l.lookup x=some c\/l'.lookup x=some c
 | [],_,h=>.inr h
 | (n,d)::r,l',h=>by
  rw [List.cons_append,List.lookup_cons] at h;rw [List.lookup_cons];cases hb:x == n with
  | true=>rw [hb] at h;exact .inl h
  | false=>rw [hb] at h;exact lookup_app h
theorem cellsFrom_has {x:Str}:∀ (names:List (Str×NameKind)) (n:Nat) (acc:List (Str×Addr)),((∃ d,acc.lookup x=some d)\/(x,NameKind.cell)∈names)->∃ d,(cellsFrom n names acc).lookup x=some d
 | [],n,acc,h=>by
  rcases h with h | h
  ·exact h
  ·cases h
 | (y,k)::r,n,acc,h=>
  by
  unfold cellsFrom;rcases h with h | h
  ·split
   ·exact cellsFrom_has r _ _ (.inl (lookup_cons_some h))
   ·exact cellsFrom_has r _ _ (.inl h)
  ·rcases List.mem_cons.mp h with e | h
   ·cases e;rw [if_pos (by decide)];exact cellsFrom_has r _ _ (.inl ⟨n,by simp⟩)
   ·split
    ·exact cellsFrom_has r _ _ (.inr h)
    ·exact cellsFrom_has r _ _ (.inr h)
def cenv (scope:Scope) (C:Addr) (env:Env):Env:=
 { scope:=relabel scope env,locals:=C,globals:=env.globals,cells:=cellsFrom (C+1) scope.names (clos env.cells scope.names []),qual:=env.qual,func:=none,code:=env.code,frame:=env.frame,builtins:=env.builtins }
theorem relabel_mem {scope:Scope}{env:Env}{x:Str}{k:NameKind} (h:(relabel scope env).names.lookup x=some k):∃ k',(x,k')∈scope.names/\(k' = k\/(k' = .free/\k = .cell/\env.kindOf x=some .cell)):=by
 obtain ⟨⟨n,q⟩,hm,e⟩:=(List.mem_map.mp (mem_of_lookup h));lia
def compCx (X:Cx) (scope:Scope) (N':List Str) (s:Shared) (H:Hp) (fp:List Addr):Cx where
 prog:=X.prog
 w:=X.w
 K:=X.K
 mg:=X.mg
 base:=X.base
 A:=X.A
 N:=N'
 s₀:=s
 H₀:=H
 env:=cenv scope s.heap.objs.size X.env
 outer:=X.stack
 stack:=X.stack
 ex:=fp
 calm:=X.calm
 fn:=λx=>decide ((x,NameKind.cell)∈scope.names/\(x,NameKind.free)∉scope.names)
 pn:=[]
 xe:=λ_ _=>False
def sub (n:Nat) (fi:List Nat) (σ:St):St:=List.replicate n none++fi.map λk=>(σ[k]?).join
theorem sub_len (n:Nat) (fi:List Nat) (σ:St):(sub n fi σ).length=n+fi.length:=by simp [sub]
structure CScope (X:Cx) (scope:Scope) (N':List Str) (n:Nat) (fi:List Nat):Prop where
 kind:scope.kind = .function
 names:∀ y∈scope.names,y.2 = .local->scope.names.lookup y.1=some .local
 free:∀ y∈scope.names,y.2 = .free->X.env.kindOf y.1=some .cell\/X.env.kindOf y.1=some .free
 len:N'.length=n+fi.length
 at':∀ (j:Nat) (k:Nat),fi[j]? = some k->∃ x,N'[n+j]? = some x/\X.N[k]? = some x/\scope.names.lookup x=some .free/\(x,NameKind.cell)∉scope.names
theorem newEnvC {M:Model}{A:Around}{E:Value->Shared->Prop}{s:Shared}{scope:Scope}{globals:Addr}{cl:List (Str×Addr)}{qual:Str}{env:Env}{Q:Env->Shared->Prop}
  (h:∀ h',h'.Ns s.heap.objs.size (λ_=>none)->(∀ b o,s.heap.get? b=some o->h'.get? b=some o)->CellsOk h' (s.heap.objs.size+1) (cellsFrom (s.heap.objs.size+1) scope.names []) ->
   Q { scope,locals:=s.heap.objs.size,globals,cells:=cellsFrom (s.heap.objs.size+1) scope.names cl,qual,func:=none,code:=env.code,frame:=env.frame,builtins:=env.builtins } { s with heap:=h' }) :
  wpAny M A (newFunctionEnv scope globals cl [] qual none .none (some env)) Q E s:=by
 have size:(s.heap.push { cls:=.type "dict",data:=.dict #[] }).objs.size=s.heap.objs.size+1:=Heap.size_push ..;have before:∀ b o,s.heap.get? b=some o->(s.heap.push { cls:=.type "dict",data:=.dict #[] }).get? b=some o:=λb o e=>Heap.get?_push_of_some _ e;have names:=Heap.Ns.new s.heap (.type "dict");simp only [newFunctionEnv,if_true,Option.isSome_some];refine wpAny_bind (wpAny_alloc ?_);generalize s.heap.push { cls:=.type "dict",data:=.dict #[] }=h1 at size before names;have laid:=cellsFrom_ok scope.names h1 _ [] ⟨(λ_ _ z=>by cases z),List.Pairwise.nil⟩ (Nat.le_of_eq size.symm);have more:=pushCells_keeps scope.names h1;rw [size] at laid;refine wpAny_bind (wpAny_layCells _ (λ_ kind _=>?_) scope.names cl { s with heap:=h1 } _ (wpAny_bind (wpAny_pure (wpAny_pure ?_))))
 ·rfl
 ·show Q { scope,locals:=s.heap.objs.size,globals,cells:=cellsFrom h1.objs.size scope.names cl,qual,func:=none,code:=env.code,frame:=env.frame,builtins:=env.builtins } _;rw [size];exact h _ (names.keeps more) (λb o e=>more b o (before b o e)) laid
section
variable {X:Cx}{pins:List (Addr×Obj)}{σ:St}{H:Hp}{s:Shared}{scope:Scope}{N':List Str}{n:Nat}{fi:List Nat}{fp:List Addr}{h':Heap}
theorem CScope.clHas (S:CScope X scope N' n fi) (ok:X.Ok):∀ y∈scope.names,y.2 = .free->∃ c,X.env.cells.lookup y.1=some c:=λy hy hk=>ok.has _ (S.free y hy hk)
theorem cenv_cell {C:Addr}{x:Str}{c:Addr} (h:(cenv scope C X.env).cells.lookup x=some c):(cellsFrom (C+1) scope.names []).lookup x=some c\/X.env.cells.lookup x=some c:=by
 have h1:(cellsFrom (C+1) scope.names (clos X.env.cells scope.names [])).lookup x=some c:=h;rw [cellsFrom_app] at h1;rcases lookup_app h1 with z | z
 ·exact .inl z
 ·grind [clos_sub]
theorem cellsFrom_names {x:Str}{c:Addr}:∀ (names:List (Str×NameKind)) (k:Nat) (acc:List (Str×Addr)),(x,c)∈cellsFrom k names acc->(x,NameKind.cell)∈names\/(x,c)∈acc
 | [],_,_,h=>.inr h
 | (y,q)::r,k,acc,h=>by
  unfold cellsFrom at h
  split at h
  ·rename_i hq;have hq':q = .cell:=by simpa using hq
   subst hq';rcases cellsFrom_names r _ _ h with z | z
   ·simp_all
   ·grind
  ·rcases cellsFrom_names r _ _ h with z | z
   ·simp_all
   ·exact .inr z
theorem inv_block (I:Inv X pins σ H s) (S:CScope X scope N' n fi) (hf:∀ b∈fp,FpOk X pins H b) (ho:∀ b∈fp,∃ o,s.heap.get? b=some o)
  (hns:h'.Ns s.heap.objs.size (λ_=>none)) (hk:∀ b o,s.heap.get? b=some o->h'.get? b=some o) (hc:CellsOk h' (s.heap.objs.size+1) (cellsFrom (s.heap.objs.size+1) scope.names [])) :
  Inv (compCx X scope N' s H fp) [] (sub n fi σ) H { s with heap:=h' }:=by
 have ltC:∀ {b:Addr}{o:Obj},s.heap.get? b=some o->b<s.heap.objs.size:=λe=>Heap.lt_size e;have oldcell:∀ {x:Str}{c:Addr},X.env.cells.lookup x=some c->c<s.heap.objs.size:=λ{x c} e=>by
  obtain ⟨v,q⟩:=I.cell x c e;exact q.lt
 have newcell:∀ {x:Str}{c:Addr},(cellsFrom (s.heap.objs.size+1) scope.names []).lookup x=some c->h'.IsCell c none/\s.heap.objs.size+1<=c:=λ{x c} e=>hc.empty x c (PySem.mem_of_lookup e);refine ⟨⟨I.ok.mod,S.kind,I.ok.glob,I.ok.blt,Nat.le_refl _,λx y c h1 h2=>?_,λx hx=>?_,λx c hx h=>?_,I.ok.hd,I.ok.frames,.inl rfl,λb hb=>?_,λb o e=>?_,?_,λb o e hb=>?_,λb hb hz=>?_,I.stack,I.stkFree⟩,
  rfl,I.bare,Un.kept hk,⟨_,hns,λi x v h1 h2 h3=>?_⟩,λx c h=>?_,I.hok.fresh (Nat.le_refl _),λx c h=>?_,λp hp=>absurd (show p∈([]:List (Addr×Obj)) from hp) (by simp),I.hok.kept hk,?_⟩
 ·rcases cenv_cell h1 with z1 | z1 <;> rcases cenv_cell h2 with z2 | z2
  ·exact name_of_addr hc.apart (PySem.mem_of_lookup z1) (PySem.mem_of_lookup z2)
  ·grind
  ·grind
  ·exact I.ok.inj x y c z1 z2
 ·have hx:=hx;have go:∀ k,(relabel scope X.env).names.lookup x=some k->(k = .cell\/k = .free)->∃ c,(cellsFrom (s.heap.objs.size+1) scope.names (clos X.env.cells scope.names [])).lookup x=some c:=λk e hk=>by
   obtain ⟨k',hm,hkk⟩:=relabel_mem e;have:k' = .cell\/k' = .free:=by
    lia
   rcases this with z | z
   ·exact cellsFrom_has _ _ _ (.inr (z ▸ hm))
   ·exact cellsFrom_has _ _ _ (.inl (clos_has _ _ (.inr ⟨z ▸ hm,S.clHas I.ok (x,k') hm z⟩)))
  rcases hx with z | z
  ·exact go _ z (.inl rfl)
  ·exact go _ z (.inr rfl)
 ·have hx':=of_decide_eq_true hx;have h1:(cellsFrom (s.heap.objs.size+1) scope.names (clos X.env.cells scope.names [])).lookup x=some c:=h;rw [cellsFrom_app] at h1;obtain ⟨d,hd⟩:=cellsFrom_has (x:=x) scope.names (s.heap.objs.size+1) [] (.inr hx'.1);have e2:(cellsFrom (s.heap.objs.size+1) scope.names []++clos X.env.cells scope.names []).lookup x=some d:=by
   grind
  rw [h1] at e2;cases e2;exact Nat.le_of_lt (newcell hd).2
 ·refine ⟨?_,λx c e z=>?_⟩
  ·obtain ⟨o,e⟩:=ho b hb;exact Nat.ne_of_lt (ltC e)
  ·obtain ⟨o,eo⟩:=ho b hb;rcases cenv_cell e with q | q
   ·grind
   ·exact (hf b hb).2.2.2.2.1 x c q z
 ·exact I.bs b o e
 ·exact Nat.le_trans I.ok.bsz I.sz
 ·rcases (hf b hb).2.2.2.1 with z | z
  ·exact I.ok.noex b o e z
  ·exact absurd (Nat.lt_of_lt_of_le (Heap.lt_size (I.ok.bs b o e).1) z) (Nat.lt_irrefl _)
 ·rcases List.mem_cons.mp (I.stkSub b hz) with z | z
  ·exact (hf b hb).2.1 z
  ·exact (hf b hb).2.2.1 z
 ·have hi:n<=i:=by
   grind [sub,List.getElem?_append_left,List.getElem?_replicate]
  have h2':(fi.map λk=>(σ[k]?).join)[i - n]? = some (some v):=by
   unfold sub at h2
   grind
  rw [List.getElem?_map] at h2';cases ek:fi[i - n]? with
  | none=>rw [ek] at h2';cases h2'
  | some k=>
   rw [ek] at h2';have h2'':(σ[k]?).join=some v:=Option.some.inj h2';have hσ:σ[k]? = some (some v):=by
    grind
   obtain ⟨x',e1,e2,e3,e4⟩:=S.at' (i - n) k ek;have e1':N'[i]? = some x':=by simp_all
   have h1':N'[i]? = some x:=h1;rw [e1'] at h1';cases h1';have hm:(x,NameKind.free)∈scope.names:=by
    generalize scope.names=l at e3
    induction l with
    | nil=>cases e3
    | cons p r ih=>
     grind
   have kx:=S.free _ hm rfl;obtain ⟨m0,hn0,hl0⟩:=I.loc;obtain ⟨u,ru,lk⟩:=hl0 k x v e2 hσ (kx.elim (λz=>.inr (.inl z)) λz=>.inr (.inr z));refine ⟨u,ru,.inr ⟨?_,?_⟩⟩
   ·have h3:=h3;rcases h3 with z | z | z
    ·obtain ⟨k',hm',hk'⟩:=relabel_mem z;rcases hk' with q | q
     ·exfalso;have:=S.names (x,k') hm' (by rw [q]);lia
     ·cases q.2.1
    ·exact .inl z
    ·exact .inr z
   ·rcases lk with ⟨kl,_⟩ | ⟨_,c,ec,hcell⟩
    ·lia
    ·refine ⟨c,?_,hcell.keeps hk⟩;show (cellsFrom (s.heap.objs.size+1) scope.names (clos X.env.cells scope.names [])).lookup x=some c;obtain ⟨d,hd⟩:=cellsFrom_has (x:=x) scope.names (s.heap.objs.size+1) (clos X.env.cells scope.names []) (.inl (clos_has _ _ (.inr ⟨hm,c,ec⟩)));rw [hd];have hd':=hd;rw [cellsFrom_app] at hd';rcases lookup_app hd' with z | z
     ·rcases cellsFrom_names _ _ _ (PySem.mem_of_lookup z) with q | q
      ·exact absurd q e4
      ·cases q
     ·have:=clos_sub _ _ (λ_ _ q=>by cases q) z;rw [ec] at this;exact this.symm
 ·rcases cenv_cell h with z | z
  ·grind
  ·obtain ⟨v,q⟩:=I.cell x c z;exact ⟨v,q.keeps hk⟩
 ·rcases cenv_cell h with z | z
  ·exact I.hok.fresh (Nat.le_of_lt (newcell z).2)
  ·exact I.freeC x c z
 ·show (sub n fi σ).length=N'.length;rw [sub_len,S.len]
end
end L2
namespace L2
open PySem PySem.Spec PyProof.Rows
def PIfs (X:Cx) (ifs:List Expr) (t:TT):Prop:=
 ∀ (pins:List (Addr×Obj)) (s:Shared) (σ:St) (H:Hp) (Q:Bool->Hp->Prop),Inv X pins σ H s->t σ H Q ->
  wpAny (model X.prog X.w) X.A (forIn ifs true λc r=>if r=true then do let ok <-isTrue c X.env (eval c X.env);pure (ForInStep.yield ok) else pure (ForInStep.yield r)) (TP X pins σ Q) X.xe s
def tYes:TT:=λ_ H Q=>Q true H
theorem pifs_nil {X:Cx}:PIfs X [] tYes:=λ_ _ _ H _ I h=>wpAny_tests_nil ⟨H,I,h⟩
theorem pifs_one {X:Cx}{c:Expr}{t:TT} (h:PT X c t):PIfs X [c] t:=λpins s σ H Q I q=>wpAny_tests_one (h pins s σ H Q I q)
def CompW (g:TG) (tt:TT) (te:TE) (J:It) (D:Addr) (Q:VK) (σ:St) (H:Hp):Prop:=
 ∃ W:Nat->Nat->St->Hp->Prop,(∃ m,W 0 m σ H)/\∀ i m σ H,W i m σ H ->
  (J.stop i H/\Q (.ref D) H)\/(J.go i H/\∃ N:St->Hp->Prop,(∀ σ' H',N σ' H'->∃ m',m' < m/\W (i+1) m' σ' H') /\
   ∀ x H',J.yld i H x H'->g x σ H' λσ2 H2=>tt σ2 H2 λb H3=>if b=true then te σ2 H3 λv H4=>∃ xs,H4 D=some (.lst xs)/\xs.length<sizeLine/\N σ2 (upd H4 D (.lst (xs++[v]))) else N σ2 H3)
def tComp (wi:TI) (g:TG) (tt:TT) (te:TE) (n:Nat) (fi:List Nat):TE:=λσ H Q=>
 wi σ H λJ H1=>∀ D,H1 D=none->CompW g tt te J D Q (sub n fi σ) (upd H1 D (.lst []))
section
variable {X:Cx}{elt tg iter:Expr}{ifs:List Expr}{scope:Scope}{pos:Pos}
theorem comp_loop {Y:Cx}{g:TG}{tt:TT}{te:TE}{J:It}{D it:Addr}{fp:List Addr}{tn:Nat->Heap->Prop}{Qr:VK}{σ:St}{H:Hp}{s:Shared} (hc:Y.calm=true) (hxe:∀ e s,¬ Y.xe e s)
  (hg:PG Y tg g) (hi:PIfs Y ifs tt) (he:PE Y elt te) (T:Turn Y.prog Y.w Y.K tg J fp it tn) (I:Inv Y [] σ H s) (st:tn 0 s.heap) (hf:∀ b∈fp,FpOk Y [] H b) (hw:CompW g tt te J D Qr σ H) :
  codeAny (model Y.prog Y.w) Y.A (.compLoop (.ListComp elt [⟨tg,iter,ifs,0⟩] scope pos) 0 (.ref it) (.ref D) Y.env) (λr s'=>r = .ok .next/\∃ σ' H',Inv Y [] σ' H' s'/\Qr (.ref D) H') s:=by
 obtain ⟨W,⟨m0,w0⟩,turn⟩:=hw;have stat:∀ {H':Hp},(∀ b∈fp,H' b=none)->∀ b∈fp,FpOk Y [] H' b:=λhn b hb=>⟨hn b hb,(hf b hb).2⟩;refine codeAny_loop rfl (λn s'=>∃ i σ' H',Inv Y [] σ' H' s'/\tn i s'.heap/\(∀ b∈fp,H' b=none)/\W i n σ' H') ?_ m0 ⟨0,σ,H,I,st,λb hb=>(hf b hb).1,w0⟩;rintro n s3 ⟨i,σ3,H3,I3,st3,fr3,w3⟩;show wpAny _ Y.A ((compTurn (.ListComp elt [⟨tg,iter,ifs,0⟩] scope pos) 0 (.ref it) (.ref D) Y.env).onRaise (λx=>do noteFrame x Y.env;theTreesLotGoes x)) _ _ s3;refine wpAny_noted ?_;rw [compTurn_list]
 (refine wpAny_bind (wpAny_standAt (wpAny_bind ?_)))
 rcases turn i n σ3 H3 w3 with ⟨stop,qn⟩ | ⟨go,N,hN,step⟩
 ·refine thn (T.done Y rfl rfl rfl hc i [] s3 σ3 H3 _ I3 (stat fr3) st3 stop) λr s4 ⟨hr,I4⟩=>?_;subst hr;exact wpAny_pure ⟨rfl,σ3,H3,I4,qn⟩
 ·refine thn (T.item Y rfl rfl rfl hc i [] s3 σ3 H3 _ I3 (stat fr3) st3 go) λr s4 ⟨u,hr,h4⟩=>?_;subst hr;refine wpAny_bind (thn h4 λ_ s5 ⟨x,H5,I5,r5,y5,st5,fr5⟩=>?_);have again':∀ {σ7:St}{H7:Hp}{s7:Shared},Inv Y ([]++pinsAt fp s5.heap) σ7 H7 s7->N σ7 H7->∃ m,m<n/\∃ i σ' H',Inv Y [] σ' H' s7/\tn i s7.heap/\(∀ b∈fp,H' b=none)/\W i m σ' H':=λ{σ7 H7 s7} I7 n7=>by
   obtain ⟨m',hm,w7⟩:=hN σ7 H7 n7;refine ⟨m',hm,i+1,σ7,H7,I7.unpinned,T.keep _ _ _ st5 λb hb o e=>(I7.pin (b,o) (List.mem_append_right _ (List.mem_append_right _ (mem_pinsAt hb e)))).1,λb hb=>?_,w7⟩;obtain ⟨o,e,d⟩:=T.obj _ _ st5 b hb;exact (I7.pin (b,o) (List.mem_append_right _ (List.mem_append_right _ (mem_pinsAt hb e)))).2.1
  refine wpAny_bind (wpAny_mono (hg _ s5 σ3 H5 x u _ (I5.pinned (stat fr5) (T.obj _ _ st5)) r5 (step x H5 y5)) (λ_ s6 ⟨σ6,H6,I6,q6⟩=>?_) λe s' z=>(hxe e s' z).elim);refine wpAny_bind (wpAny_mono (hi _ s6 σ6 H6 _ I6 q6) (λok s7 ⟨H7,I7,q7⟩=>?_) λe s' z=>(hxe e s' z).elim);cases ok with
  | false=>
   exact wpAny_pure ⟨rfl,again' I7 q7⟩
  | true=>
   refine wpAny_bind (wpAny_bind (wpAny_mono (he _ s7 σ6 H7 _ I7 q7) (λu8 s8 ⟨v8,H8,I8,r8,xs,e8,z8,n8⟩=>?_) λe s' z=>(hxe e s' z).elim));refine wpAny_bind (wpAny_mono (mt_append (X:=Y) _ s8 σ6 H8 (.ref D) [v8] (.ref D) [u8] (λ_ H9=>N σ6 H9) I8 rfl (.cons r8 .nil) ⟨D,xs,v8,rfl,rfl,e8,z8,n8⟩) (λu9 s9 h9=>?_) λe s' z=>(hxe e s' z).elim);obtain ⟨v9,H9,I9,_,n9⟩:=h9;exact wpAny_pure (wpAny_pure ⟨rfl,again' I9 n9⟩)
theorem Inv.letGo {pins:List (Addr×Obj)}{σ:St}{H:Hp}{s:Shared}{C:Addr}{h':Heap} (I:Inv X pins σ H s) (hs:Heap.SameBut C s.heap h') (hn:H C=none) (hC:X.s₀.heap.objs.size<=C) (hL:C≠X.env.locals)
  (h2:∀ x c,X.env.cells.lookup x=some c->c≠C) (h3:∀ p∈X.pn++pins,p.1≠C):Inv X pins σ H { s with heap:=h' }:=
 I.turned (t':=s.toks) (λb o hb e=>hs.extBut b o hb e) hn hL (.inr hC) h2 h3
theorem comp_core {N':List Str}{n:Nat}{fi:List Nat}{wi:TI}{g:TG}{tt:TT}{te:TE}{use:Option (Value->Sem Unit)}{Q:Value->Shared->Prop}{Qr:VK}{epos:Pos}{pins:List (Addr×Obj)}{σ:St}{H:Hp}{s:Shared}
  (hcalm:X.calm=true) (S:CScope X scope N' n fi) (hit:∀ R,wi σ H R->wpAny (model X.prog X.w) X.A (eval iter X.env) (λv s1=>wpAny (model X.prog X.w) X.A (pyIter v) (PIE X pins σ tg R) X.xe s1) X.xe s)
  (hg:∀ s H fp,PG (compCx X scope N' s H fp) tg g) (hi:∀ s H fp,PIfs (compCx X scope N' s H fp) ifs tt) (he:∀ s H fp,PE (compCx X scope N' s H fp) elt te)
  (I:Inv X pins σ H s) (hw:tComp wi g tt te n fi σ H Qr) (hs:∀ x,foldedSetIterable iter X.env x=pure x)
  (post:∀ (D C:Addr) (s':Shared) (H':Hp) (m:Str->Option Value),Inv X pins σ H' s'->s'.heap.Ns C m->H' C=none->X.s₀.heap.objs.size<=C->C≠X.env.locals->(∀ x c,X.env.cells.lookup x=some c->c≠C)->(∀ p∈X.pn++pins,p.1≠C)->Qr (.ref D) H' ->
   compPost (model X.prog X.w) X.A X.xe use Q (.ref D) C (.ok .next) s') :
  wpAny (model X.prog X.w) X.A (comprehension (.ListComp elt [⟨tg,iter,ifs,0⟩] scope pos) scope X.env epos (newList []) false (eval iter X.env) use) Q X.xe s:=by
 refine wpAny_comprehension_free (use:=use) (g:=⟨tg,iter,ifs,0⟩) (gs:=[]) rfl hs (closure_of (S.clHas I.ok)) S.kind S.names ?_;refine thn (hit _ hw) λv s1 h1=>thn h1 λitv s2 h2=>?_;obtain ⟨it,fp,tn,J,H2,e,I2,T,st2,f2,hw2⟩:=h2;subst e;refine wpAny_newList ?_ (Nat.zero_le _);have hD:=I2.hok.fresh (Nat.le_refl _);have I3:Inv X pins σ (upd H2 s2.heap.objs.size (.lst [])) { s2 with heap:=s2.heap.push { cls:=.type "list",data:=.seq ([]:List Value).toArray } }:=
  I2.laid (t':=s2.toks) (λb u e=>Heap.get?_push_of_some _ e) (Nat.le_refl _) ⟨Nat.zero_le _,[],0,.nil,Heap.get?_push_size _ rfl⟩
 have hw3:=hw2 _ hD;have u23:Un (frs X.stack) fp H2 (upd H2 s2.heap.objs.size (.lst [])) s2.heap (s2.heap.push { cls:=.type "list",data:=.seq ([]:List Value).toArray }):=
  Un.laid (λb u e=>Heap.get?_push_of_some _ e) (Nat.le_refl _) hD
 generalize hs3:({ s2 with heap:=s2.heap.push { cls:=.type "list",data:=.seq ([]:List Value).toArray } }:Shared)=s3 at I3 ⊢;have hh3:s3.heap=s2.heap.push { cls:=.type "list",data:=.seq ([]:List Value).toArray }:=by rw [<-hs3]
 have ho3:s3.os=s2.os:=by rw [<-hs3]
 rw [<-hh3] at u23;have hH3:∀ b,b≠s2.heap.objs.size->upd H2 s2.heap.objs.size (.lst []) b=H2 b:=λb hb=>upd_ne hb;generalize upd H2 s2.heap.objs.size (.lst [])=H3 at *;have fpold:∀ b∈fp,∃ o,s2.heap.get? b=some o:=λb hb=>let ⟨o,e,_⟩:=T.obj _ _ st2 b hb;⟨o,e⟩;have k23:∀ b u,s2.heap.get? b=some u->s3.heap.get? b=some u:=λb u e=>by rw [hh3];exact Heap.get?_push_of_some _ e
 have hfp3:∀ b∈fp,FpOk X pins H3 b:=λb hb=>by
  obtain ⟨o,e⟩:=fpold b hb;exact ⟨(hH3 b (Nat.ne_of_lt (Heap.lt_size e))).trans (f2 b hb).1,(f2 b hb).2⟩
 refine newEnvC λh4 hns hk hc=>?_;have I4:=inv_block I3 S hfp3 (λb hb=>let ⟨o,e⟩:=fpold b hb;⟨o,k23 b o e⟩) hns hk hc;have st4:=T.keep _ _ _ st2 λb hb o e=>hk b o (k23 b o e);have fin:codeAny (model X.prog X.w) X.A (.compLoop (.ListComp elt [⟨tg,iter,ifs,0⟩] scope pos) 0 (.ref it) (.ref s2.heap.objs.size) (cenv scope s3.heap.objs.size X.env)) (compPost (model X.prog X.w) X.A X.xe use Q (.ref s2.heap.objs.size) s3.heap.objs.size) { s3 with heap:=h4 }:=by
  refine codeAny_mono (comp_loop (Y:=compCx X scope N' s3 H3 fp) (elt:=elt) (tg:=tg) (iter:=iter) (ifs:=ifs) (scope:=scope) (pos:=pos) hcalm (λ_ _ z=>z) (hg s3 H3 fp) (hi s3 H3 fp) (he s3 H3 fp) T I4 st4 (λb hb=>⟨(hfp3 b hb).1,(I4.ok.exf b hb).1,I4.ok.exfs b hb,.inl hb,(I4.ok.exf b hb).2,λp hp=>absurd (show p∈([]:List (Addr×Obj)) from hp) (by simp)⟩) hw3) λr s' ⟨hr,σ',H',J5,q5⟩=>?_;subst hr;obtain ⟨m,hm,_⟩:=J5.loc;refine post _ _ s' H' m (I2.call' (ch:=fp) (J5.os.trans ho3) (u23.trans J5.base) J5.hok J5.bare λb hb=>⟨(f2 b hb).2.2.2.1,(f2 b hb).2.1,(f2 b hb).2.2.2.2.1,(f2 b hb).2.2.2.2.2⟩) hm J5.free I3.sz (Nat.ne_of_gt I3.lt) (λx c e=>?_) (λp hp=>?_) q5
  ·obtain ⟨v,q⟩:=I3.cell x c e;exact Nat.ne_of_lt q.lt
  ·exact Nat.ne_of_lt (Heap.lt_size (I3.pin p hp).1)
 exact codeAny_compStart_list fin (T.self _ 0 _ _ _ st4 fin)
theorem pe_comp {N':List Str}{n:Nat}{fi:List Nat}{wi:TI}{g:TG}{tt:TT}{te:TE} (hcalm:X.calm=true) (S:CScope X scope N' n fi) (hit:PI X tg iter wi)
  (hg:∀ s H fp,PG (compCx X scope N' s H fp) tg g) (hi:∀ s H fp,PIfs (compCx X scope N' s H fp) ifs tt) (he:∀ s H fp,PE (compCx X scope N' s H fp) elt te)
  (hs:∀ x,foldedSetIterable iter X.env x=pure x:=by intro _;rfl):PE X (.ListComp elt [⟨tg,iter,ifs,0⟩] scope pos) (tComp wi g tt te n fi):=by
 intro pins s σ H Q I h;rw [eval_ListComp];refine comp_core (use:=none) hcalm S (λR z=>hit pins s σ H R I z) hg hi he I h hs λD C s' H' m I' hm hn hC hL h2 h3 q=>⟨m,hm,λh' hs'=>?_⟩;exact ⟨.ref D,H',I'.letGo hs' hn hC hL h2 h3,rfl,q⟩
theorem ps_comp {N':List Str}{n i:Nat}{fi:List Nat}{wi:TI}{g:TG}{tt:TT}{te:TE}{x:Str}{pos' spos:Pos} (hN:X.N.Nodup) (hxi:X.N[i]? = some x) (hx:Loc X.env.scope x) (hcalm:X.calm=true) (S:CScope X scope N' n fi) (hit:PI X tg iter wi)
  (hg:∀ s H fp,PG (compCx X scope N' s H fp) tg g) (hi:∀ s H fp,PIfs (compCx X scope N' s H fp) ifs tt) (he:∀ s H fp,PE (compCx X scope N' s H fp) elt te)
  (hsw:swapsWith (.ListComp elt [⟨tg,iter,ifs,0⟩] scope pos) (some (.Name x pos')) spos.line X.env=pure true:=by rfl)
  (hs:∀ x,foldedSetIterable iter X.env x=pure x:=by intro _;rfl) (hf:X.fn x=true\/X.env.scope.names.lookup x=some .local:=by first | exact .inl rfl | exact .inr rfl | assumption) :
  PS X (.Assign [.Name x pos'] (.ListComp elt [⟨tg,iter,ifs,0⟩] scope pos) spos) (tAsg (tComp wi g tt te n fi) (gName i)):=by
 intro pins s σ H D I h
 (rw [exec_Assign_Name_used _ _ _ _ hsw])
 (refine wpAny_bind (wpAny_standAt (wpAny_bind ?_)))
 refine wpAny_bind (thn (comp_core (use:=some (assign (.Name x pos') X.env)) (Q:=λ_ s'=>SP X pins D .next s') hcalm S (λR z=>hit pins s σ H R I z) hg hi he I h hs λDa C s' H' m I' hm hn hC hL h2 h3 q=>?_) λ_ s' q=>wpAny_pure (wpAny_pure q));refine wpAny_assign_Name (store_ok2 (v:=.ref Da) I' hN hxi hx rfl (λs2 I2 ⟨a,hsb,ha⟩=>?_) hf);have hCa:C≠a:=by
  grind
 exact ⟨m,hm.sameBut hsb hCa,λh' hs'=>⟨_,H',I2.letGo hs' hn hC hL h2 h3,q⟩⟩
end
end L2
namespace L2
open PySem PySem.Spec PyProof.Rows
section
variable {X:Cx}
theorem Inv.turnedL {pins:List (Addr×Obj)}{σ:St}{H:Hp}{s:Shared}{h':Heap}{t':Nat}{wr:List Addr} (I:Inv X pins σ H s) (hf:∀ b∈wr,FpOk X pins H b) (k:∀ b o,b∉wr->s.heap.get? b=some o->h'.get? b=some o) :
  Inv X pins σ H { s with heap:=h',toks:=t' }:=by
 have nit:∀ b u,H b=some u->b∉wr:=λb u e z=>by rw [(hf b z).1] at e;cases e
 refine I.step (g':=s.gens) (d':=s.drawn) (ch:=wr) (λb hb=>⟨(hf b hb).2.2.2.1,(hf b hb).2.1,(hf b hb).2.2.2.2.1,(hf b hb).2.2.2.2.2⟩) (λb o _ _ hc e _=>k b o hc e) (λb o _ _ hc e _=>⟨o.slots,k b o hc e⟩) (λ_ _ _ _ n=>n)
  (λb o hc e=>⟨o,k b o hc e⟩) (λ_ _ e=>e) (λ_ _ _ e=>e) (λb ps e=>⟨#[],by rw [e];simp⟩) (λm hm=>?_) (λb u e=>?_) I.bare
 ·obtain ⟨o,es,ep,ho,r⟩:=hm;exact ⟨o,es,ep,k _ o (λz=>(hf _ z).2.1 rfl) ho,r⟩
 ·refine (I.hok b u e).stay (λc v hc q=>k c v ?_ q) (λ_ q=>q) λ_ _ q=>q
  grind
theorem Inv.turnedLay {pins:List (Addr×Obj)}{σ:St}{H:Hp}{s:Shared}{h':Heap}{t':Nat}{wr:List Addr}{a:Addr}{o:HO} (I:Inv X pins σ H s) (hf:∀ b∈wr,FpOk X pins H b) (k:∀ b o,b∉wr->s.heap.get? b=some o->h'.get? b=some o)
  (ha:s.heap.objs.size<=a) (new:ObjOk X.prog X.w (upd H a o) h' a o):Inv X pins σ (upd H a o) { s with heap:=h',toks:=t' }:=by
 have nit:∀ b u,H b=some u->b∉wr:=λb u e z=>by rw [(hf b z).1] at e;cases e
 have hfr:=I.hok.fresh ha;refine I.step (g':=s.gens) (d':=s.drawn) (ch:=wr) (λb hb=>⟨(hf b hb).2.2.2.1,(hf b hb).2.1,(hf b hb).2.2.2.2.1,(hf b hb).2.2.2.2.2⟩) (λb o _ _ hc e _=>k b o hc e) (λb o _ _ hc e _=>⟨o.slots,k b o hc e⟩)
  (λb ob _ e n=>by rwa [upd_ne (Nat.ne_of_lt (Nat.lt_of_lt_of_le (Heap.lt_size e) ha))])
  (λb o hc e=>⟨o,k b o hc e⟩) (λb xs e=>by rwa [upd_ne (ne_of_none e hfr)]) (λb ob u e=>by rwa [upd_ne (ne_of_none e hfr)]) (λb ps e=>⟨#[],by rw [upd_ne (ne_of_none e hfr),e];simp⟩) (λm hm=>?_) (λb u e=>?_) I.bare
 ·obtain ⟨o,es,ep,ho,r⟩:=hm;exact ⟨o,es,ep,k _ o (λz=>(hf _ z).2.1 rfl) ho,r⟩
 ·by_cases hb:b=a
  ·grind [upd_same]
  ·rw [upd_ne hb] at e;refine (I.hok b u e).stay (λc v hc q=>k c v ?_ q) (λc q=>by rwa [upd_ne (ne_of_none q hfr)]) λc xs q=>by rwa [upd_ne (ne_of_none q hfr)]
   grind
def Its (z:Str):It:=⟨λi _=>i<z.length,λi H x H'=>H' = H/\∃ c,z.cps[i]? = some c/\x = .str ⟨#[c]⟩,λi _=>z.length<=i⟩
theorem turn_str {P:Program}{w:World}{K:PySem.W.Frag}{tg:Expr}{ty:String} (it:Addr) (z:Str) (t:Tok)
  (hW:∀ A:Around,A.handled=none->Walks P w A it [it] [it] z.cps.size (SignAt z) (λi h=>h.IsStrIter it ty z t i))
  (hty:["enumerate","zip","dict_itemiterator","dict_reverseitemiterator","odict_iterator","itertools.zip_longest","itertools.pairwise"].contains ty=false)
  (hself:∀ (A:Around) (i:Nat) (s:Shared) (Q:Value->Shared->Prop) (E:Value->Shared->Prop),s.heap.IsStrIter it ty z t i->Q (.ref it) s->wpAny (model P w) A (pyIter (.ref it)) Q E s) :
  Turn P w K tg (Its z) [it] it (λi h=>i<=z.length/\h.IsStrIter it ty z t i) where
 mem:=by simp
 obj:=λi h st b hb=>by
  have e:b=it:=by simpa using hb
  subst e;obtain ⟨_,o,e,c,d⟩:=st
  simp_all
 keep:=λi h h' st k=>by
  obtain ⟨hi,o,e,c,d⟩:=st;exact ⟨hi,o,k it (by simp) o e,c,d⟩
 item:=by
  intro X hP hw hK hc i pins s σ H E I hf st hg;subst hP hw hK;refine (hW X.A (I.ok.hd hc)).item i s _ _ hg st.2 λv h' tk hv st' kk=>?_;obtain ⟨c,u,ec,rfl⟩:=hv;obtain ⟨o,e,cl,d⟩:=id st';exact ⟨_,rfl,go_of (s:={ s with heap:=h',toks:=tk }) e cl d hty ⟨.str ⟨#[c]⟩,H,(I.turnedL hf kk),⟨u,rfl⟩,⟨rfl,c,ec,rfl⟩,⟨hg,st'⟩,λb hb=>(hf b hb).1⟩⟩
 done:=by
  intro X hP hw hK hc i pins s σ H E I hf st hg;subst hP hw hK;have e:i=z.cps.size:=Nat.le_antisymm st.1 hg;subst e;exact (hW X.A (I.ok.hd hc)).done s _ _ st.2 λh' tk kk=>⟨rfl,I.turnedL hf kk⟩
 self:=λA i s Q E st h=>hself A i s Q E st.2 h
def iStr (tl:TE):TI:=λσ H R=>tl σ H λx H1=>∃ z,x = .str z/\R (Its z) H1
theorem iter_str {tg:Expr}{z:Str}{t:Tok}{pins:List (Addr×Obj)}{s:Shared}{σ:St}{H:Hp}{R:It->Hp->Prop} (I:Inv X pins σ H s) (q:R (Its z) H):wpAny (model X.prog X.w) X.A (pyIter (.str z t)) (PIE X pins σ tg R) X.xe s:=by
 have fp:∀ b∈[s.heap.objs.size],FpOk X pins H b:=λb hb=>by
  have e:b=s.heap.objs.size:=by simpa using hb
  subst e;exact I.fpOk (Nat.le_refl _) (I.hok.fresh (Nat.le_refl _))
 cases ha:z.cps.all (· < 128) with
 | false=>
  refine wpAny_pyIter_wide ha ?_;exact ⟨s.heap.objs.size,[s.heap.objs.size],_,_,H,rfl,I.kept (t':=s.toks) λb o e=>Heap.get?_push_of_some _ e,turn_str (ty:= "str_iterator") _ z t (λA hA=>Walks.strWide hA _ z t) (by decide) (λA i s Q E st h=>wpAny_pyIter_striter_wide st h),
   ⟨Nat.zero_le _,_,Heap.get?_push_size _ rfl,rfl,rfl⟩,fp,q⟩
 | true=>
  refine wpAny_pyIter_ascii ha ?_;exact ⟨s.heap.objs.size,[s.heap.objs.size],_,_,H,rfl,I.kept (t':=s.toks) λb o e=>Heap.get?_push_of_some _ e,turn_str (ty:= "str_ascii_iterator") _ z t (λA hA=>Walks.strAscii hA _ z t) (by decide) (λA i s Q E st h=>wpAny_pyIter_striter_ascii st h),
   ⟨Nat.zero_le _,_,Heap.get?_push_size _ rfl,rfl,rfl⟩,fp,q⟩
theorem pi_str {tg l:Expr}{tl:TE} (hl:PE X l tl):PI X tg l (iStr tl):=by
 intro pins s σ H R I h;refine thn (hl pins s σ H _ I h) λv s1 ⟨x,H1,I1,r1,z,e,q⟩=>?_;subst e;obtain ⟨t,rfl⟩:=r1;exact iter_str I1 q
def Ite (K:PySem.W.Frag) (a:Addr):It:=
 ⟨λi H=>∃ xs x,SqL K H a xs/\xs[i]? = some x,λi H x H'=>∃ p v,H p=none/\(∀ xs,SqL K H a xs->xs[i]? = some v)/\x = .ref p/\H' = upd H p (.tup [.int i,v]),λi H=>∃ xs,SqL K H a xs/\xs.length<=i⟩
theorem turn_enum {P:Program}{w:World}{K:PySem.W.Frag}{elts:List Expr}{k:Nat}{pos:Pos} (a it e:Addr) (hne:e≠it):Turn P w K (.Tuple elts k pos) (Ite K a) [e,it] e (λi h=>(∃ old,IsEnum h e it i old)/\h.IsListIter it a i) where
 mem:=by simp
 obj:=λi h st b hb=>by
  obtain ⟨⟨old,he⟩,o,eo,c,d⟩:=st
  grind
 keep:=λi h h' st kk=>by
  obtain ⟨⟨old,he⟩,o,eo,c,d⟩:=st;exact ⟨⟨old,kk e (by simp) _ he⟩,o,kk it (by simp) o eo,c,d⟩
 item:=by
  intro X hP hw hK hc i pins s σ H E I hf st hg;subst hP hw hK;obtain ⟨xs,x,hq,hx⟩:=hg;obtain ⟨its,rv,p,hz⟩:=I.list hq;obtain ⟨u,hu,ru⟩:=rv.get hx;obtain ⟨⟨old,he⟩,hit⟩:=st;refine wpAny_pyNext_enum_item he hit p.isList (x:=u) (by simpa using hu) hne λh1 ho hit1 ht hsz kk=>?_;refine ⟨_,rfl,?_⟩;refine wpAny_letOwnedTupleGo_enum ho λh2 he2 sb=>?_;have ltn:∀ {b:Addr}{o:Obj},s.heap.get? b=some o->b<s.heap.objs.size:=λe=>Heap.lt_size e;have hel:e<s.heap.objs.size:=ltn he;obtain ⟨oi,eoi,_⟩:=hit;have I2:Inv X pins σ (upd H s.heap.objs.size (.tup [.int i,x])) { s with heap:=h2,toks:=s.toks+1 }:=I.turnedLay (wr:=[e,it]) hf (λb o hb eb=>by
    have hb1:b≠e:=λz=>hb (by simp [z]);exact (sb.2 b hb1).trans (kk b o hb1 (λz=>hb (by simp [z])) eb)) (Nat.le_refl _) ⟨by show 2<=sizeLine;decide,[.int i s.toks,u],.cons ⟨_,rfl⟩ (.cons ru .nil),⟨_,((sb.2 _ (Nat.ne_of_gt hel)).trans ht),rfl,_,rfl⟩⟩
  refine ⟨.ref s.heap.objs.size,_,I2,rfl,⟨_,x,(I.hok.fresh (Nat.le_refl _)),λys hy=>by rwa [I.list_inj hy hq],rfl,rfl⟩,⟨⟨_,by simpa using he2⟩,?_⟩,λb hb=>?_⟩
  ·obtain ⟨o,eo,c,d⟩:=hit1;exact ⟨o,(sb.2 it (Ne.symm hne)).trans eo,c,d⟩
  ·have hb':b≠s.heap.objs.size:=by
    grind
   rw [upd_ne hb'];exact (hf b hb).1
 done:=by
  intro X hP hw hK hc i pins s σ H E I hf st hg;subst hP hw hK;obtain ⟨xs,hq,hx⟩:=hg;obtain ⟨its,rv,p,hz⟩:=I.list hq;have hl:=rv.length;obtain ⟨⟨old,he⟩,hit⟩:=st;exact wpAny_pyNext_enum_end (I.ok.hd hc) he hit p.isList (by simp;lia) λh' eb=>⟨rfl,I.turnedL (t':=s.toks) (wr:=[e,it]) hf λb o hb e'=>eb b o (λz=>hb (by simp [z])) e'⟩
 self:=λ_ _ _ _ _ st h=>by
  grind [wpAny_pyIter_enum]
def iEnum (K:PySem.W.Frag) (ta:TA):TI:=λσ H R=>ta σ H λvs H1=>∃ a,vs=[.ref a]/\(∃ xs,SqL K H1 a xs)/\R (Ite K a) H1
theorem pi_enum {elts:List Expr}{k:Nat}{tpos:Pos}{a:Expr}{ta:TA}{p pos:Pos} (hg:Gl X "enumerate") (hm:X.mg "enumerate" = none) (ha:PA X [a] ta) (hs:starEach [a] X.env=[(false,eval a X.env)]:=by rfl):PI X (.Tuple elts k tpos) (.Call (.Name "enumerate" p) [a] [] pos) (iEnum X.K ta):=by
 intro pins s σ H R I h;refine Call_ (ld_blt I hg hm boot_enumerate (PyProof.Rows.callWith_type1 (thn (ha pos pins s σ H _ I h) λus s1 ⟨vs,H1,I1,r1,q1⟩=>?_) hs rfl));obtain ⟨a,e,⟨xs,hq⟩,q⟩:=q1;subst e;cases r1 with
 | cons r rr=>
  cases rr;cases r;obtain ⟨its,rv,pl,hz⟩:=I1.list hq;refine call_enumerate_list pl.isList λh' he hit hsz hk=>wpAny_pyIter_enum he ?_;refine ⟨s1.heap.objs.size+1,[s1.heap.objs.size+1,s1.heap.objs.size],_,_,H1,rfl,I1.kept (t':=s1.toks) hk,turn_enum a s1.heap.objs.size (s1.heap.objs.size+1) (Nat.succ_ne_self _),⟨⟨_,by simpa using he⟩,hit⟩,λb hb=>?_,q⟩;have hb':s1.heap.objs.size<=b:=by
   grind
  exact I1.fpOk hb' (I1.hok.fresh hb')
end
end L2
namespace L2
open PySem PySem.Spec PyProof.Rows
mutual
inductive Den (K:PySem.W.Frag) (H:Hp):V->PyData->Prop
 | non:Den K H .non .none
 | bl (b:Bool):Den K H (.bl b) (.bool b)
 | int (i:Int):Den K H (.int i) (.int i)
 | str {x:Str} (h:PyData.strOk x=true):Den K H (.str x) (.str x)
 | lst {a:Addr}{xs:List V}{ds:List PyData} (h:SqL K H a xs) (t:Dens K H xs ds):Den K H (.ref a) (.list ds)
 | tup {a:Addr}{xs:List V}{ds:List PyData} (h:SqT K H a xs) (t:Dens K H xs ds):Den K H (.ref a) (.tuple ds)
inductive Dens (K:PySem.W.Frag) (H:Hp):List V->List PyData->Prop
 | nil:Dens K H [] []
 | cons {x:V}{xs:List V}{d:PyData}{ds:List PyData} (h:Den K H x d) (t:Dens K H xs ds):Dens K H (x::xs) (d::ds)
end
section
variable {K:PySem.W.Frag}{H H':Hp}
theorem Dens.length:∀ {xs:List V}{ds:List PyData},Dens K H xs ds->xs.length=ds.length
 | _,_,.nil=>rfl
 | _,_,.cons _ t=>by rw [List.length_cons,List.length_cons,t.length]
theorem Dens.append:∀ {xs ys:List V}{ds es:List PyData},Dens K H xs ds->Dens K H ys es->Dens K H (xs++ys) (ds++es)
 | _,_,_,_,.nil,s=>s
 | _,_,_,_,.cons r t,s=>.cons r (t.append s)
theorem Dens.get:∀ {xs:List V}{ds:List PyData}{i:Nat}{x:V},Dens K H xs ds->xs[i]? = some x->∃ d,ds[i]? = some d/\Den K H x d
 | _,_,_,_,.nil,e=>by simp at e
 | _,_,0,_,.cons r _,e=>by simp_all
 | _,_,i+1,x,.cons _ t,e=>by
  obtain ⟨u,h1,h2⟩:=Dens.get (i:=i) (x:=x) t (by simpa using e)
  simp_all
theorem Dens.getD:∀ {xs:List V}{ds:List PyData}{i:Nat}{d:PyData},Dens K H xs ds->ds[i]? = some d->∃ x,xs[i]? = some x/\Den K H x d
 | _,_,_,_,.nil,e=>by simp at e
 | _,_,0,_,.cons r _,e=>by simp_all
 | _,_,i+1,x,.cons _ t,e=>by
  obtain ⟨u,h1,h2⟩:=Dens.getD (i:=i) t (by simpa using e)
  simp_all
mutual
theorem Den.keep (h1:∀ a xs,SqL K H a xs->SqL K H' a xs) (h2:∀ a xs,SqT K H a xs->SqT K H' a xs):∀ {v:V}{d:PyData},Den K H v d->Den K H' v d
 | _,_,.non=>.non
 | _,_,.bl b=>.bl b
 | _,_,.int i=>.int i
 | _,_,.str h=>.str h
 | _,_,.lst h t=>.lst (h1 _ _ h) (Dens.keep h1 h2 t)
 | _,_,.tup h t=>.tup (h2 _ _ h) (Dens.keep h1 h2 t)
theorem Dens.keep (h1:∀ a xs,SqL K H a xs->SqL K H' a xs) (h2:∀ a xs,SqT K H a xs->SqT K H' a xs):∀ {v:List V}{d:List PyData},Dens K H v d->Dens K H' v d
 | _,_,.nil=>.nil
 | _,_,.cons r t=>.cons (Den.keep h1 h2 r) (Dens.keep h1 h2 t)
end
theorem Same.seqT {a:Addr}{xs:List V} (e:Same H H') (h:SqT K H a xs):SqT K H' a xs:=by
 rcases h with (h | ⟨o,h⟩) | h
 ·exact .inl (.inl (e _ _ h))
 ·exact .inl (.inr ⟨o,e _ _ h⟩)
 ·exact .inr h
theorem Den.same {v:V}{d:PyData} (e:Same H H') (h:Den K H v d):Den K H' v d:=h.keep (λ_ _ q=>e.seq q) λ_ _ q=>e.seqT q
theorem Dens.same {v:List V}{d:List PyData} (e:Same H H') (h:Dens K H v d):Dens K H' v d:=h.keep (λ_ _ q=>e.seq q) λ_ _ q=>e.seqT q
mutual
theorem Den.lay:∀ {v:V}{d:PyData},Den K H v d->d.canLay0=true
 | _,_,.non=>rfl
 | _,_,.bl b=>rfl
 | _,_,.int i=>rfl
 | _,_,.str h=>h
 | _,_,.lst h t=>Dens.lay t
 | _,_,.tup h t=>Dens.lay t
theorem Dens.lay:∀ {v:List V}{d:List PyData},Dens K H v d->PyData.canLayAll0 d=true
 | _,_,.nil=>rfl
 | _,_,.cons r t=>by rw [PyData.canLayAll0,Den.lay r,Dens.lay t];rfl
end
end
section
variable {X:Cx}{pins:List (Addr×Obj)}{σ:St}{H:Hp}{s:Shared}
mutual
theorem Inv.reads (I:Inv X pins σ H s):∀ {v:V}{d:PyData}{u:Value},Den X.K H v d->RelV v u->∃ as,Reads s.heap u d as
 | _,_,_,.non,r=>by cases r;exact ⟨_,.none⟩
 | _,_,_,.bl b,r=>by cases r;exact ⟨_,.bool b⟩
 | _,_,_,.int i,r=>by obtain ⟨t,rfl⟩:=r;exact ⟨_,.int i t⟩
 | _,_,_,.str (x:=x) h,r=>by obtain ⟨t,rfl⟩:=r;exact ⟨_,.str x t⟩
 | _,_,_,.lst h t,r=>by
  cases r;obtain ⟨its,rv,⟨o,n,e,c,_,d⟩,_⟩:=I.list h;obtain ⟨as,ra⟩:=I.readsAll t rv;exact ⟨_,.list e c d (by simpa using ra)⟩
 | _,_,_,.tup h t,r=>by
  cases r;obtain ⟨its,rv,⟨o,e,c,n,d⟩,_⟩:=I.tuple h;obtain ⟨as,ra⟩:=I.readsAll t rv;exact ⟨_,.tuple e c d (by simpa using ra)⟩
theorem Inv.readsAll (I:Inv X pins σ H s):∀ {vs:List V}{ds:List PyData}{us:List Value},Dens X.K H vs ds->Vals vs us->∃ as,ReadsAll s.heap us ds as
 | _,_,_,.nil,.nil=>⟨_,.nil⟩
 | _,_,_,.cons h t,.cons r rr=>by
  obtain ⟨as,ra⟩:=I.reads h r;obtain ⟨bs,rb⟩:=I.readsAll t rr;exact ⟨_,.cons ra rb⟩
end
def rEqD (K:PySem.W.Frag):R2:=λx y H Q=>∃ d e,Den K H x d/\Den K H y e/\d.depth<=100/\Q (.bl (PyData.eqv d e)) H
def rNeD (K:PySem.W.Frag):R2:=λx y H Q=>∃ d e,Den K H x d/\Den K H y e/\d.depth<=100/\Q (.bl (!PyData.eqv d e)) H
theorem units_depth {k a b:Nat}{A:Around} (hr:Room k A) (h:a<=100):A.units+min a b<cLine:=by
 have:=hr.un;lia
theorem op_eqD {k:Nat} (hr:Room k X.A):OpR X (compareOp .Eq) (rEqD X.K):=by
 intro pins s σ H x y v u Q I rx ry h;obtain ⟨d,e,hd,he,hl,q⟩:=h;obtain ⟨as,ra⟩:=I.reads hd rx;obtain ⟨bs,rb⟩:=I.reads he ry;exact SeqAt.compareEq_reads ra rb hd.lay he.lay (units_depth hr hl) ⟨.bl _,H,I,rfl,q⟩
theorem op_neD {k:Nat} (hr:Room k X.A):OpR X (compareOp .NotEq) (rNeD X.K):=by
 intro pins s σ H x y v u Q I rx ry h;obtain ⟨d,e,hd,he,hl,q⟩:=h;obtain ⟨as,ra⟩:=I.reads hd rx;obtain ⟨bs,rb⟩:=I.reads he ry;exact SeqAt.compareNe_reads ra rb hd.lay he.lay (units_depth hr hl) ⟨.bl _,H,I,rfl,q⟩
theorem op_le_str:OpR X (compareOp .LtE) (λx y H Q=>∃ i j,x = .str i/\y = .str j/\Q (.bl (!decide (j.cps.toList<i.cps.toList))) H):=by
 intro pins s σ H x y v u Q I rx ry h;obtain ⟨i,j,rfl,rfl,q⟩:=h;obtain ⟨t,rfl⟩:=rx;obtain ⟨t',rfl⟩:=ry;exact PySem.P.le_str ⟨.bl _,H,I,rfl,q⟩
def rSlS:V->Option Int->Option Int->Hp->VK->Prop:=λx lo hi H Q=>∃ z,x = .str z/\z.length<=sizeLine/\Q (.str (Txt.slice z lo hi)) H
theorem sl_str:SlR X rSlS:=by
 intro pins s σ H x v vl vu lo hi sl Q I rx hs pl pu h;obtain ⟨z,rfl,hz,q⟩:=h;obtain ⟨t,rfl⟩:=rx;refine ⟨"str",_,F.slot_str_getitem.lookup,typeIs_str _ _ _,?_⟩;have fin:∀ t' k,EP X pins σ Q (.str (Txt.slice z lo hi) t') { s with toks:=k }:=λt' k=>⟨.str _,H,I.tok _,⟨_,rfl⟩,q⟩;cases pl with
 | none=>
  cases pu with
  | none=>exact wpAny_getItem_str_slice (l:=none) (u:=none) (st:=none) hs rfl (post_val_or_str ⟨Nat.le_trans (Txt.slice_le z _ _) hz,fin⟩)
  | int j u=>exact wpAny_getItem_str_slice (l:=none) (u:=some (j,u)) (st:=none) hs rfl (post_val_or_str ⟨Nat.le_trans (Txt.slice_le z _ _) hz,fin⟩)
 | int i t1=>
  cases pu with
  | none=>exact wpAny_getItem_str_slice (l:=some (i,t1)) (u:=none) (st:=none) hs rfl (post_val_or_str ⟨Nat.le_trans (Txt.slice_le z _ _) hz,fin⟩)
  | int j u=>exact wpAny_getItem_str_slice (l:=some (i,t1)) (u:=some (j,u)) (st:=none) hs rfl (post_val_or_str ⟨Nat.le_trans (Txt.slice_le z _ _) hz,fin⟩)
theorem vals_strs:∀ (l:List (Str×Tok)),Vals ((l.map (·.1)).map V.str) (strValues l)
 | []=>.nil
 | p::r=>.cons ⟨p.2,rfl⟩ (vals_strs r)
def rSplit:V->List V->Hp->VK->Prop:=λx vs H Q=>∃ z y,x = .str z/\vs=[.str y]/\y.length≠0/\z.length+2<=sizeLine/\∀ l,H l=none->Q (.ref l) (upd H l (.lst ((Txt.split z y).map V.str)))
theorem split_len (z y:Str) (hz:z.length+2<=sizeLine):(Builtin.Str.partsBetween z (Builtin.Str.occurrences z y 0 z.length (z.length+1)) y.length).length<=sizeLine:=by
 grind [StrLaws.occ_length_le,length_partsBetween]
theorem mt_split:MtR X "str.split" rSplit:=by
 intro pins s σ H x vs v us Q I rx rv h;obtain ⟨z,y,rfl,rfl,hy,hz,q⟩:=h;obtain ⟨t,rfl⟩:=rx;obtain ⟨u,rfl,ru⟩:=rv.one;obtain ⟨t',rfl⟩:=ru;have hn:=split_len z y hz;have fin:∀ (l:List (Str×Tok)) (tk:Nat),l.map (·.1)=Txt.split z y->EP X pins σ Q (.ref s.heap.objs.size) { s with heap:=s.heap.push { cls:=.type "list",data:=.seq (strValues l).toArray },toks:=tk }:=λl tk e=>by
  have hl:((Txt.split z y).map V.str).length<=sizeLine:=by
   grind [List.length_map,Txt.split,sizeLine]
  refine ⟨.ref s.heap.objs.size,_,I.laid (o:=.lst ((Txt.split z y).map V.str)) (λb ob e=>Heap.get?_push_of_some _ e) (Nat.le_refl _) ⟨hl,strValues l,0,?_,Heap.get?_push_size _ rfl⟩,rfl,q _ (I.hok.fresh (Nat.le_refl _))⟩
  grind [vals_strs]
 have hy':(y.length == 0)=false:=by simpa using hy
 cases h1:(decide (z.length<y.length) || decide (Builtin.Str.strKind z<Builtin.Str.strKind y))
 ·cases hf:(Builtin.Str.occurrences z y 0 z.length (z.length+1)).isEmpty
  ·refine call_meets F.slot_str_split (typeIs_str _ _ _) F.entry_str_split (F.args_str_split_2 _ _) (meets_str_split_sep z y t t' h1 hy' hf (by lia) hn) ?_;rw [strsFrom_eq];exact fin (numbered s.toks _) _ ((numbered_texts _ _).trans ((if_neg (ne_true_of_eq_false h1)).trans (if_neg (ne_true_of_eq_false hf))).symm)
  ·exact call_meets F.slot_str_split (typeIs_str _ _ _) F.entry_str_split (F.args_str_split_2 _ _) (meets_str_split_not_found z y t t' h1 hy' hf)
    (fin [(z,t)] s.toks ((if_neg (ne_true_of_eq_false h1)).trans (if_pos hf)).symm)
 ·exact call_meets F.slot_str_split (typeIs_str _ _ _) F.entry_str_split (F.args_str_split_2 _ _) (meets_str_split_cannot_occur z y t t' h1)
   (fin [(z,t)] s.toks (if_pos h1).symm)
theorem strs_of:∀ {ys:List Str}{us:List Value},Vals (ys.map V.str) us->∃ l:List (Str×Tok),us=strValues l/\l.map (·.1)=ys
 | [],_,.nil=>⟨[],rfl,rfl⟩
 | y::ys,_,.cons r t=>by
  obtain ⟨tk,rfl⟩:=r;obtain ⟨l,rfl,rfl⟩:=strs_of t;exact ⟨(y,tk)::l,rfl,rfl⟩
def rJoin (K:PySem.W.Frag):V->List V->Hp->VK->Prop:=λx vs H Q=>∃ z l ys,x = .str z/\vs=[.ref l]/\SqL K H l (ys.map V.str)/\JoinOk z ys=true/\Q (.str (Txt.join z ys)) H
theorem mt_join:MtR X "str.join" (rJoin X.K):=by
 intro pins s σ H x vs v us Q I rx rv h;obtain ⟨z,l,ys,rfl,rfl,hl,hok,q⟩:=h;obtain ⟨t,rfl⟩:=rx;obtain ⟨u,rfl,ru⟩:=rv.one;cases ru;obtain ⟨its,r,pl,_⟩:=I.list hl;obtain ⟨l',rfl,e⟩:=strs_of r;exact SC.join pl.isList e hok λt' k=>⟨.str _,H,I.tok _,⟨_,rfl⟩,q⟩
end
end L2
namespace L2
open PySem PySem.Spec PyProof.Rows
mutual
def ltv:PyData->PyData->Bool
 | .int a,.int b=>decide (a<b)
 | .str x,.str y=>decide (x.cps.toList<y.cps.toList)
 | .list xs,.list ys=>ltvAll xs ys
 | .tuple xs,.tuple ys=>ltvAll xs ys
 | _,_=>false
def ltvAll:List PyData->List PyData->Bool
 | [],[]=>false
 | [],_::_=>true
 | _::_,[]=>false
 | x::xs,y::ys=>if PyData.eqv x y=true then ltvAll xs ys else ltv x y
end
mutual
def cmpb:PyData->PyData->Bool
 | .int _,.int _=>true
 | .str _,.str _=>true
 | .list xs,.list ys=>cmpAll xs ys
 | .tuple xs,.tuple ys=>cmpAll xs ys
 | _,_=>false
def cmpAll:List PyData->List PyData->Bool
 | [],_=>true
 | _::_,[]=>true
 | x::xs,y::ys=>if PyData.eqv x y=true then cmpAll xs ys else cmpb x y
end
theorem ltvAll_cons (x y:PyData) (xs ys:List PyData):ltvAll (x::xs) (y::ys)=if PyData.eqv x y=true then ltvAll xs ys else ltv x y:=by rw [ltvAll]
theorem cmpAll_cons (x y:PyData) (xs ys:List PyData):cmpAll (x::xs) (y::ys)=if PyData.eqv x y=true then cmpAll xs ys else cmpb x y:=by rw [cmpAll]
def LtAt (A:Around) (s:Shared) (y x:Value) (b:Bool):Prop:=
 ∀ (prog:Program) (w:World) (E:Value->Shared->Prop) (Q:Value->Shared->Prop),Q (.bool b) s->wpAny (model prog w) A (richCompare .Lt y x) Q E s
def LtAll (xs ys:List PyData):Prop:=∀ x y,x∈xs->y∈ys->cmpb x y=true->∀ (A:Around) (s:Shared) (a b:Value) (as bs:List Addr),Reads s.heap a x as->Reads s.heap b y bs->x.canLay0=true->y.canLay0=true->A.units+x.depth<cLine->LtAt A s a b (ltv x y)
theorem LtAll.tail {x y:PyData}{xs ys:List PyData} (h:LtAll (x::xs) (y::ys)):LtAll xs ys:=λa b ha hb=>h a b (List.mem_cons_of_mem _ ha) (List.mem_cons_of_mem _ hb)
section
open PySem.SeqAt
open PySem.AutoSeq1 (wpAny_loadPart')
open PySem.MeetsSeq PySem.MeetsSeq2 PySem.MeetsSeq3
theorem depth_head {x:PyData}{xs:List PyData}{k:Nat} (h:k+PyData.depthAll (x::xs)<cLine):k+x.depth<cLine:=by
 rw [PyData.depthAll] at h;have:=Nat.le_max_left x.depth (PyData.depthAll xs);lia
theorem depth_tail {x:PyData}{xs:List PyData}{k:Nat} (h:k+PyData.depthAll (x::xs)<cLine):k+PyData.depthAll xs<cLine:=by
 rw [PyData.depthAll] at h;have:=Nat.le_max_right x.depth (PyData.depthAll xs);lia
theorem eq_room {k a b:Nat} (h:k+a<cLine):k+min a b<cLine:=by
 have:=Nat.min_le_left a b;lia
def Sq (T:String) (hp:Heap) (a:Addr) (its:Array Value):Prop:=∃ n dd sl,hp.get? a=some { cls:=.type T,dict:=dd,data:=.seq its n,slots:=sl }
structure Sqs (hp:Heap) (i:Nat) (its its2:Array Value) (xs ys:List PyData):Prop where
 in1:i<=its.size
 in2:i<=its2.size
 r1:∃ as,ReadsAll hp (its.toList.drop i) xs as
 r2:∃ bs,ReadsAll hp (its2.toList.drop i) ys bs
theorem none_at {its:Array Value}{i:Nat} (h:its.size<=i):its[((i:Nat):Int).toNat]? = none:=by
 rw [Int.toNat_natCast];exact Array.getElem?_eq_none h
theorem some_at {its:Array Value}{i:Nat} (h:i<its.size):its[((i:Nat):Int).toNat]? = some its[i]:=by
 rw [Int.toNat_natCast];exact Array.getElem?_eq_getElem h
theorem next_nat (i:Nat):((i:Int)+1)=((i+1:Nat):Int):=rfl
theorem Sqs.size1 {hp:Heap}{i:Nat}{its its2:Array Value}{xs ys:List PyData} (q:Sqs hp i its its2 xs ys):xs.length=its.size - i:=by
 obtain ⟨as,r⟩:=q.r1;have:=ReadsAll.length _ _ _ r;rw [List.length_drop,Array.length_toList] at this;exact this.symm
theorem Sqs.size2 {hp:Heap}{i:Nat}{its its2:Array Value}{xs ys:List PyData} (q:Sqs hp i its its2 xs ys):ys.length=its2.size - i:=by
 obtain ⟨bs,r⟩:=q.r2;have:=ReadsAll.length _ _ _ r;rw [List.length_drop,Array.length_toList] at this;exact this.symm
theorem Sqs.over {hp:Heap}{i:Nat}{its its2:Array Value}{xs ys:List PyData} (q:Sqs hp i its its2 xs ys) (h:its.size<=i\/its2.size<=i):ltvAll xs ys=decide (its.size<its2.size)/\ltvAll ys xs=decide (its.size > its2.size):=by
 have z1:=q.size1;have z2:=q.size2;have i1:=q.in1;have i2:=q.in2;cases xs with
 | nil=>
  rw [List.length_nil] at z1;cases ys with
  | nil=>
   rw [List.length_nil] at z2;rw [ltvAll];exact ⟨(decide_eq_false (by lia)).symm,(decide_eq_false (by lia)).symm⟩
  | cons y ys=>
   rw [List.length_cons] at z2;rw [ltvAll,ltvAll];exact ⟨(decide_eq_true (by lia)).symm,(decide_eq_false (by lia)).symm⟩
 | cons x xs=>
  rw [List.length_cons] at z1;cases ys with
  | nil=>
   rw [List.length_nil] at z2;rw [ltvAll,ltvAll];exact ⟨(decide_eq_false (by lia)).symm,(decide_eq_true (by lia)).symm⟩
  | cons y ys=>
   rw [List.length_cons] at z2;lia
theorem Sqs.next {hp:Heap}{i:Nat}{its its2:Array Value}{xs ys:List PyData} (q:Sqs hp i its its2 xs ys) (h1:i<its.size) (h2:i<its2.size):∃ x xs' y ys',xs=x::xs'/\ys=y::ys'/\(∃ as,Reads hp its[i] x as)/\(∃ bs,Reads hp its2[i] y bs)/\Sqs hp (i+1) its its2 xs' ys':=by
 obtain ⟨_,_,⟨as,ra⟩,bs,rb⟩:=q;rw [List.drop_eq_getElem_cons (by rw [Array.length_toList];exact h1),Array.getElem_toList] at ra;rw [List.drop_eq_getElem_cons (by rw [Array.length_toList];exact h2),Array.getElem_toList] at rb;cases ra with
 | cons r1 t1=>
  cases rb with
  | cons r2 t2=>exact ⟨_,_,_,_,rfl,rfl,⟨_,r1⟩,⟨_,r2⟩,h1,h2,⟨_,t1⟩,⟨_,t2⟩⟩
theorem lay_cons {x:PyData}{xs:List PyData} (h:PyData.canLayAll0 (x::xs)=true):x.canLay0=true/\PyData.canLayAll0 xs=true:=by simpa [PyData.canLayAll0] using h
theorem tuple_lt_data (l b:Addr) (items items2:Array Value) (xs ys:List PyData) (ih:LtAll xs ys) (hcmp:cmpAll xs ys=true) (hlx:PyData.canLayAll0 xs=true) (hly:PyData.canLayAll0 ys=true) :
  Meets (Builtin.«tuple.__lt__» ⟨[.ref l,.ref b],[]⟩)
   (λA R s=>Sq "tuple" s.heap l items/\Sq "tuple" s.heap b items2/\Sqs s.heap 0 items items2 xs ys/\A.in1.units+PyData.depthAll xs<cLine/\R (.ok (.ret (.bool (ltvAll xs ys)))) s):=
 .of_wp λprog w A R s h=>by
  obtain ⟨hp,g,d,tk,os⟩:=s;obtain ⟨⟨n,dd,sl,hl⟩,⟨n2,dd2,sl2,hb⟩,⟨_,_,⟨as,hra⟩,bs,hrb⟩,hu,h⟩:=h;rw [List.drop_zero] at hra hrb;have f2:=AutoSeq1.sub_tuple_tuple;have z1:items.size=xs.length:=by rw [<-ReadsAll.length _ _ _ hra];simp
  have z2:items2.size=ys.length:=by rw [<-ReadsAll.length _ _ _ hrb];simp
  wp_walk using wpAny_loadPart' hl,wpAny_loadPart' hb,wpAny_forIn_list _ (λrest b s'=>b.1=none/\s' = ⟨hp,g,d,tk,os⟩/\∃ (vs ws:List Value) (xs' ys':List PyData) (as bs:List Addr),rest=vs.zip ws /\
   ReadsAll hp vs xs' as/\ReadsAll hp ws ys' bs/\LtAll xs' ys'/\cmpAll xs' ys' = true/\PyData.canLayAll0 xs' = true/\PyData.canLayAll0 ys' = true/\A.in1.units+PyData.depthAll xs' < cLine/\xs'.length+items2.size=ys'.length+items.size/\R (.ok (.ret (.bool (ltvAll xs' ys')))) ⟨hp,g,d,tk,os⟩) _
  case turn=>
   rintro ⟨y,x⟩ rest b s' ⟨hb',rfl,vs,ws,xs',ys',as,bs,hz,hvi,hwi,iht,hct,hlx',hly',hu',hlen,hR⟩;cases hvi with
   | nil=>rw [List.zip_nil_left] at hz;cases hz
   | @cons v0 vs0 d0 ds0 as0 as1 r1 hvi'=>
    cases hwi with
    | nil=>rw [List.zip_nil_right] at hz;cases hz
    | @cons w0 ws0 e0 es0 bs0 bs1 r2 hwi'=>
     rw [List.zip_cons_cons] at hz;injection hz with hyx hrest;injection hyx with hy hx;subst hy hx;rw [ltvAll_cons] at hR;rw [cmpAll_cons] at hct;have hlx2:d0.canLay0=true/\PyData.canLayAll0 ds0=true:=by simpa [PyData.canLayAll0] using hlx'
     have hly2:e0.canLay0=true/\PyData.canLayAll0 es0=true:=by simpa [PyData.canLayAll0] using hly'
     simp only [List.length_cons] at hlen;have he:=eqAt_reads d0 e0 A.in1 ⟨hp,g,d,tk,os⟩ y x as0 bs0 r1 r2 hlx2.1 hly2.1 (eq_room (depth_head hu'));refine wpAny_bind (he prog w _ _ ?_);cases hq:PyData.eqv d0 e0 with
     | true=>
      rw [hq,if_pos rfl] at hR hct
      wp_walk
      exact ⟨rfl,rfl,_,_,_,_,_,_,hrest,hvi',hwi',iht.tail,hct,hlx2.2,hly2.2,depth_tail hu',by lia,hR⟩
     | false=>
      rw [hq,if_neg Bool.false_ne_true] at hR hct;have hri:=iht d0 e0 List.mem_cons_self List.mem_cons_self hct A.in1 ⟨hp,g,d,tk,os⟩ y x as0 bs0 r1 r2 hlx2.1 hly2.1 (depth_head hu') prog w
      wp_walk using hri
      exact ⟨_,rfl,by simpa using hR⟩
  case fin=>
   rintro ⟨b1,b2⟩ s' ⟨hb',rfl,vs,ws,xs',ys',as,bs,hz,hvi,hwi,_,_,_,_,_,hlen,hR⟩;simp only at hb';subst hb';have hv:ltvAll xs' ys' = decide (items.size<items2.size):=by
    cases hvi with
    | nil=>
     cases hwi with
     | nil=>
      simp only [List.length_nil] at hlen;rw [ltvAll];exact (decide_eq_false (by lia)).symm
     | cons _ _=>
      simp only [List.length_nil,List.length_cons] at hlen;rw [ltvAll];exact (decide_eq_true (by lia)).symm
    | cons _ _=>
     cases hwi with
     | nil=>
      simp only [List.length_nil,List.length_cons] at hlen;rw [ltvAll];exact (decide_eq_false (by lia)).symm
     | cons _ _=>
      rw [List.zip_cons_cons] at hz;cases hz
   rw [hv] at hR
   wp_walk
   exact ⟨_,rfl,by simpa [Builtin.Tuple.tupleCompareSizes] using hR⟩
  case h=>
   exact ⟨rfl,rfl,items.toList,items2.toList,xs,ys,as,bs,rfl,hra,hrb,ih,hcmp,hlx,hly,hu,by lia,h⟩
theorem list_lt_loop (l b:Addr) (items items2:Array Value) (k:Nat):∀ (i:Nat) (xs ys:List PyData),items.size - i=k->LtAll xs ys->cmpAll xs ys=true->PyData.canLayAll0 xs=true->PyData.canLayAll0 ys=true ->
  Meets (Builtin.«list.__eq__.loop» ⟨[.ref l,.ref b,rawInt i,rawInt 0],[]⟩)
   (λA R s=>Sq "list" s.heap l items/\Sq "list" s.heap b items2/\Sqs s.heap i items items2 xs ys/\A.in1.units+PyData.depthAll xs<cLine/\R (.ok (.ret (.bool (ltvAll xs ys)))) s):=by
 induction k with
 | zero=>
  intro i xs ys hk _ _ _ _ prog w A R s h;obtain ⟨hp,g,d,tk,os⟩:=s;obtain ⟨⟨n,dd,sl,hl⟩,⟨n2,dd2,sl2,hb⟩,sq,_,h⟩:=h;rw [(sq.over (.inl (by lia))).1] at h
  wp_walk using wpAny_loadPart' hl,wpAny_loadPart' hb
  rw [none_at (its:=items) (i:=i) (by lia)]
  wp_walk using wpAny_loadPart' hl,wpAny_loadPart' hb
  exact h
 | succ k ihk=>
  intro i xs ys hk ih hcmp hlx hly prog w A R s h;obtain ⟨hp,g,d,tk,os⟩:=s;obtain ⟨L1,L2,sq,hu,h⟩:=h;obtain ⟨n,dd,sl,hl⟩:=id L1;obtain ⟨n2,dd2,sl2,hb⟩:=id L2;have lt1:i<items.size:=by lia
  wp_walk using wpAny_loadPart' hl,wpAny_loadPart' hb
  rw [some_at lt1];rcases Nat.lt_or_ge i items2.size with lt2 | ge2
  ·obtain ⟨x,xs,y,ys,rfl,rfl,⟨as,rx⟩,⟨bs,ry⟩,sq'⟩:=sq.next lt1 lt2;obtain ⟨lx,lxs⟩:=lay_cons hlx;obtain ⟨ly,lys⟩:=lay_cons hly;rw [ltvAll_cons] at h;rw [cmpAll_cons] at hcmp;rw [some_at lt2];refine wpAny_bind (eqAt_reads x y A.in1 _ _ _ as bs rx ry lx ly (eq_room (depth_head hu)) prog w _ _ ?_);cases hq:PyData.eqv x y
   ·simp only [hq,Bool.false_eq_true,if_false] at h hcmp;have less:=ih x y List.mem_cons_self List.mem_cons_self hcmp A.in1 ⟨hp,g,d,tk,os⟩ _ _ as bs rx ry lx ly (depth_head hu) prog w
    wp_walk using wpAny_loadPart' hl,wpAny_loadPart' hb
    rw [some_at lt1,some_at lt2]
    wp_walk using less
    exact h
   ·simp only [hq,if_true] at h hcmp
    wp_walk
    rw [next_nat];have on:=ihk (i+1) xs ys (by lia) ih.tail hcmp lxs lys prog w A R _ ⟨L1,L2,sq',depth_tail hu,h⟩;exact ⟨plainId_quiet plain_eq_loop _,codeAny_builtin entry_eq_loop (by rw [Around.under_plainId plain_eq_loop];exact on)⟩
  ·rw [(sq.over (.inr ge2)).1] at h;rw [none_at (its:=items2) (i:=i) ge2]
   wp_walk using wpAny_loadPart' hl,wpAny_loadPart' hb
   exact h
theorem list_lt_data (l b:Addr) (items items2:Array Value) (xs ys:List PyData) (ih:LtAll xs ys) (hcmp:cmpAll xs ys=true) (hlx:PyData.canLayAll0 xs=true) (hly:PyData.canLayAll0 ys=true) :
  Meets (Builtin.«list.__lt__» ⟨[.ref l,.ref b],[]⟩)
   (λA R s=>Sq "list" s.heap l items/\Sq "list" s.heap b items2/\Sqs s.heap 0 items items2 xs ys/\A.in1.units+PyData.depthAll xs<cLine/\R (.ok (.ret (.bool (ltvAll xs ys)))) s):=by
 intro prog w A R s h;have on:=list_lt_loop l b items items2 _ 0 xs ys rfl ih hcmp hlx hly prog w A R s h;obtain ⟨hp,g,d,tk,os⟩:=s;obtain ⟨⟨n,dd,sl,hl⟩,⟨n2,dd2,sl2,hb⟩,_⟩:=h;have both:=AutoSeq1.sub_list_list
 wp_walk using wpAny_loadPart' hl,wpAny_loadPart' hb
 exact ⟨plainId_quiet plain_eq_loop _,codeAny_builtin entry_eq_loop (by rw [Around.under_plainId plain_eq_loop];exact on)⟩
theorem depth_mem {x:PyData}:∀ {xs:List PyData},x∈xs->x.depth<=PyData.depthAll xs
 | y::ys,h=>by
  rw [PyData.depthAll]
  (rcases List.mem_cons.mp h with e | h)
  ·subst e;exact Nat.le_max_left _ _
  ·exact Nat.le_trans (depth_mem h) (Nat.le_max_right _ _)
end
end L2
namespace L2
open PySem PySem.Spec PyProof.Rows
section
open PySem.SeqAt
open PySem.MeetsSeq PySem.MeetsSeq2 PySem.MeetsSeq3
theorem ltAt_lists {A:Around}{s:Shared}{l b:Addr}{o o2:Obj}{vs ws:Array Value}{n n2:Nat}{xs ys:List PyData}{as bs:List Addr} (h1:s.heap.get? l=some o) (c1:o.cls = .type "list") (d1:o.data = .seq vs n) (h2:s.heap.get? b=some o2) (c2:o2.cls = .type "list") (d2:o2.data = .seq ws n2)
  (ra:ReadsAll s.heap vs.toList xs as) (rb:ReadsAll s.heap ws.toList ys bs) (ih:LtAll xs ys) (hcmp:cmpAll xs ys=true) (hlx:PyData.canLayAll0 xs=true) (hly:PyData.canLayAll0 ys=true) (hu:A.units+(PyData.depthAll xs+1)<cLine):LtAt A s (.ref l) (.ref b) (ltvAll xs ys):=λprog w E Q h=>by
 obtain ⟨cls,dd,data,sl⟩:=o;obtain ⟨cls2,dd2,data2,sl2⟩:=o2;subst c1 d1 c2 d2;exact richCompare_meets_room (op:=.Lt) ⟨_,h1,rfl⟩ ⟨_,h2,rfl⟩ F.slot_list_lt F.entry_list_lt (F.args_list_lt_2 _ _) (list_lt_data l b vs ws xs ys ih hcmp hlx hly)
  ⟨⟨_,_,_,h1⟩,⟨_,_,_,h2⟩,⟨Nat.zero_le _,Nat.zero_le _,⟨_,ra⟩,⟨_,rb⟩⟩,by lia,show Value.bool (ltvAll xs ys)≠Value.notImplemented/\Q (.bool (ltvAll xs ys)) s from ⟨(λx=>nomatch x),h⟩⟩ (by lia)
theorem ltAt_tuples {A:Around}{s:Shared}{l b:Addr}{o o2:Obj}{vs ws:Array Value}{n n2:Nat}{xs ys:List PyData}{as bs:List Addr} (h1:s.heap.get? l=some o) (c1:o.cls = .type "tuple") (d1:o.data = .seq vs n) (h2:s.heap.get? b=some o2) (c2:o2.cls = .type "tuple") (d2:o2.data = .seq ws n2)
  (ra:ReadsAll s.heap vs.toList xs as) (rb:ReadsAll s.heap ws.toList ys bs) (ih:LtAll xs ys) (hcmp:cmpAll xs ys=true) (hlx:PyData.canLayAll0 xs=true) (hly:PyData.canLayAll0 ys=true) (hu:A.units+(PyData.depthAll xs+1)<cLine):LtAt A s (.ref l) (.ref b) (ltvAll xs ys):=λprog w E Q h=>by
 obtain ⟨cls,dd,data,sl⟩:=o;obtain ⟨cls2,dd2,data2,sl2⟩:=o2;subst c1 d1 c2 d2;exact richCompare_meets_room (op:=.Lt) ⟨_,h1,rfl⟩ ⟨_,h2,rfl⟩ F.slot_tuple_lt F.entry_tuple_lt (F.args_tuple_lt_2 _ _) (tuple_lt_data l b vs ws xs ys ih hcmp hlx hly)
  ⟨⟨_,_,_,h1⟩,⟨_,_,_,h2⟩,⟨Nat.zero_le _,Nat.zero_le _,⟨_,ra⟩,⟨_,rb⟩⟩,by lia,show Value.bool (ltvAll xs ys)≠Value.notImplemented/\Q (.bool (ltvAll xs ys)) s from ⟨(λx=>nomatch x),h⟩⟩ (by lia)
theorem ltAt_int {A:Around}{s:Shared}{a b:Value}{i j:Int}{as bs:List Addr} (ra:Reads s.heap a (.int i) as) (rb:Reads s.heap b (.int j) bs):LtAt A s a b (ltv (.int i) (.int j)):=by
 cases ra with
 | int i t=>
  cases rb with
  | int j u=>intro prog w E Q h;exact HT.rcLt_int A s i t j u prog w E Q (by rwa [ltv] at h)
theorem ltAt_str {A:Around}{s:Shared}{a b:Value}{x y:Str}{as bs:List Addr} (ra:Reads s.heap a (.str x) as) (rb:Reads s.heap b (.str y) bs):LtAt A s a b (ltv (.str x) (.str y)):=by
 cases ra with
 | str x t=>
  cases rb with
  | str y u=>intro prog w E Q h;exact (PyProof.Rows.lt_str (by rwa [ltv] at h):wpAny (model prog w) A (compareOp .Lt (.str x t) (.str y u)) Q E s)
theorem cmp_cases {da db:PyData} (h:cmpb da db=true):(∃ i j,da = .int i/\db = .int j)\/(∃ x y,da = .str x/\db = .str y)\/(∃ xs ys,da = .list xs/\db = .list ys/\cmpAll xs ys=true)\/∃ xs ys,da = .tuple xs/\db = .tuple ys/\cmpAll xs ys=true:=by
 unfold cmpb at h
 grind
theorem ltAt_reads:∀ (n:Nat) (da db:PyData),da.depth<=n->cmpb da db=true->∀ (A:Around) (s:Shared) (a b:Value) (as bs:List Addr),Reads s.heap a da as->Reads s.heap b db bs->da.canLay0=true->db.canLay0=true->A.units+da.depth<cLine->LtAt A s a b (ltv da db):=by
 intro n
 induction n with
 | zero=>
  intro da db hd hc A s a b as bs ra rb ha hb hu;rcases cmp_cases hc with ⟨i,j,rfl,rfl⟩ | ⟨x,y,rfl,rfl⟩ | ⟨xs,ys,rfl,rfl,hc⟩ | ⟨xs,ys,rfl,rfl,hc⟩
  ·exact ltAt_int ra rb
  ·exact ltAt_str ra rb
  ·rw [PyData.depth] at hd;lia
  ·rw [PyData.depth] at hd;lia
 | succ n ih=>
  intro da db hd hc A s a b as bs ra rb ha hb hu;rcases cmp_cases hc with ⟨i,j,rfl,rfl⟩ | ⟨x,y,rfl,rfl⟩ | ⟨xs,ys,rfl,rfl,hc⟩ | ⟨xs,ys,rfl,rfl,hc⟩
  ·exact ltAt_int ra rb
  ·exact ltAt_str ra rb
  ·rw [PyData.depth] at hd hu;cases ra with
   | @list a o vs k xs as1 h1 c1 d1 r1=>
    cases rb with
    | @list b o2 ws k2 ys bs1 h2 c2 d2 r2=>
     rw [ltv];exact ltAt_lists h1 c1 d1 h2 c2 d2 r1 r2 (λx y hx hy hxy A' s' a' b' as' bs' ra' rb' la lb hu'=>ih x y (by have:=depth_mem hx;lia) hxy A' s' a' b' as' bs' ra' rb' la lb hu') hc ha hb hu
  ·rw [PyData.depth] at hd hu;cases ra with
   | @tuple a o vs k xs as1 h1 c1 d1 r1=>
    cases rb with
    | @tuple b o2 ws k2 ys bs1 h2 c2 d2 r2=>
     rw [ltv];exact ltAt_tuples h1 c1 d1 h2 c2 d2 r1 r2 (λx y hx hy hxy A' s' a' b' as' bs' ra' rb' la lb hu'=>ih x y (by have:=depth_mem hx;lia) hxy A' s' a' b' as' bs' ra' rb' la lb hu') hc ha hb hu
variable {prog:Program}{w:World}{A:Around}{E:Value->Shared->Prop}{s:Shared}
theorem oneLt_any {x y:Value}{b:Bool}{Q:Bool->Shared->Prop} (h:LtAt A s x y b) (q:Q b s):wpAny (model prog w) A (oneLt' false x y) Q E s:=
 PySem.W.kat_one x y (h prog w E _ q)
theorem oneLt_str {x y:Str}{t u:Tok}{Q:Bool->Shared->Prop} (q:Q (decide (x.cps.toList<y.cps.toList)) s):wpAny (model prog w) A (oneLt' true (.str x t) (.str y u)) Q E s:=by
 have:=PySem.W.kas_lt_str (prog:=prog) (w:=w) (A:=A) (E:=E) (s:=s) (a:=x) (c:=y) (t:=t) (u:=u) (Q:=Q) q
 rwa [keyLt'_oneType] at this
theorem keyLt_data {b:Bool}{x y:Addr}{ox oy:Obj}{vx vy:Array Value}{n k:Nat}{xs ys:List PyData}{as bs:List Addr}{Q:Bool->Shared->Prop} (hx:s.heap.get? x=some ox) (dx:ox.data = .seq vx n) (hy:s.heap.get? y=some oy) (dy:oy.data = .seq vy k)
  (ra:ReadsAll s.heap vx.toList xs as) (rb:ReadsAll s.heap vy.toList ys bs) (ha:PyData.canLayAll0 xs=true) (hb:PyData.canLayAll0 ys=true) (hc:cmpAll xs ys=true) (hf:∀ d e,xs.head? = some d->ys.head? = some e->(b=true->(∃ i j,d = .int i/\e = .int j)\/∃ i j,d = .str i/\e = .str j))
  (hu:A.units+PyData.depthAll xs<cLine) (q:Q (ltvAll xs ys) s):wpAny (model prog w) A (keyLt' (tuples' b) (.ref x) (.ref y)) Q E s:=by
 refine PySem.W.kat_lt hx dx hy dy ?_;have z1:vx.size=xs.length:=by rw [<-ReadsAll.length _ _ _ ra];simp
 have z2:vy.size=ys.length:=by rw [<-ReadsAll.length _ _ _ rb];simp
 have key:∀ (vs ws:List Value) (xs' ys':List PyData) (as bs:List Addr) (i:Nat),ReadsAll s.heap vs xs' as->ReadsAll s.heap ws ys' bs->PyData.canLayAll0 xs' = true->PyData.canLayAll0 ys' = true->cmpAll xs' ys' = true->A.units+PyData.depthAll xs' < cLine ->
   xs'.length+vy.size=ys'.length+vx.size->(i=0->xs' = xs/\ys' = ys)->Q (ltvAll xs' ys') s->PySem.W.KatLex prog w A b (decide (vx.size<vy.size)) Q (vs.zip ws) i s:=by
  intro vs
  induction vs with
  | nil=>
   intro ws xs' ys' as bs i r1 r2 l1 l2 c u hl h0 hq;cases r1;rw [List.zip_nil_left];refine PySem.W.kat_nil ?_;cases r2 with
   | nil=>
    rw [ltvAll] at hq
    rwa [decide_eq_false (by lia)]
   | cons _ _=>
    rw [ltvAll] at hq;simp only [List.length_nil,List.length_cons] at hl
    rwa [decide_eq_true (by lia)]
  | cons v vs ihv=>
   intro ws xs' ys' as bs i r1 r2 l1 l2 c u hl h0 hq;cases r1 with
   | @cons _ _ d0 ds0 as0 as1 r1 r1'=>
   cases r2 with
   | nil=>
    rw [List.zip_nil_right];refine PySem.W.kat_nil ?_;rw [ltvAll] at hq;simp only [List.length_nil,List.length_cons] at hl
    rwa [decide_eq_false (by lia)]
   | @cons w0 ws0 e0 es0 bs0 bs1 r2 r2'=>
    rw [List.zip_cons_cons];rw [ltvAll_cons] at hq;rw [cmpAll_cons] at c;have l1':d0.canLay0=true/\PyData.canLayAll0 ds0=true:=by simpa [PyData.canLayAll0] using l1
    have l2':e0.canLay0=true/\PyData.canLayAll0 es0=true:=by simpa [PyData.canLayAll0] using l2
    refine PySem.W.kat_cons (eqAt_reads d0 e0 A s v w0 as0 bs0 r1 r2 l1'.1 l2'.1 (eq_room (depth_head u)) prog w _ _ ?_);cases hq':PyData.eqv d0 e0 with
    | true=>
     rw [hq',if_pos rfl] at hq c;refine PySem.W.kat_yes (ihv ws0 ds0 es0 _ _ (i+1) r1' r2' l1'.2 l2'.2 c (depth_tail u) ?_ (λz=>by lia) hq);simp only [List.length_cons] at hl;lia
    | false=>
     rw [hq',if_neg Bool.false_ne_true] at hq c;refine PySem.W.kat_no ?_;by_cases hbi:(b && i == 0)=true
     ·have hb1:b=true:=by simp at hbi;exact hbi.1
      obtain ⟨e1,e2⟩:=h0 (by simp at hbi;exact hbi.2);rw [hbi];rcases hf d0 e0 (by rw [<-e1];rfl) (by rw [<-e2];rfl) hb1 with ⟨p,q',rfl,rfl⟩ | ⟨p,q',rfl,rfl⟩
      ·cases r1;cases r2;rw [ltv] at hq;exact oneLt_int hq
      ·cases r1;cases r2;rw [ltv] at hq;exact oneLt_str hq
     ·have:(b && i == 0)=false:=by simpa using hbi
      rw [this];exact oneLt_any (ltAt_reads _ d0 e0 (Nat.le_refl _) c A s v w0 as0 bs0 r1 r2 l1'.1 l2'.1 (depth_head u)) hq
 grind
end
end L2
namespace L2
open PySem PySem.Spec PyProof.Rows PySem.W
structure Weak (n:Nat) (lt:Nat->Nat->Bool):Prop where
 irrefl:∀ a,a<n->lt a a=false
 negTrans:∀ a b c,a<n->b<n->c<n->lt a c=true->lt a b=true\/lt b c=true
 asymm:∀ a b,a<n->b<n->lt a b=true->lt b a=false
def AllLt (n:Nat) (p:Array Nat):Prop:=∀ i,p.getD i 0<n
def UpTo (lt:Nat->Nat->Bool) (p:Array Nat) (k:Nat):Prop:=∀ i j,i<=j->j<k->lt (p.getD j 0) (p.getD i 0)=false
def DownTo (lt:Nat->Nat->Bool) (p:Array Nat) (k:Nat):Prop:=∀ i j,i<=j->j<k->lt (p.getD i 0) (p.getD j 0)=false
theorem AllLt.perm {n:Nat}{p q:Array Nat} (h:AllLt n p) (hn:0<n) (r:q.Perm p):AllLt n q:=by
 intro i;by_cases hi:i<q.size
 ·have e:q.getD i 0=q[i]:=by simp [Array.getD,hi]
  rw [e];have hm:q[i]∈p.toList:=(Array.perm_iff_toList_perm.mp r).mem_iff.mp (by simp);obtain ⟨j,hj,e2⟩:=List.mem_iff_getElem.mp hm;have:=h j;have e3:p.getD j 0=q[i]:=by
   have hj':j<p.size:=by simpa using hj
   simp_all
  rwa [<-e3]
 ·lia
section
variable {n:Nat}{lt:Nat->Nat->Bool}{cmp:Nat->Nat->(Bool->Shared->Prop)->Shared->Prop}{P:Shared->Prop}
theorem Weak.trans (W:Weak n lt) {a b c:Nat} (ha:a<n) (hb:b<n) (hc:c<n) (h1:lt b a=false) (h2:lt c b=false):lt c a=false:=by
 cases q:lt c a with
 | false=>rfl
 | true=>
  rcases W.negTrans c b a hc hb ha q with z | z
  ·rw [h2] at z;cases z
  ·rw [h1] at z;cases z
theorem UpTo.of_step (W:Weak n lt) {p:Array Nat} (hp:AllLt n p) {k m:Nat} (h:UpTo lt p k) (hk:1<=k) (hs:∀ i,k<=i->i<m->lt (p.getD i 0) (p.getD (i - 1) 0)=false):UpTo lt p m:=by
 have key:∀ d i j,j=i+d->j<m->lt (p.getD j 0) (p.getD i 0)=false:=by
  intro d
  induction d with
  | zero=>intro i j e hj;rw [e];exact W.irrefl _ (hp _)
  | succ d ih=>
   intro i j e hj;by_cases hjk:j<k
   ·exact h i j (by lia) hjk
   ·exact W.trans (hp _) (hp (j - 1)) (hp _) (ih i (j - 1) (by lia) (by lia)) (hs j (by lia) hj)
 intro i j hij hj;exact key (j - i) i j (by lia) hj
theorem getD_bubble {p:Array Nat}{k l:Nat} (hk:k<p.size) (hl:l<=k) (i:Nat):(bubble p k (k - l)).getD i 0=if i<l then p.getD i 0 else if i=l then p.getD k 0 else if i<=k then p.getD (i - 1) 0 else p.getD i 0:=by
 rw [Array.getD_eq_getD_getElem?,(getElem?_bubble (xs:=p) hk (k - l) (by lia) i)]
 grind [Array.getD_eq_getD_getElem?]
theorem getD_rev {p:Array Nat}{i j:Nat} (hj:j<=p.size) (k:Nat):(kas_rev p i j).getD k 0=if i<=k/\k<j then p.getD (i+j - 1 - k) 0 else p.getD k 0:=by
 unfold kas_rev;rw [Array.getD_eq_getD_getElem?,(getElem?_mirror_all (xs:=p) (i:=i) hj k)]
 grind [Array.getD_eq_getD_getElem?]
theorem asc_wp (hcmp:∀ i j C s,i<n->j<n->P s->(∀ s',P s'->C (lt i j) s')->cmp i j C s) {p:Array Nat} (hp:AllLt n p) {Q:Nat->Shared->Prop}:∀ (f k:Nat) (s:Shared),P s ->
  (∀ m s',P s'->k<=m->m<=k+f->(∀ i,k<=i->i<m->lt (p.getD i 0) (p.getD (i - 1) 0)=false)->(m<k+f->lt (p.getD m 0) (p.getD (m - 1) 0)=true)->Q m s')->(kas_asc p f k).kasWp cmp Q s
 | 0,k,s,hs,h=>h k s hs (Nat.le_refl _) (Nat.le_refl _) (λi h1 h2=>by lia) λh1=>by lia
 | f+1,k,s,hs,h=>by
  refine hcmp _ _ _ s (hp _) (hp _) hs λs' hs'=>?_;cases hc:lt (p.getD k 0) (p.getD (k - 1) 0) with
  | true=>
   show KasT.kasWp cmp (if true=true then KasT.ret k else kas_asc p f (k+1)) Q s';rw [if_pos rfl];exact h k s' hs' (Nat.le_refl _) (by lia) (λi h1 h2=>by lia) λ_=>hc
  | false=>
   show KasT.kasWp cmp (if false=true then KasT.ret k else kas_asc p f (k+1)) Q s';rw [if_neg Bool.false_ne_true];refine (asc_wp hcmp hp f (k+1) s' hs' λm s'' hs'' h1 h2 h3 h4=>h m s'' hs'' (by lia) (by lia) (λi h5 h6=>?_) λh5=>h4 (by lia));by_cases e:i=k
   ·rwa [e]
   ·exact h3 i (by lia) h6
def Alike (lt:Nat->Nat->Bool) (p:Array Nat) (k q:Nat):Prop:=∀ i,k - (q+1)<=i->i<k->lt (p.getD (k - 1) 0) (p.getD i 0)=false
theorem rev_alike (W:Weak n lt) {p:Array Nat}{k q:Nat} (hp:AllLt n p) (hk:k<=p.size) (hq:q+1<=k) (hd:DownTo lt p k) (ha:Alike lt p k q):DownTo lt (kas_rev p (k - (q+1)) k) k:=by
 intro i j hij hj;rw [getD_rev hk,getD_rev hk];have eqv:∀ a b,k - (q+1)<=a->a<k->k - (q+1)<=b->b<k->lt (p.getD a 0) (p.getD b 0)=false:=λa b h1 h2 h3 h4=>
  W.trans (hp b) (hp (k - 1)) (hp a) (ha b h3 h4) (hd a (k - 1) (by lia) (by lia))
 by_cases hi:k - (q+1)<=i
 ·grind
 ·rw [if_neg (by lia)];by_cases hj2:k - (q+1)<=j
  ·rw [if_pos ⟨hj2,hj⟩];exact hd _ _ (by lia) (by lia)
  ·rw [if_neg (by lia)];exact hd i j hij hj
theorem down_more (W:Weak n lt) {p:Array Nat}{k:Nat} (hp:AllLt n p) (h1:1<=k) (hd:DownTo lt p k) (h:lt (p.getD (k - 1) 0) (p.getD k 0)=false):DownTo lt p (k+1):=by
 intro i j hij hj;by_cases e:j=k
 ·subst e;by_cases e2:i=j
  ·subst e2;exact W.irrefl _ (hp _)
  ·exact W.trans (hp _) (hp (j - 1)) (hp _) h (hd i (j - 1) (by lia) (by lia))
 ·exact hd i j hij (by lia)
theorem desc_wp (W:Weak n lt) (hcmp:∀ i j C s,i<n->j<n->P s->(∀ s',P s'->C (lt i j) s')->cmp i j C s) (hn:0<n) {Q:Array Nat×Nat×Nat->Shared->Prop}:∀ (f:Nat) (p:Array Nat) (k q:Nat) (s:Shared),P s->AllLt n p->k+f<=p.size->q+1<=k->DownTo lt p k->Alike lt p k q ->
  (∀ p' k' q' s',P s'->p'.Perm p->k<=k'->k'<=k+f->q' + 1<=k'->DownTo lt p' k'->Alike lt p' k' q'->Q (p',k',q') s')->(kas_desc f p k q).kasWp cmp Q s
 | 0,p,k,q,s,hs,hp,hz,hq,hd,ha,h=>h p k q s hs (Array.Perm.refl _) (Nat.le_refl _) (Nat.le_refl _) hq hd ha
 | f+1,p,k,q,s,hs,hp,hz,hq,hd,ha,h=>by
  refine hcmp _ _ _ s (hp _) (hp _) hs λs' hs'=>?_;cases hc:lt (p.getD k 0) (p.getD (k - 1) 0) with
  | true=>
   have hlt:=W.asymm _ _ (hp _) (hp _) hc;show KasT.kasWp cmp (if true=true then (if q > 0 then kas_desc f (kas_rev p (k - (q+1)) k) (k+1) 0 else kas_desc f p (k+1) 0) else _) Q s';rw [if_pos rfl]
   split
   ·have hperm:(kas_rev p (k - (q+1)) k).Perm p:=mirror_perm _ _ _ _;have hp2:=hp.perm hn hperm;have hsz:(kas_rev p (k - (q+1)) k).size=p.size:=mirror_size _ _ _ _;refine desc_wp W hcmp hn f _ (k+1) 0 s' hs' hp2 (by rw [hsz];lia) (by lia) (down_more W hp2 (by lia) (rev_alike W hp (by lia) hq hd ha) ?_) (λi h1 h2=>?_) λp' k' q' s'' a b c d e=>h p' k' q' s'' a (b.trans hperm) (by lia) (by lia) e
    ·rw [getD_rev (by lia),getD_rev (by lia),if_pos ⟨by lia,by lia⟩,if_neg (by lia)];refine W.trans (hp _) (hp (k - 1)) (hp _) hlt ?_;exact hd _ _ (by lia) (by lia)
    ·have:i=k+1 - 1:=by lia
     rw [this];exact W.irrefl _ (hp2 _)
   ·refine desc_wp W hcmp hn f _ (k+1) 0 s' hs' hp (by lia) (by lia) (down_more W hp (by lia) hd hlt) (λi h1 h2=>?_) λp' k' q' s'' a b c d e=>h p' k' q' s'' a b (by lia) (by lia) e;have:i=k+1 - 1:=by lia
    rw [this];exact W.irrefl _ (hp _)
  | false=>
   show KasT.kasWp cmp (if false=true then _ else KasT.ask (p.getD (k - 1) 0) (p.getD k 0) λd=>if d=true then KasT.ret (p,k,q) else kas_desc f p (k+1) (q+1)) Q s';rw [if_neg Bool.false_ne_true];refine hcmp _ _ _ s' (hp _) (hp _) hs' λs2 hs2=>?_;cases hc2:lt (p.getD (k - 1) 0) (p.getD k 0) with
   | true=>
    show KasT.kasWp cmp (if true=true then KasT.ret (p,k,q) else _) Q s2;rw [if_pos rfl];exact h p k q s2 hs2 (Array.Perm.refl _) (Nat.le_refl _) (by lia) hq hd ha
   | false=>
    show KasT.kasWp cmp (if false=true then _ else kas_desc f p (k+1) (q+1)) Q s2;rw [if_neg Bool.false_ne_true];refine desc_wp W hcmp hn f _ (k+1) (q+1) s2 hs2 hp (by lia) (by lia) (down_more W hp (by lia) hd hc2) (λi h1 h2=>?_) λp' k' q' s'' a b c d e=>h p' k' q' s'' a b (by lia) (by lia) e;rw [show k+1 - 1=k by lia];by_cases e:i=k
    ·rw [e];exact W.irrefl _ (hp _)
    ·exact W.trans (hp _) (hp (k - 1)) (hp _) (ha i (by lia) (by lia)) hc
theorem tail3_wp (W:Weak n lt) (hcmp:∀ i j C s,i<n->j<n->P s->(∀ s',P s'->C (lt i j) s')->cmp i j C s) (hn:0<n) {p:Array Nat}{k nrem:Nat}{s:Shared}{Q:Nat×Array Nat->Shared->Prop} (hs:P s) (hp:AllLt n p) (hk:k<=nrem) (h1:1<=k) (hz:nrem<=p.size) (hd:DownTo lt p k)
  (h:∀ m p' s',P s'->p'.Perm p->1<=m->m<=nrem->UpTo lt p' m->Q (m,p') s'):(kas_tail3 k nrem p).kasWp cmp Q s:=by
 unfold kas_tail3;rw [KasT.kasWp_bind];have hperm:(kas_rev p 0 k).Perm p:=mirror_perm _ _ _ _;have hp2:=hp.perm hn hperm;have up:UpTo lt (kas_rev p 0 k) k:=λi j hij hj=>by
  rw [getD_rev (by lia),getD_rev (by lia),if_pos ⟨by lia,hj⟩,if_pos ⟨by lia,by lia⟩];exact hd _ _ (by lia) (by lia)
 refine asc_wp hcmp hp2 _ _ s hs λm s' hs' a b c d=>?_;exact h m _ s' hs' hperm (by lia) (by lia) (up.of_step W hp2 h1 c)
theorem descPart_wp (W:Weak n lt) (hcmp:∀ i j C s,i<n->j<n->P s->(∀ s',P s'->C (lt i j) s')->cmp i j C s) (hn:0<n) {p:Array Nat}{k nrem:Nat}{s:Shared}{Q:Nat×Array Nat->Shared->Prop} (hs:P s) (hp:AllLt n p) (hk:k+1<=nrem) (h1:1<=k) (hz:nrem<=p.size) (hd:DownTo lt p (k+1))
  (h:∀ m p' s',P s'->p'.Perm p->1<=m->m<=nrem->UpTo lt p' m->Q (m,p') s'):(kas_descPart k nrem p).kasWp cmp Q s:=by
 unfold kas_descPart;rw [KasT.kasWp_bind];refine desc_wp W hcmp hn _ p (k+1) 0 s hs hp (by lia) (by lia) hd (λi h2 h3=>?_) λp' k' q' s' hs' hperm a b c d e=>?_
 ·have:i=k+1 - 1:=by lia
  rw [this];exact W.irrefl _ (hp _)
 ·have hsz:=hperm.size_eq;have hp':=hp.perm hn hperm;dsimp only
  split
  ·have hperm2:(kas_rev p' (k' - (q' + 1)) k').Perm p':=mirror_perm _ _ _ _;have hsz2:(kas_rev p' (k' - (q' + 1)) k').size=p'.size:=mirror_size _ _ _ _;exact tail3_wp W hcmp hn hs' (hp'.perm hn hperm2) (by lia) (by lia) (by lia) (rev_alike W hp' (by lia) c d e) λm p2 s2 x y z w v=>h m p2 s2 x (y.trans (hperm2.trans hperm)) z w v
  ·exact tail3_wp W hcmp hn hs' hp' (by lia) (by lia) (by lia) d λm p2 s2 x y z w v=>h m p2 s2 x (y.trans hperm) z w v
theorem count_wp (W:Weak n lt) (hcmp:∀ i j C s,i<n->j<n->P s->(∀ s',P s'->C (lt i j) s')->cmp i j C s) (hn:0<n) {p:Array Nat}{nrem:Nat}{s:Shared}{Q:Nat×Array Nat->Shared->Prop} (hs:P s) (hp:AllLt n p) (h1:1<=nrem) (hz:nrem<=p.size)
  (h:∀ m p' s',P s'->p'.Perm p->1<=m->m<=nrem->UpTo lt p' m->Q (m,p') s'):(kas_count nrem p).kasWp cmp Q s:=by
 unfold kas_count;rw [KasT.kasWp_bind];refine asc_wp hcmp hp _ _ s hs λm s' hs' a b c d=>?_;have up1:UpTo lt p 1:=λi j hij hj=>by
  have:i=0:=by lia
  have:j=0:=by lia
  subst_vars;exact W.irrefl _ (hp _)
 have up:=up1.of_step W hp (Nat.le_refl _) c;by_cases e:m=nrem
 ·rw [if_pos (by simpa using e)];exact h m p s' hs' (Array.Perm.refl _) a (by lia) up
 ·rw [if_neg (by simpa using e)];have hle:=W.asymm _ _ (hp _) (hp _) (d (by lia))
  split
  ·refine hcmp _ _ _ s' (hp _) (hp _) hs' λs2 hs2=>?_;cases hc:lt (p.getD 0 0) (p.getD (m - 1) 0) with
   | true=>
    show KasT.kasWp cmp (if true=true then KasT.ret (m,p) else _) Q s2;rw [if_pos rfl];exact h m p s2 hs2 (Array.Perm.refl _) a (by lia) up
   | false=>
    show KasT.kasWp cmp (if false=true then _ else kas_descPart m nrem (kas_rev p 0 m)) Q s2;rw [if_neg Bool.false_ne_true];have hperm:(kas_rev p 0 m).Perm p:=mirror_perm _ _ _ _;have hsz:(kas_rev p 0 m).size=p.size:=mirror_size _ _ _ _;have hp2:=hp.perm hn hperm;have al:∀ i j,i<m->j<m->lt (p.getD i 0) (p.getD j 0)=false:=λi j hi hj=>by
     have x1:=W.trans (hp _) (hp 0) (hp _) hc (by
      cases q:lt (p.getD i 0) (p.getD 0 0) with
      | false=>rfl
      | true=>
       rw [(up 0 i (Nat.zero_le _) hi)] at q;cases q)
     exact W.trans (hp _) (hp (m - 1)) (hp _) (up j (m - 1) (by lia) (by lia)) x1
    refine descPart_wp W hcmp hn hs2 hp2 (by lia) a (by lia) (down_more W hp2 a (λi j hij hj=>?_) ?_) λm' p2 s3 x y z w v=>h m' p2 s3 x (y.trans hperm) z w v
    ·rw [getD_rev (by lia),getD_rev (by lia),if_pos ⟨by lia,by lia⟩,if_pos ⟨by lia,by lia⟩];exact al _ _ (by lia) (by lia)
    ·rw [getD_rev (by lia),getD_rev (by lia),if_pos ⟨by lia,by lia⟩,if_neg (by lia)];exact W.trans (hp _) (hp (m - 1)) (hp _) hle (al _ _ (by lia) (by lia))
  ·have hm:m=1:=by lia
   refine descPart_wp W hcmp hn hs' hp (by lia) a hz (down_more W hp a (λi j hij hj=>?_) hle) h;have:i=0:=by lia
   have:j=0:=by lia
   subst_vars;exact W.irrefl _ (hp _)
theorem place_wp (W:Weak n lt) (hcmp:∀ i j C s,i<n->j<n->P s->(∀ s',P s'->C (lt i j) s')->cmp i j C s) {p:Array Nat} (hp:AllLt n p) {k:Nat} (up:UpTo lt p k) {Q:Nat->Shared->Prop}:∀ (f l r:Nat) (s:Shared),P s->l<=r->r<=k->r - l<=f ->
  (∀ i,i<l->lt (p.getD k 0) (p.getD i 0)=false)->(∀ i,r<=i->i<k->lt (p.getD k 0) (p.getD i 0)=true) ->
  (∀ m s',P s'->m<=k->(∀ i,i<m->lt (p.getD k 0) (p.getD i 0)=false)->(∀ i,m<=i->i<k->lt (p.getD k 0) (p.getD i 0)=true)->Q m s')->(kas_place p k f l r).kasWp cmp Q s
 | 0,l,r,s,hs,h1,h2,h3,h4,h5,h=>h l s hs (by lia) h4 λi a b=>h5 i (by lia) b
 | f+1,l,r,s,hs,h1,h2,h3,h4,h5,h=>by
  unfold kas_place;by_cases e:l ≥ r
  ·rw [if_pos e];exact h l s hs (by lia) h4 λi a b=>h5 i (by lia) b
  ·rw [if_neg e];refine hcmp _ _ _ s (hp _) (hp _) hs λs' hs'=>?_;cases hc:lt (p.getD k 0) (p.getD ((l+r) / 2) 0) with
   | true=>
    show KasT.kasWp cmp (if true=true then kas_place p k f l ((l+r) / 2) else _) Q s';rw [if_pos rfl];refine place_wp W hcmp hp up f l ((l+r) / 2) s' hs' (by lia) (by lia) (by lia) h4 (λi a b=>?_) h;rcases W.negTrans _ (p.getD i 0) _ (hp _) (hp _) (hp _) hc with z | z
    ·exact z
    ·have:=up ((l+r) / 2) i a b;rw [this] at z;cases z
   | false=>
    show KasT.kasWp cmp (if false=true then _ else kas_place p k f ((l+r) / 2+1) r) Q s';rw [if_neg Bool.false_ne_true];refine place_wp W hcmp hp up f ((l+r) / 2+1) r s' hs' (by lia) (by lia) (by lia) (λi a=>?_) h5 h;exact W.trans (hp _) (hp ((l+r) / 2)) (hp _) (up i ((l+r) / 2) (by lia) (by lia)) hc
theorem bin_wp (W:Weak n lt) (hcmp:∀ i j C s,i<n->j<n->P s->(∀ s',P s'->C (lt i j) s')->cmp i j C s) (hn:0<n) {Q:Array Nat->Shared->Prop}:∀ (f:Nat) (p:Array Nat) (k:Nat) (s:Shared),P s->AllLt n p->k+f<=p.size->UpTo lt p k ->
  (∀ p' s',P s'->p'.Perm p->UpTo lt p' (k+f)->Q p' s')->(kas_bin f p k).kasWp cmp Q s
 | 0,p,k,s,hs,hp,hz,up,h=>h p s hs (Array.Perm.refl _) up
 | f+1,p,k,s,hs,hp,hz,up,h=>by
  unfold kas_bin;rw [KasT.kasWp_bind];refine place_wp W hcmp hp up k 0 k s hs (Nat.zero_le _) (Nat.le_refl _) (by lia) (λi a=>by lia) (λi a b=>by lia) λl s' hs' hl lo hi=>?_;have hperm:(bubble p k (k - l)).Perm p:=bubble_perm _ _ _;refine bin_wp W hcmp hn f _ (k+1) s' hs' (hp.perm hn hperm) (by rw [(bubble_size _ _ _)];lia) (λi j hij hj=>?_) λp' s2 a b c=>h p' s2 a (b.trans hperm) (by lia);rw [getD_bubble (by lia) hl,getD_bubble (by lia) hl];by_cases i1:i<l
  ·rw [if_pos i1];by_cases j1:j<l
   ·rw [if_pos j1];exact up i j hij (by lia)
   ·rw [if_neg j1];by_cases j2:j=l
    ·rw [if_pos j2];exact lo i i1
    ·rw [if_neg j2,if_pos (by lia)];exact up i (j - 1) (by lia) (by lia)
  ·rw [if_neg i1,if_neg (show ¬ j<l by lia)];by_cases i2:i=l
   ·rw [if_pos i2];by_cases j2:j=l
    ·rw [if_pos j2];exact W.irrefl _ (hp _)
    ·rw [if_neg j2,if_pos (by lia)];exact W.asymm _ _ (hp _) (hp _) (hi (j - 1) (by lia) (by lia))
   ·rw [if_neg i2,if_pos (show i<=k by lia),if_neg (show ¬ j=l by lia),if_pos (show j<=k by lia)];exact up (i - 1) (j - 1) (by lia) (by lia)
theorem sort_wp (W:Weak n lt) (hcmp:∀ i j C s,i<n->j<n->P s->(∀ s',P s'->C (lt i j) s')->cmp i j C s) (hn:0<n) {s:Shared}{Q:Array Nat->Shared->Prop} (hs:P s)
  (h:∀ p s',P s'->p.toList.Perm (List.range n)->UpTo lt p n->Q p s'):(kas_sort n).kasWp cmp Q s:=by
 unfold kas_sort;rw [KasT.kasWp_bind];have hp:AllLt n (List.toArray (List.range n)):=λi=>by
  by_cases hi:i<n
  ·simp [Array.getD,hi]
  ·simp_all
 have hz:(List.toArray (List.range n)).size=n:=by simp
 refine count_wp W hcmp hn hs hp (by lia) (by lia) λm p' s' hs' hperm a b up=>?_;have hsz:p'.size=n:=by rwa [hperm.size_eq]
 have toL:∀ {q:Array Nat},q.Perm (List.toArray (List.range n))->q.toList.Perm (List.range n):=λr=>by simpa using Array.perm_iff_toList_perm.mp r
 split
 ·rw [show max m 1=m by lia];exact bin_wp W hcmp hn _ p' m s' hs' (hp.perm hn hperm) (by lia) up λp2 s2 x y z=>h p2 s2 x (toL (y.trans hperm)) (by simp_all)
 ·have:m=n:=by lia
  subst this;exact h p' s' hs' (toL hperm) up
end
end L2
namespace L2
open PySem PySem.Spec PyProof.Rows PySem.W
inductive Sh where
 | int | str | list (e:Sh) | tnil | tcons (a r:Sh)
def Sh.has:Sh->PyData->Prop
 | .int,d=>∃ i,d = .int i
 | .str,d=>∃ x,d = .str x
 | .list e,d=>∃ ds,d = .list ds/\∀ x∈ds,Sh.has e x
 | .tnil,d=>d = .tuple []
 | .tcons a r,d=>∃ x ds,d = .tuple (x::ds)/\Sh.has a x/\Sh.has r (.tuple ds)
structure ShOk (S:PyData->Prop):Prop where
 cmp:∀ d e,S d->S e->cmpb d e=true
 eqv:∀ d e,S d->S e->(PyData.eqv d e=true↔d=e)
 irr:∀ d,S d->ltv d d=false
 tot:∀ d e,S d->S e->ltv d e=false->ltv e d=false->d=e
 trans:∀ d e f,S d->S e->S f->ltv d e=true->ltv e f=true->ltv d f=true
theorem ShOk.asymm {S:PyData->Prop} (o:ShOk S) {d e:PyData} (hd:S d) (he:S e) (h:ltv d e=true):ltv e d=false:=by
 cases q:ltv e d with
 | false=>rfl
 | true=>
  have:=o.trans d e d hd he hd h q;rw [o.irr d hd] at this;cases this
theorem ShOk.neg {S:PyData->Prop} (o:ShOk S) {a b c:PyData} (ha:S a) (hb:S b) (hc:S c) (h:ltv a c=true):ltv a b=true\/ltv b c=true:=by
 cases q:ltv a b with
 | true=>exact .inl rfl
 | false=>
  cases q2:ltv b a with
  | true=>exact .inr (o.trans b a c hb ha hc q2 h)
  | false=>
   have:=o.tot a b ha hb q q2;subst this;exact .inr h
structure ShAll (S:PyData->Prop) (L:List PyData->Prop):Prop where
 cmp:∀ d e,L d->L e->cmpAll d e=true
 eqv:∀ d e,L d->L e->(PyData.eqvAll d e=true↔d=e)
 irr:∀ d,L d->ltvAll d d=false
 tot:∀ d e,L d->L e->ltvAll d e=false->ltvAll e d=false->d=e
 trans:∀ d e f,L d->L e->L f->ltvAll d e=true->ltvAll e f=true->ltvAll d f=true
theorem list_lex {a b:PyData}{S:PyData->Prop} (o:ShOk S):ShAll S (λl=>∀ x∈l,S x) where
 cmp:=by
  intro d
  induction d with
  | nil=>intro e _ _;rw [cmpAll]
  | cons x xs ih=>
   intro e hd he;cases e with
   | nil=>rw [cmpAll]
   | cons y ys=>
    rw [cmpAll_cons]
    split
    ·simp_all
    ·exact o.cmp x y (hd x List.mem_cons_self) (he y List.mem_cons_self)
 eqv:=by
  intro d
  induction d with
  | nil=>
   intro e _ _;cases e with
   | nil=>simp [PyData.eqvAll]
   | cons y ys=>simp [PyData.eqvAll]
  | cons x xs ih=>
   intro e hd he;cases e with
   | nil=>simp [PyData.eqvAll]
   | cons y ys=>
    rw [PyData.eqvAll,Bool.and_eq_true,o.eqv x y (hd x List.mem_cons_self) (he y List.mem_cons_self),ih ys (λz hz=>hd z (List.mem_cons_of_mem _ hz)) λz hz=>he z (List.mem_cons_of_mem _ hz)];simp
 irr:=by
  intro d
  induction d with
  | nil=>intro _;rw [ltvAll]
  | cons x xs ih=>
   intro hd;rw [ltvAll_cons,if_pos ((o.eqv x x (hd x List.mem_cons_self) (hd x List.mem_cons_self)).mpr rfl)]
   simp_all
 tot:=by
  intro d
  induction d with
  | nil=>
   intro e _ _ h1 h2;cases e with
   | nil=>rfl
   | cons y ys=>rw [ltvAll] at h1;cases h1
  | cons x xs ih=>
   intro e hd he h1 h2;cases e with
   | nil=>rw [ltvAll] at h2;cases h2
   | cons y ys=>
    have sx:=hd x List.mem_cons_self;have sy:=he y List.mem_cons_self;rw [ltvAll_cons] at h1 h2;by_cases e1:x=y
    ·subst e1;rw [if_pos ((o.eqv x x sx sx).mpr rfl)] at h1 h2
     grind
    ·rw [if_neg (λz=>e1 ((o.eqv x y sx sy).mp z))] at h1;rw [if_neg (λz=>e1 ((o.eqv y x sy sx).mp z).symm)] at h2;exact absurd (o.tot x y sx sy h1 h2) e1
 trans:=by
  intro d
  induction d with
  | nil=>
   intro e f _ _ _ h1 h2;cases f with
   | nil=>cases e <;> (rw [ltvAll] at h2;cases h2)
   | cons z zs=>rw [ltvAll]
  | cons x xs ih=>
   intro e f hd he hf h1 h2;cases e with
   | nil=>rw [ltvAll] at h1;cases h1
   | cons y ys=>
    cases f with
    | nil=>rw [ltvAll] at h2;cases h2
    | cons z zs=>
     have sx:=hd x List.mem_cons_self;have sy:=he y List.mem_cons_self;have sz:=hf z List.mem_cons_self;rw [ltvAll_cons] at h1 h2 ⊢;by_cases e1:x=y
     ·subst e1;rw [if_pos ((o.eqv x x sx sx).mpr rfl)] at h1
      grind
     ·rw [if_neg (λw=>e1 ((o.eqv x y sx sy).mp w))] at h1;by_cases e2:y=z
      ·subst e2
       rwa [if_neg (λw=>e1 ((o.eqv x y sx sy).mp w))]
      ·rw [if_neg (λw=>e2 ((o.eqv y z sy sz).mp w))] at h2;by_cases e3:x=z
       ·subst e3;have:=o.asymm sx sy h1;rw [this] at h2;cases h2
       ·rw [if_neg (λw=>e3 ((o.eqv x z sx sz).mp w))];exact o.trans x y z sx sy sz h1 h2
theorem str_lt_tri {x y:Str} (h1:decide (x.cps.toList<y.cps.toList)=false) (h2:decide (y.cps.toList<x.cps.toList)=false):x=y:=by
 cases x;cases y
 grind
theorem Sh.ok:∀ sh:Sh,ShOk sh.has
 | .int=>by
  refine ⟨?_,?_,?_,?_,?_⟩
  ·rintro _ _ ⟨i,rfl⟩ ⟨j,rfl⟩;rw [cmpb]
  ·rintro _ _ ⟨i,rfl⟩ ⟨j,rfl⟩;simp [PyData.eqv]
  ·rintro _ ⟨i,rfl⟩;rw [ltv];simp
  ·rintro _ _ ⟨i,rfl⟩ ⟨j,rfl⟩ h1 h2
   grind [ltv]
  ·rintro _ _ _ ⟨i,rfl⟩ ⟨j,rfl⟩ ⟨k,rfl⟩ h1 h2
   grind [ltv]
 | .str=>by
  refine ⟨?_,?_,?_,?_,?_⟩
  ·rintro _ _ ⟨i,rfl⟩ ⟨j,rfl⟩;rw [cmpb]
  ·rintro _ _ ⟨i,rfl⟩ ⟨j,rfl⟩;simp [PyData.eqv]
  ·rintro _ ⟨i,rfl⟩;rw [ltv];exact decide_eq_false (List.lt_irrefl _)
  ·rintro _ _ ⟨i,rfl⟩ ⟨j,rfl⟩ h1 h2;rw [ltv] at h1 h2;rw [str_lt_tri h1 h2]
  ·rintro _ _ _ ⟨i,rfl⟩ ⟨j,rfl⟩ ⟨k,rfl⟩ h1 h2;rw [ltv] at h1 h2 ⊢
   grind
 | .list e=>by
  have L:=list_lex (a:=.none) (b:=.none) (Sh.ok e);refine ⟨?_,?_,?_,?_,?_⟩
  ·rintro _ _ ⟨i,rfl,hi⟩ ⟨j,rfl,hj⟩;rw [cmpb];exact L.cmp i j hi hj
  ·rintro _ _ ⟨i,rfl,hi⟩ ⟨j,rfl,hj⟩;rw [PyData.eqv,L.eqv i j hi hj];simp
  ·rintro _ ⟨i,rfl,hi⟩;rw [ltv];exact L.irr i hi
  ·rintro _ _ ⟨i,rfl,hi⟩ ⟨j,rfl,hj⟩ h1 h2;rw [ltv] at h1 h2;rw [L.tot i j hi hj h1 h2]
  ·rintro _ _ _ ⟨i,rfl,hi⟩ ⟨j,rfl,hj⟩ ⟨k,rfl,hk⟩ h1 h2;rw [ltv] at h1 h2 ⊢;exact L.trans i j k hi hj hk h1 h2
 | .tnil=>by
  refine ⟨?_,?_,?_,?_,?_⟩
  ·rintro _ _ rfl rfl;rw [cmpb,cmpAll]
  ·rintro _ _ rfl rfl;simp [PyData.eqv,PyData.eqvAll]
  ·rintro _ rfl;rw [ltv,ltvAll]
  ·rintro _ _ rfl rfl _ _;rfl
  ·rintro _ _ _ rfl rfl rfl h1 h2;rw [ltv,ltvAll] at h1;cases h1
 | .tcons a r=>by
  have oa:=Sh.ok a;have or:=Sh.ok r;refine ⟨?_,?_,?_,?_,?_⟩
  ·rintro _ _ ⟨x,xs,rfl,hx,hxs⟩ ⟨y,ys,rfl,hy,hys⟩;have:=or.cmp _ _ hxs hys;rw [cmpb] at this ⊢;rw [cmpAll_cons]
   split
   ·exact this
   ·exact oa.cmp x y hx hy
  ·rintro _ _ ⟨x,xs,rfl,hx,hxs⟩ ⟨y,ys,rfl,hy,hys⟩;have:=or.eqv _ _ hxs hys;rw [PyData.eqv] at this ⊢;rw [PyData.eqvAll,Bool.and_eq_true,oa.eqv x y hx hy,this];simp
  ·rintro _ ⟨x,xs,rfl,hx,hxs⟩;have:=or.irr _ hxs;rw [ltv] at this ⊢
   rwa [ltvAll_cons,if_pos ((oa.eqv x x hx hx).mpr rfl)]
  ·rintro _ _ ⟨x,xs,rfl,hx,hxs⟩ ⟨y,ys,rfl,hy,hys⟩ h1 h2;have ih:=or.tot _ _ hxs hys;rw [ltv] at h1 h2 ih;rw [ltv] at ih;rw [ltvAll_cons] at h1 h2;by_cases e1:x=y
   ·subst e1;rw [if_pos ((oa.eqv x x hx hx).mpr rfl)] at h1 h2;lia
   ·rw [if_neg (λw=>e1 ((oa.eqv x y hx hy).mp w))] at h1;rw [if_neg (λw=>e1 ((oa.eqv y x hy hx).mp w).symm)] at h2;exact absurd (oa.tot x y hx hy h1 h2) e1
  ·rintro _ _ _ ⟨x,xs,rfl,hx,hxs⟩ ⟨y,ys,rfl,hy,hys⟩ ⟨z,zs,rfl,hz,hzs⟩ h1 h2;have ih:=or.trans _ _ _ hxs hys hzs;rw [ltv,ltv,ltv] at ih;rw [ltv] at h1 h2 ⊢;rw [ltvAll_cons] at h1 h2 ⊢;by_cases e1:x=y
   ·subst e1;rw [if_pos ((oa.eqv x x hx hx).mpr rfl)] at h1;lia
   ·rw [if_neg (λw=>e1 ((oa.eqv x y hx hy).mp w))] at h1;by_cases e2:y=z
    ·subst e2
     rwa [if_neg (λw=>e1 ((oa.eqv x y hx hy).mp w))]
    ·rw [if_neg (λw=>e2 ((oa.eqv y z hy hz).mp w))] at h2;by_cases e3:x=z
     ·subst e3;have:=oa.asymm hx hy h1;rw [this] at h2;cases h2
     ·rw [if_neg (λw=>e3 ((oa.eqv x z hx hz).mp w))];exact oa.trans x y z hx hy hz h1 h2
theorem sorted_unique {S:PyData->Prop} (o:ShOk S):∀ {l l':List PyData},(∀ x∈l,S x)->l.Perm l'->l.Pairwise (λa b=>ltv b a=false)->l'.Pairwise (λa b=>ltv b a=false)->l=l':=by
 intro l l' hS hp h1 h2;refine List.Perm.eq_of_pairwise (le:=λa b=>ltv b a=false) ?_ h1 h2 hp;intro a b ha hb x y;exact o.tot a b (hS a ha) (hS b (hp.mem_iff.mpr hb)) y x
end L2
namespace L2
open PySem PySem.Spec PyProof.Rows PySem.W
inductive FirstK:Sh->Bool->Prop
 | int:FirstK .int true
 | str:FirstK .str true
 | tnil:FirstK .tnil false
 | tcons (a r:Sh):FirstK (.tcons a r) false
section
variable {X:Cx}{pins:List (Addr×Obj)}{σ:St}{H:Hp}{s:Shared}
theorem vals_getD {xs:List V}{us:List Value} (r:Vals xs us) (i:Nat):RelV (xs.getD i .non) (us.getD i .none):=by
 rw [List.getD_eq_getElem?_getD,List.getD_eq_getElem?_getD];cases e:xs[i]? with
 | none=>rw [r.none_of e];rfl
 | some x=>
  obtain ⟨u,hu,ru⟩:=r.get e
  rwa [hu]
theorem Dens.getD' {K:PySem.W.Frag}{xs:List V}{ds:List PyData} (h:Dens K H xs ds) (i:Nat) (hi:i<ds.length):Den K H (xs.getD i .non) (ds.getD i .none):=by
 have e:ds[i]? = some ds[i]:=by simp [hi]
 obtain ⟨x,hx,hd⟩:=h.getD e
 simp_all
theorem firsts {a r:Sh}:∀ {ks:List V}{us:List Value}{kds:List PyData},Inv X pins σ H s->Vals ks us->Dens X.K H ks kds->(∀ d∈kds,(Sh.tcons a r).has d) ->
  ∃ fs:List Value,KatTups s.heap us fs/\fs.length=us.length/\∀ f∈fs,∃ d as,a.has d/\Reads s.heap f d as
 | _,_,_,I,.nil,.nil,_=>⟨[],.nil,rfl,λ_ h=>by cases h⟩
 | _,_,_,I,.cons rv rr,.cons hd ht,hs=>by
  obtain ⟨fs,h1,h2,h3⟩:=firsts I rr ht λd hd=>hs d (List.mem_cons_of_mem _ hd);obtain ⟨x,ds,e,hx,_⟩:=hs _ List.mem_cons_self;subst e;cases hd with
  | tup hq t=>
   cases rv;obtain ⟨its,rv',⟨o,eo,c,n,dt⟩,_⟩:=I.tuple hq;cases t with
   | cons hd0 t0=>
    cases rv' with
    | @cons v0 u0 vs0 us0 r0 rr0=>
     obtain ⟨as,ra⟩:=I.reads hd0 r0;refine ⟨u0::fs,.cons eo c dt (by simp) h1,by simp [h2],λf hf=>?_⟩
     grind
theorem first_looks {a:Sh}{b:Bool} (hf:FirstK a b):∃ T:Value,(T == T)=true/\(T != Value.type "tuple")=b/\∀ (M:Model) (h:Heap) (f:Value) (d:PyData) (as:List Addr),a.has d->Reads h f d as->Looks M h (typeOf f) T:=by
 cases hf with
 | int=>exact ⟨.type "int",by decide,by decide,λM h f d as hd r=>by obtain ⟨i,rfl⟩:=hd;cases r;exact .of_pure rfl⟩
 | str=>exact ⟨.type "str",by decide,by decide,λM h f d as hd r=>by obtain ⟨i,rfl⟩:=hd;cases r;exact .of_pure rfl⟩
 | tnil=>exact ⟨.type "tuple",by decide,by decide,λM h f d as hd r=>by
   subst hd;cases r with
   | tuple h1 h2 h3 h4=>rw [<-h2];exact (Looks.ld h1).andThen .now⟩
 | tcons a r=>exact ⟨.type "tuple",by decide,by decide,λM h f d as hd r=>by
   obtain ⟨x,ds,rfl,_⟩:=hd;cases r with
   | tuple h1 h2 h3 h4=>rw [<-h2];exact (Looks.ld h1).andThen .now⟩
theorem sort_engine {a r:Sh}{b:Bool}{A:Around} (hf:FirstK a b) {ks:List V}{us:List Value}{kds:List PyData} (I:Inv X pins σ H s) (hv:Vals ks us) (hd:Dens X.K H ks kds) (hs:∀ d∈kds,(Sh.tcons a r).has d) (hdep:∀ d∈kds,d.depth<=100)
  (h2:2<=us.length) (hu:A.units+101<cLine) {G:Array Nat->Shared->Prop}
  (h:∀ p:Array Nat,p.toList.Perm (List.range us.length)->(∀ i j,i<=j->j<us.length->ltv (kds.getD (p.getD j 0) .none) (kds.getD (p.getD i 0) .none)=false)->G p s) :
  wpAny (model X.prog X.w) A (keyKind' us.toArray) (λκ s'=>(kas_sort us.length).kasWp (kas_ask X.prog X.w A κ us) G s') (λ_ _=>False) s:=by
 obtain ⟨fs,t1,t2,t3⟩:=firsts I hv hd hs;obtain ⟨T,hT1,hT2,hT3⟩:=first_looks hf;refine kat_kind t1 (by lia) (λf hf=>?_) hT1 ?_
 ·grind
 rw [hT2];have l1:us.length=kds.length:=by rw [<-hv.length];exact hd.length
 have o:=Sh.ok (.tcons a r);have hget:∀ i,i<us.length->(Sh.tcons a r).has (kds.getD i .none):=λi hi=>by
  simp_all
 have hdp:∀ i,i<us.length->(kds.getD i .none).depth<=100:=λi hi=>by
  simp_all
 refine sort_wp (n:=us.length) (lt:=λi j=>ltv (kds.getD i .none) (kds.getD j .none)) (P:=λs'=>s' = s) ⟨λi hi=>o.irr _ (hget i hi),λi j k hi hj hk q=>o.neg (hget i hi) (hget j hj) (hget k hk) q,λi j hi hj q=>o.asymm (hget i hi) (hget j hj) q⟩
  (λi j C s' hi hj e q=>?_) (by lia) rfl λp s' e hp up=>by subst e;exact h p hp up
 subst e;show wpAny (model X.prog X.w) A (keyLt' (tuples' b) (us.getD i .none) (us.getD j .none)) C (λ_ _=>False) s';have di:=hd.getD' i (by lia);have dj:=hd.getD' j (by lia);have ri:=vals_getD hv i;have rj:=vals_getD hv j;have hi':=hget i hi;have hj':=hget j hj;have pi:=hdp i hi;have qq:=q s' rfl;have cc:=o.cmp _ _ hi' hj';have lyi:=di.lay;have lyj:=dj.lay;revert di dj hi' hj' pi qq cc lyi lyj;generalize kds.getD i .none=d;generalize kds.getD j .none=e;intro di dj hi' hj' pi qq cc lyi lyj;obtain ⟨x,ds,rfl,hx,_⟩:=hi';obtain ⟨y,es,rfl,hy,_⟩:=hj';revert di dj ri rj;generalize ks.getD i .non=vi;generalize ks.getD j .non=vj;generalize us.getD i .none=ui;generalize us.getD j .none=uj;intro ri rj di dj;cases di with
 | tup qi ti=>
  cases dj with
  | tup qj tj=>
   cases ri;cases rj;obtain ⟨its,rv,⟨oi,ei,ci,ni,dti⟩,_⟩:=I.tuple qi;obtain ⟨jts,rw',⟨oj,ej,cj,nj,dtj⟩,_⟩:=I.tuple qj;obtain ⟨as,ra⟩:=I.readsAll ti rv;obtain ⟨bs,rb⟩:=I.readsAll tj rw';rw [ltv] at qq;rw [cmpb] at cc;rw [PyData.depth] at pi;refine keyLt_data ei dti ej dtj (by simpa using ra) (by simpa using rb) lyi lyj cc (λd0 e0 h1 h3 hb=>?_) (by lia) qq;have e1:x=d0:=by simpa using h1
   have e2:y=e0:=by simpa using h3
   subst e1 e2;cases hf with
   | int=>obtain ⟨p,rfl⟩:=hx;obtain ⟨q,rfl⟩:=hy;exact .inl ⟨p,q,rfl,rfl⟩
   | str=>obtain ⟨p,rfl⟩:=hx;obtain ⟨q,rfl⟩:=hy;exact .inr ⟨p,q,rfl,rfl⟩
   | tnil=>cases hb
   | tcons _ _=>cases hb
theorem Inv.adopt {h':Heap}{t':Nat}{wr:List Addr}{a:Addr}{o:HO} (I:Inv X pins σ H s) (hf:∀ b∈wr,FpOk X pins H b) (ha:a∈wr) (k:∀ b o,b∉wr->s.heap.get? b=some o->h'.get? b=some o)
  (new:ObjOk X.prog X.w (upd H a o) h' a o):Inv X pins σ (upd H a o) { s with heap:=h',toks:=t' }:=by
 have nit:∀ b u,H b=some u->b∉wr:=λb u e z=>by rw [(hf b z).1] at e;cases e
 have hfr:=(hf a ha).1;refine I.step (g':=s.gens) (d':=s.drawn) (ch:=wr) (λb hb=>⟨(hf b hb).2.2.2.1,(hf b hb).2.1,(hf b hb).2.2.2.2.1,(hf b hb).2.2.2.2.2⟩) (λb o _ _ hc e _=>k b o hc e) (λb o _ _ hc e _=>⟨o.slots,k b o hc e⟩)
  (λb ob hc e n=>by grind [upd_ne])
  (λb o hc e=>⟨o,k b o hc e⟩) (λb xs e=>by rwa [upd_ne (ne_of_none e hfr)]) (λb ob u e=>by rwa [upd_ne (ne_of_none e hfr)]) (λb ps e=>⟨#[],by rw [upd_ne (ne_of_none e hfr),e];simp⟩) (λm hm=>?_) (λb u e=>?_) I.bare
 ·obtain ⟨o,es,ep,ho,r⟩:=hm;exact ⟨o,es,ep,k _ o (λz=>(hf _ z).2.1 rfl) ho,r⟩
 ·by_cases hb:b=a
  ·grind [upd_same]
  ·rw [upd_ne hb] at e;refine (I.hok b u e).stay (λc v hc q=>k c v ?_ q) (λc q=>by rwa [upd_ne (ne_of_none q hfr)]) λc xs q=>by rwa [upd_ne (ne_of_none q hfr)]
   grind
end
end L2
namespace L2
open PySem PySem.Spec PyProof.Rows PySem.W
section
variable {X:Cx}{pins:List (Addr×Obj)}{σ:St}{H:Hp}{s:Shared}
def picked (xs:List V) (p:List Nat):List V:=p.map λi=>xs.getD i .non
theorem vals_picked {xs:List V}{us:List Value} (r:Vals xs us):∀ p:List Nat,Vals (picked xs p) (p.map λi=>us.getD i .none)
 | []=>.nil
 | i::p=>.cons (vals_getD r i) (vals_picked r p)
theorem picked_len (xs:List V) (p:List Nat):(picked xs p).length=p.length:=by simp [picked]
theorem range_picked {α:Type} (us:List α) (d:α):(List.range us.length).map (λi=>us.getD i d)=us:=by
 apply List.ext_getElem
 ·simp
 ·intro i h1 h2;simp [h2]
def InOrd (kds:List PyData) (p:List Nat):Prop:=(p.map λi=>kds.getD i .none).Pairwise λa b=>ltv b a=false
theorem inord_of {kds:List PyData}{p:Array Nat}{n:Nat} (hn:p.toList.length=n) (h:∀ i j,i<=j->j<n->ltv (kds.getD (p.getD j 0) .none) (kds.getD (p.getD i 0) .none)=false):InOrd kds p.toList:=by
 unfold InOrd
 (rw [List.pairwise_iff_getElem])
 intro i j hi hj hij;have hj':j<p.size:=by simpa using hj
 have:=h i j (by lia) (by simp at hn;lia);have e1:p.getD i 0=p[i]:=by simp_all
 have e2:p.getD j 0=p[j]:=by simp [Array.getD,hj']
 simp_all
theorem inord_short {kds:List PyData}{n:Nat} (hn:n<2):InOrd kds (List.range n):=by
 unfold InOrd
 match n,hn with
 | 0,_=>simp
 | 1,_=>simp
theorem sort_opened {D:Addr}{n0:Nat}{vs:List Value} (I:Inv X pins σ H s) (ho:s.heap.get? D=some (seqObj "list" vs.toArray n0)) (fD:FpOk X pins H D) :
  ∃ e1,(s.heap.update D (Obj.mapSeq λ_=>(#[]:Array Value))).get? D=some (seqObj "list" #[] e1) /\
   ∀ h3,h3=((s.heap.update D (Obj.mapSeq λ_=>(#[]:Array Value))).push (seqObj "tuple" vs.toArray 0)).push (seqObj "list" #[] 0)->h3.get? D=some (seqObj "list" #[] e1)/\Inv X pins σ H { s with heap:=h3 }:=by
 have gone:=get?_update_seq ho λ_=>(#[]:Array Value);have rest:=(Heap.SameBut.update s.heap D (Obj.mapSeq λ_=>(#[]:Array Value))).2;generalize s.heap.update D (Obj.mapSeq λ_=>(#[]:Array Value))=h1 at gone rest;refine ⟨_,gone,λh3 e3=>?_⟩;have up:∀ c o,h1.get? c=some o->h3.get? c=some o:=λc o e=>e3 ▸ Heap.get?_push_of_some _ (Heap.get?_push_of_some _ e);refine ⟨up D _ gone,I.turnedL (t':=s.toks) (wr:=[D]) (λc hc=>?_) λc o hc e=>up c o ((rest c λz=>hc (z ▸ List.mem_singleton.mpr rfl)).trans e)⟩
 simp_all
theorem lsort_by {A:Around}{D:Addr}{n0:Nat}{xs:List V}{vs:List Value}{ds:List PyData}{P:PySem.Fin->Shared->Prop}{E:Value->Shared->Prop} (I:Inv X pins σ H s) (ho:s.heap.get? D=some (seqObj "list" vs.toArray n0)) (fD:FpOk X pins H D)
  (hv:Vals xs vs) (eng:∀ (s':Shared) (G:Array Nat->Shared->Prop),Inv X pins σ H s'->2<=vs.length->(∀ p:Array Nat,p.toList.Perm (List.range vs.length)->(∀ i j,i<=j->j<vs.length->ltv (ds.getD (p.getD j 0) .none) (ds.getD (p.getD i 0) .none)=false)->G p s')->wpAny (model X.prog X.w) A (keyKind' vs.toArray) (λκ s''=>(kas_sort vs.length).kasWp (kas_ask X.prog X.w A κ vs) G s'') (λ_ _=>False) s') (h64:vs.length<64)
  (h:∀ (p:List Nat) (h':Heap),p.Perm (List.range xs.length)->InOrd ds p->Inv X pins σ (upd H D (.lst (picked xs p))) { s with heap:=h' }->P (.done (.ret .none)) { s with heap:=h' }) :
  wpAny (model X.prog X.w) A (Builtin.«list.sort» ⟨[.ref D],[]⟩) P E s:=by
 have hlen:=hv.length;obtain ⟨e1,ho1,at3⟩:=sort_opened I ho fD;rw [list_sort_plain];refine wpAny_bind (listItems_at ho rfl (wpAny_bind (listUpdate_at ho rfl (wpAny_bind (seqEpoch_at ho1 rfl (wpAny_bind (wpAny_newTuple (wpAny_bind (wpAny_newList (wpAny_holding ?main) (Nat.zero_le _))) ?short)))) ?few (Nat.zero_le _))))
 case short=>show vs.length<=_;rw [sizeLine_eq];lia
 case few=>rw [List.size_toArray,sizeLine_eq];lia
 case main=>
 generalize hh3:((s.heap.update D (Obj.mapSeq λ_=>(#[]:Array Value))).push (seqObj "tuple" vs.toArray 0)).push (seqObj "list" #[] 0)=h3;obtain ⟨hD3,I3⟩:=at3 h3 hh3.symm;have fin:∀ (p:List Nat) (out:Array Value),p.Perm (List.range xs.length)->InOrd ds p->out=List.toArray (p.map λi=>vs.getD i Value.none) ->
   P (.done (.ret .none)) { s with heap:=h3.update D (Obj.mapSeq λ_=>out) }:=λp out hp hord eo=>by
  obtain ⟨c2,hc2⟩:∃ c2,(h3.update D (Obj.mapSeq λ_=>out)).get? D=some (seqObj "list" out c2):=⟨_,get?_update_seq hD3 λ_=>out⟩;have pl:p.length=xs.length:=by rw [hp.length_eq];simp
  refine h p _ hp hord (I3.adopt (t':=s.toks) (wr:=[D]) (a:=D) (λc hc=>by rwa [show c=D by simpa using hc]) (by simp) (λc o hc e=>((Heap.SameBut.update h3 D (Obj.mapSeq λ_=>out)).2 c (by simpa using hc)).trans e) ?_);refine ⟨by rw [picked_len,pl,sizeLine_eq];lia,p.map λi=>vs.getD i Value.none,c2,vals_picked hv p,?_⟩;rw [hc2,eo]
 by_cases hn2:vs.toArray.size<2
 ·rw [if_pos hn2,if_pos hn2];refine wpAny_bind (wpAny_pure ?_);refine wpAny_bind ?_;rw [StateT.run_pure];refine wpAny_pure ?_;refine wpAny_bind (seqEpoch_at hD3 rfl ?_);have hout:(arrOf (SortSt.mk' general' (vs.toArray.zip vs.toArray) #[] 7 none)).map (·.2)=vs.toArray:=by
   apply Array.toList_inj.mp;simp [List.map_snd_zip]
  rw [hout];refine wpAny_bind (listUpdate_at hD3 rfl ?_ (Nat.zero_le _) (by lia))
  (simp only [bne_self_eq_false,Bool.false_eq_true,if_false])
  refine wpAny_pure (fin (List.range xs.length) _ (List.Perm.refl _) (inord_short (by rw [List.size_toArray] at hn2;lia)) ?_);rw [hlen,range_picked]
 ·rw [if_neg hn2,if_neg hn2];have h2:2<=vs.length:=by rw [List.size_toArray] at hn2;lia
  refine wpAny_bind (wpAny_mono (eng _ (λp s'=>s' = { s with heap:=h3 }/\p.toList.Perm (List.range vs.length)/\InOrd ds p.toList) I3 h2 λp hp up=>⟨rfl,hp,inord_of (by rw [hp.length_eq];simp) up⟩) (λκ s0 hk=>?_) λ_ _ x=>x.elim);refine wpAny_bind (wpAny_mono (kat_run (Q:=λst' s'=>∃ p:Array Nat,arrOf st' = p.map (kas_item (vs.toArray.zip vs.toArray))/\failedOf st' = none/\s' = { s with heap:=h3 }/\p.toList.Perm (List.range vs.length)/\InOrd ds p.toList)
   rfl h2 h64 (λp' st' s' a1 a2 a3 a4=>⟨p',a2,a3,a4⟩) hk) ?_ λ_ _ e=>e)
  rintro ⟨⟨⟩,st'⟩ s' ⟨p,har,hfl,rfl,hp,hord⟩;dsimp only;rw [(kat_snds rfl har)];refine wpAny_bind (seqEpoch_at hD3 rfl ?_);refine wpAny_bind (listUpdate_at hD3 rfl ?_ (Nat.zero_le _) (by rw [List.size_toArray,List.length_map,hp.length_eq,List.length_range,sizeLine_eq];lia));rw [hfl]
  (simp only [bne_self_eq_false,Bool.false_eq_true,if_false])
  exact wpAny_pure (fin p.toList _ (by rwa [hlen]) hord rfl)
def copied (h:Heap) (vs:List Value):Heap:=(h.push (seqObj "list" #[] 0)).update h.objs.size (Obj.mapSeq (· ++ vs.toArray))
theorem copied_size (h:Heap) (vs:List Value):(copied h vs).objs.size=h.objs.size+1:=(Heap.size_update ..).trans (size_push' _ _)
theorem copied_at (h:Heap) (vs:List Value):((copied h vs).push (seqObj "list" vs.toArray 0)).get? (h.objs.size+1)=some (seqObj "list" vs.toArray 0):=by
 have q:((copied h vs).push (seqObj "list" vs.toArray 0)).get? (copied h vs).objs.size=some (seqObj "list" vs.toArray 0):=Heap.get?_push_size _ rfl
 rwa [copied_size] at q
theorem copied_keep (h:Heap) (vs:List Value):∀ b o,h.get? b=some o->((copied h vs).push (seqObj "list" vs.toArray 0)).get? b=some o:=λb o q=>
 Heap.get?_push_of_some _ (((Heap.SameBut.update (h.push (seqObj "list" #[] 0)) h.objs.size (Obj.mapSeq (· ++ vs.toArray))).2 b (Nat.ne_of_lt (Heap.lt_size q))).trans (Heap.get?_push_of_some _ q))
def tKeys (sp:Sp):List V->List V->Hp->(List V->Hp->Prop)->Prop
 | [],ks,H,Q=>Q ks H
 | x::r,ks,H,Q=>sp [x] H (λk H'=>tKeys sp r (ks++[k]) H' Q) E0
theorem ksort_keys {k:Nat}{f D kS:Addr}{fd:FuncData}{ps:List Str}{sp:Sp}{oD:Obj}{xs:List V}{vs:List Value}{Qk:List V->Hp->Prop}{e0:Nat}{body:Value->PUnit->Sem (ForInStep PUnit)}{E:Value->Shared->Prop}{R:PUnit->Shared->Prop}
  (F:FnOk X.prog X.w X.K X.mg X.base CX0 k f fd ps sp) (hr:Room (k+2) X.A) (hb:Binds X.K fd ps []) (hne:D≠kS) (hD:∀ v,oD.data ≠ .cell v)
  (hbody:∀ x (us:List Value) e (s:Shared) (C:Value->Shared->Prop),us.length<64->s.heap.get? kS=some (seqObj "list" us.toArray e)->wpAny (model X.prog X.w) X.A.in1.in1 (call (.ref f) [x]) (λk s'=>∃ (us':List Value) (e':Nat),us'.length<64/\s'.heap.get? kS=some (seqObj "list" us'.toArray e')/\C k s') (λ_ _=>False) s ->
   wpAny (model X.prog X.w) X.A.in1.in1 (body x ⟨⟩) (λr s'=>r = .yield ⟨⟩/\∃ k s1,C k s1/\s' = { s1 with heap:=s1.heap.update kS (Obj.mapSeq (·.push k)) }) E s)
  (hv:Vals xs vs) (h64:vs.length<64) (I:Inv X pins σ H s) (fD:FpOk X pins H D) (fK:FpOk X pins H kS) (gD:s.heap.get? D=some oD) (gK:s.heap.get? kS=some (seqObj "list" ([]:List Value).toArray e0)) (hk:tKeys sp xs [] H Qk)
  (done:∀ s' H' ks us e,Inv X pins σ H' s'->FpOk X pins H' D->FpOk X pins H' kS->s'.heap.get? D=some oD->s'.heap.get? kS=some (seqObj "list" us.toArray e)->Vals ks us->ks.length=xs.length->Qk ks H'->R ⟨⟩ s') :
  wpAny (model X.prog X.w) X.A.in1.in1 (forIn vs PUnit.unit body) R E s:=by
 have hlen:=hv.length;refine ksk_fold (λj s'=>∃ H' ks us e,Inv X pins σ H' s'/\FpOk X pins H' D/\FpOk X pins H' kS/\s'.heap.get? D=some oD/\s'.heap.get? kS=some (seqObj "list" us.toArray e)/\Vals ks us/\ks.length=j/\tKeys sp (xs.drop j) ks H' Qk) vs 0 s
  ⟨H,[],[],e0,I,fD,fK,gD,gK,.nil,rfl,hk⟩ (λj x s' hx ⟨H',ks,us,e,I',fD',fK',gD',gK',rk,lk,tk⟩=>?_) λs' ⟨H',ks,us,e,I',fD',fK',gD',gK',rk,lk,tk⟩=>?_
 ·rw [Nat.zero_add] at tk lk
  (have hj:=(List.getElem?_eq_some_iff.mp hx).1)
  have hjx:j<xs.length:=by lia
  have ex:xs[j]? = some xs[j]:=by simp [hjx]
  obtain ⟨u,hu,ru⟩:=hv.get ex;rw [hx] at hu;cases hu;rw [List.drop_eq_getElem_cons hjx] at tk;have hl:=rk.length;have Ip:Inv X (pins++[(D,oD),(kS,seqObj "list" us.toArray e)]) σ H' s':=I'.pins_of λp hp=>by
   (rcases List.mem_append.mp hp with z | z)
   ·exact I'.pin p (List.mem_append_right _ z)
   ·rcases List.mem_cons.mp z with z | z
    ·subst z;exact ⟨gD',fD'.1,fD'.2.1,fD'.2.2.1,hD⟩
    ·have z':p=(kS,seqObj "list" us.toArray e):=by simpa using z
     subst z';exact ⟨gK',fK'.1,fK'.2.1,fK'.2.2.1,λv q=>by cases q⟩
  refine wpAny_mono (hbody x us e s' (λkv s1=>∃ v H1,Inv X (pins++[(D,oD),(kS,seqObj "list" us.toArray e)]) σ H1 s1/\RelV v kv/\tKeys sp (xs.drop (j+1)) (ks++[v]) H1 Qk) (by lia) gK' (wpAny_call (codeAny_mono (F.run X.A.in1.in1 X.stack s' H' ⟨[x],[]⟩ [x] [xs[j]] _ E0 (hr.in1.in1) (Ip.env0.in1.in1) (by have:=hb s' [x] I'.kIn (by simpa using (F.len _ _ _ _ tk));simpa using this) (.cons ru .nil) tk) λr s1 hq=>?_))) (λr s2 hr2=>?_) λ_ _ z=>z
  ·cases r with
   | error er=>exact hq.elim
   | ok fl=>
    cases fl with
    | ret kv=>
     obtain ⟨v,H1,I1,r1,q1⟩:=Ip.after hq;refine ⟨us,e,by lia,(I1.pin (kS,seqObj "list" us.toArray e) (by simp)).1,v,H1,I1,r1,q1⟩
    | next=>exact False.elim hq
    | brk=>exact False.elim hq
    | cont=>exact False.elim hq
  ·obtain ⟨er,kv,s1,⟨v,H1,I1,r1,q1⟩,es⟩:=hr2;refine ⟨er,?_⟩;subst es;have pD:=I1.pin (D,oD) (by simp);have pK:=I1.pin (kS,seqObj "list" us.toArray e) (by simp);have fK1:FpOk X pins H1 kS:=⟨pK.2.1,fK'.2⟩;have sb:=Heap.SameBut.update s1.heap kS (Obj.mapSeq (·.push kv))
   have ea:us.toArray.push kv=(us++[kv]).toArray:=by simp
   obtain ⟨c2,hc2⟩:∃ c2,(s1.heap.update kS (Obj.mapSeq (·.push kv))).get? kS=some (seqObj "list" (us++[kv]).toArray c2):=⟨_,by rw [<-ea];exact get?_update_seq pK.1 (·.push kv)⟩
   refine ⟨H1,ks++[v],us++[kv],c2,(I1.unpinned.turnedL (t':=s1.toks) (wr:=[kS]) (λc hc=>by rwa [show c=kS by simpa using hc]) λc o hc e=>(sb.2 c (by simpa using hc)).trans e),⟨pD.2.1,fD'.2⟩,fK1,(sb.2 D hne).trans pD.1,hc2,rk.append (.cons r1 .nil),by simp [lk],?_⟩
   rwa [Nat.zero_add]
 ·rw [Nat.zero_add] at tk lk;rw [List.drop_of_length_le (by lia)] at tk;exact done s' H' ks us e I' fD' fK' gD' gK' rk (by lia) tk
theorem ksort_tree {a r:Sh}{b:Bool}{k:Nat}{f D:Addr}{fd:FuncData}{ps:List Str}{sp:Sp}{n0:Nat} (hf:FirstK a b) {xs:List V}{vs:List Value}{P:PySem.Fin->Shared->Prop}{E:Value->Shared->Prop}
  (F:FnOk X.prog X.w X.K X.mg X.base CX0 k f fd ps sp) (hr:Room (k+2) X.A) (hb:Binds X.K fd ps []) (I:Inv X pins σ H s) (ho:s.heap.get? D=some (seqObj "list" vs.toArray n0)) (fD:FpOk X pins H D)
  (hv:Vals xs vs) (h64:vs.length<64)
  {Qk:List V->Hp->Prop} (h:tKeys sp xs [] H Qk) (hQ:∀ ks H1,Qk ks H1->∃ kds,Dens X.K H1 ks kds/\(∀ d∈kds,(Sh.tcons a r).has d)/\(∀ d∈kds,d.depth<=100) /\
   ∀ (p:List Nat) (s':Shared),p.Perm (List.range xs.length)->InOrd kds p->H1 D=none->Inv X pins σ (upd H1 D (.lst (picked xs p))) s'->P (.done (.ret .none)) s') :
  wpAny (model X.prog X.w) X.A.in1.in1 (ksk_tree D (.ref f) false) P E s:=by
 have hlen:=hv.length;obtain ⟨e1,ho1,at3⟩:=sort_opened I ho fD;refine wpAny_bind (listItems_at ho rfl (wpAny_bind (listUpdate_at ho rfl (wpAny_bind (seqEpoch_at ho1 rfl (wpAny_bind (wpAny_newTuple (wpAny_bind (wpAny_newList (wpAny_holding ?main) (Nat.zero_le _))) ?short)))) ?few (Nat.zero_le _))))
 case short=>show vs.length<=_;rw [sizeLine_eq];lia
 case few=>rw [List.size_toArray,sizeLine_eq];lia
 case main=>
 have hsz:((s.heap.update D (Obj.mapSeq λ_=>(#[]:Array Value))).push (seqObj "tuple" vs.toArray 0)).objs.size=s.heap.objs.size+1:=by simp
 have gK:(((s.heap.update D (Obj.mapSeq λ_=>(#[]:Array Value))).push (seqObj "tuple" vs.toArray 0)).push (seqObj "list" #[] 0)).get? (s.heap.objs.size+1)=some (seqObj "list" ([]:List Value).toArray 0):=by
  (rw [<-hsz];exact Heap.get?_push_size _ rfl)
 rw [hsz];generalize hh3:((s.heap.update D (Obj.mapSeq λ_=>(#[]:Array Value))).push (seqObj "tuple" vs.toArray 0)).push (seqObj "list" #[] 0)=h3 at gK;obtain ⟨hD3,I3⟩:=at3 h3 hh3.symm;have hne:D≠s.heap.objs.size+1:=Nat.ne_of_lt (Nat.lt_succ_of_lt (Heap.lt_size ho));have fK:FpOk X pins H (s.heap.objs.size+1):=I.fpOk (Nat.le_succ _) (I.hok.fresh (Nat.le_succ _));generalize s.heap.objs.size+1=kS at *;refine wpAny_bind (wpAny_rule ?_)
 first | rw [List.forIn_toArray] | (rw [<-Array.forIn_toList];simp only [List.toList_toArray])
 refine wpAny_bind (ksort_keys (R:=λ_ s'=>wpAny (model X.prog X.w) X.A.in1.in1 (Builtin.List.listItems (.ref kS) >>= λkeys=>ksk_end D false vs.toArray e1 (.ref kS) keys) P E s') F hr hb hne (λv z=>by cases z) (λx us e s' C hz gk hx=>?_) hv h64 I3 fD fK hD3 gK h λs' H' ks us e I' fD' fK' gD' gK' rk lk qk=>?_)
 ·refine wpAny_bind (wpAny_attempt (wpAny_mono hx (λkv s'' hk=>?_) λ_ _ hF=>hF.elim));obtain ⟨us',e',hz',gk',c⟩:=hk
  try dsimp only
  refine wpAny_bind (listUpdate_at gk' rfl ?_ (by rw [List.size_toArray,sizeLine_eq];lia) (Nat.le_trans (Nat.le_of_eq (Array.size_push ..)) (by rw [List.size_toArray,sizeLine_eq];lia)));exact wpAny_pure ⟨rfl,kv,s'',c,rfl⟩
 ·obtain ⟨kds,hd,hs,hdep,q⟩:=hQ _ _ qk;refine wpAny_bind (listItems_at gK' rfl ?_);have hl2:us.length=vs.length:=by rw [<-rk.length];lia
  have endp:∀ (st:SortSt) (p:List Nat),(arrOf st).map (·.2)=List.toArray (p.map λi=>vs.getD i Value.none)->failedOf st=none->p.Perm (List.range xs.length)->InOrd kds p->wpAny (model X.prog X.w) X.A.in1.in1 (ksk_tail D false e1 (.ref kS) st) P E s':=λst p hout hfl hp hord=>by
   have sk:=Heap.SameBut.update s'.heap kS (Obj.mapSeq λ_=>(#[]:Array Value));have gD2:=(sk.2 D hne).trans gD';have pl:p.length=xs.length:=by rw [hp.length_eq];simp
   unfold ksk_tail
   try dsimp only
   rw [hout];refine wpAny_bind (listUpdate_at gK' rfl ?_ (by rw [List.size_toArray,sizeLine_eq];lia) (Nat.zero_le _));refine wpAny_bind (wpAny_letGo ?_);refine wpAny_bind (seqEpoch_at gD2 rfl ?_);refine wpAny_bind (listUpdate_at gD2 rfl ?_ (Nat.zero_le _) (by simp only [Bool.false_eq_true,if_false];rw [List.size_toArray,List.length_map,pl,sizeLine_eq];lia));rw [hfl]
   (simp only [bne_self_eq_false,Bool.false_eq_true,if_false])
   refine wpAny_pure ?_;obtain ⟨c2,hc2⟩:∃ c2,((s'.heap.update kS (Obj.mapSeq λ_=>(#[]:Array Value))).update D (Obj.mapSeq λ_=>List.toArray (p.map λi=>vs.getD i Value.none))).get? D=some (seqObj "list" (List.toArray (p.map λi=>vs.getD i Value.none)) c2):=⟨_,get?_update_seq gD2 λ_=>List.toArray (p.map λi=>vs.getD i Value.none)⟩;refine q p _ hp hord fD'.1 (I'.adopt (t':=s'.toks) (wr:=[D,kS]) (a:=D) (λc hc=>?_) (by simp) (λc o hc e=>?_) ⟨by rw [picked_len,pl,sizeLine_eq];lia,p.map λi=>vs.getD i Value.none,c2,vals_picked hv p,hc2⟩)
   ·grind
   ·exact ((Heap.SameBut.update (s'.heap.update kS (Obj.mapSeq λ_=>(#[]:Array Value))) D (Obj.mapSeq λ_=>List.toArray (p.map λi=>vs.getD i Value.none))).2 c (λz=>hc (by simp [z]))).trans ((sk.2 c (λz=>hc (by simp [z]))).trans e)
  unfold ksk_end
  try dsimp only
  (simp only [Bool.false_eq_true,if_false])
  by_cases hn2:vs.toArray.size<2
  ·rw [if_pos hn2,if_pos hn2];refine wpAny_bind (wpAny_pure ?_);refine wpAny_bind ?_;rw [StateT.run_pure];refine wpAny_pure ?_;refine endp _ (List.range xs.length) ?_ rfl (List.Perm.refl _) (inord_short (by rw [List.size_toArray] at hn2;lia))
   grind
  ·rw [if_neg hn2,if_neg hn2];have h2:2<=us.length:=by rw [List.size_toArray] at hn2;lia
   refine wpAny_bind (wpAny_mono (sort_engine (A:=X.A.in1.in1) (G:=λp s2=>s2=s'/\p.toList.Perm (List.range us.length)/\InOrd kds p.toList) hf I' rk hd hs hdep h2 (by show X.A.units+1+1+101<cLine;have:=hr.un;lia) λp hp up=>⟨rfl,hp,inord_of (by rw [hp.length_eq];simp) up⟩) (λκ s0 hk=>?_) λ_ _ x=>x.elim);rw [hl2] at hk;refine wpAny_bind (wpAny_mono (kat_run (ks:=us) (vs:=vs) (Q:=λst' s2=>∃ p:Array Nat,arrOf st' = p.map (kas_item (us.toArray.zip vs.toArray))/\failedOf st' = none/\s2=s'/\p.toList.Perm (List.range vs.length)/\InOrd kds p.toList)
    hl2 (by lia) h64 (λp' st' s2 a1 a2 a3 a4=>⟨p',a2,a3,a4⟩) hk) ?_ λ_ _ e=>e)
   rintro ⟨⟨⟩,st'⟩ s2 ⟨p,har,hfl,rfl,hp,hord⟩
   grind [kat_snds]
def rSortK (K:PySem.W.Frag) (a r:Sh) (sp:Sp):V->Hp->VK->Prop:=λx H Q=>∃ l xs,x = .ref l/\SqL K H l xs/\xs.length<64/\tKeys sp xs [] H λks H1=>
 ∃ kds,Dens K H1 ks kds/\(∀ d∈kds,(Sh.tcons a r).has d)/\(∀ d∈kds,d.depth<=100)/\∀ (D:Addr) (p:List Nat),H1 D=none->p.Perm (List.range xs.length)->InOrd kds p->Q (.ref D) (upd H1 D (.lst (picked xs p)))
theorem call_sortK {a r:Sh}{b:Bool}{k:Nat}{f:Addr}{fd:FuncData}{ps:List Str}{sp:Sp}{x:V}{u:Value}{Q:VK} (hf:FirstK a b) (F:FnOk X.prog X.w X.K X.mg X.base CX0 k f fd ps sp) (hr:Room (k+2) X.A) (hb:Binds X.K fd ps []) (I:Inv X pins σ H s) (rx:RelV x u) (h:rSortK X.K a r sp x H Q) :
  wpAny (model X.prog X.w) X.A (call (.builtin "sorted") [u] [(Str.ofString "key",.ref f)]) (EP X pins σ Q) X.xe s:=by
 obtain ⟨l,ys,rfl,hq,h64,q⟩:=h;cases rx;obtain ⟨vs,r,pl,_⟩:=I.list hq;have hlen:=r.length;refine call_function_entry_kw kind_sorted plain_sorted entry_sorted (ksk_s1 _ _) ?_
 (refine wpAny_bind (m:=checkCount "sorted" 1 1 _) (wpAny_pure ?_))
 refine wpAny_bind (collect_list pl.isList ?_ (by lia))
 (refine wpAny_bind (wpAny_newList ?_ (by lia)))
 have hoL:=copied_at s.heap vs;have keep:=copied_keep s.heap vs;show wpAny _ _ (_ >>= λ_=>_) _ _ { s with heap:=(copied s.heap vs).push (seqObj "list" vs.toArray 0) };rw [show ((s.heap.push (seqObj "list" #[] 0)).update s.heap.objs.size (Obj.mapSeq (· ++ vs.toArray))).objs.size=s.heap.objs.size+1 from (copied_size s.heap vs)]
 generalize (copied s.heap vs).push (seqObj "list" vs.toArray 0)=h2 at hoL keep ⊢;refine wpAny_bind (wpAny_holding (wpAny_call_entry_kw slot_list_sort ⟨_,hoL,rfl⟩ entry_list_sort ?body (ksk_l1 _ _)))
 case body=>
  rw [ksk_t1];refine ksort_tree (s:={ s with heap:=h2 }) hf F hr hb (I.kept (t':=s.toks) keep) hoL (I.fpOk (Nat.le_succ _) (I.hok.fresh (Nat.le_succ _))) r (by lia) q λks H1 ⟨kds,hd,hs,hdep,q2⟩=>⟨kds,hd,hs,hdep,λp s' hp hord hn I'=>?_⟩;refine ⟨_,rfl,wpAny_pure ⟨_,rfl,?_⟩⟩;exact ⟨.ref _,_,I',rfl,q2 _ p hn hp hord⟩
def tSortK (K:PySem.W.Frag) (a r:Sh) (sp:Sp) (ta:TA):TE:=λσ H Q=>ta σ H λvs H1=>∃ x,vs=[x]/\rSortK K a r sp x H1 Q
theorem pe_sortK {a r:Sh}{b:Bool}{k:Nat}{f:Addr}{fd:FuncData}{ps:List Str}{sp:Sp}{e:Expr}{ta:TA}{y:Str}{p py pos kp:Pos} (hf:FirstK a b) (F:FnOk X.prog X.w X.K X.mg X.base CX0 k f fd ps sp) (hr:Room (k+2) X.A) (hb:Binds X.K fd ps [])
  (hg:Gl X "sorted") (hm:X.mg "sorted" = none) (hgf:Gl X y) (hmf:X.mg y=some (.ref f)) (ha:PA X [e] ta) (hdb:(y == ("__debug__" : Str))=false:=by decide)
  (he:backTo pos (starEach [e] X.env)=(false,eval e X.env)::backTo pos (starEach [] X.env):=by rfl) (hplain:(backTo pos (starEach [e] X.env)).any (·.1)=false:=by rfl)
  (hall:(backToKw pos (keywordEach [⟨some "key",.Name y py,kp⟩] X.env)).all (·.1.isSome)=true:=by rfl) (hkw:(backToKw pos (keywordEach [⟨some "key",.Name y py,kp⟩] X.env)).any (·.1.isNone)=false:=by rfl) :
  PE X (.Call (.Name "sorted" p) [e] [⟨some "key",.Name y py,kp⟩] pos) (tSortK X.K a r sp ta):=by
 intro pins s σ H Q I h;refine wpAny_Call_Name_kw (ld_blt I hg hm boot_sorted ?_);refine callWith_kw (thn (ha pos pins s σ H _ I h) λus s1 ⟨vs,H1,I1,r1,q1⟩=>?_) he hplain hall hkw;obtain ⟨x,rfl,q⟩:=q1;obtain ⟨u,rfl,ru⟩:=r1.one;refine kws_cons (ld_glob I1 hgf hmf (kws_nil ?_) hdb);exact call_sortK hf F hr hb I1 ru q
end
end L2
namespace L2
open PySem PySem.Spec PyProof.Rows PySem.W
section
open PySem.SeqAt
open PySem.AutoSeq1 (wpAny_loadPart')
open PySem.MeetsSeq PySem.MeetsSeq2 PySem.MeetsSeq3
theorem index_loop {prog:Program}{w:World}{A:Around}{E:Value->Shared->Prop}{s:Shared}{items:Array Value}{x:Value}{e:Nat->Bool}{j:Nat} (hj:j<items.size) (hit:e j=true) (hno:∀ m,m<j->e m=false) (he:∀ i (h:i<items.size),EqAt A s items[i] x (e i))
  {body:Nat->Option PySem.Fin×PUnit->Sem (ForInStep (Option PySem.Fin×PUnit))} (hb:∀ i u,body i u=(match items[i]? with
   | some y=>do
    let c <-eqBool y x
    if c=true then do
     let r <-retInt i
     pure (ForInStep.done (some r,⟨⟩))
    else pure (ForInStep.yield (none,⟨⟩))
   | _=>pure (ForInStep.yield (none,⟨⟩)))) {Q:Option PySem.Fin×PUnit->Shared->Prop} (q:Q (some (.done (.ret (.int j s.toks))),⟨⟩) { s with toks:=s.toks+1 }) :
  ∀ (k i:Nat) (u:Option PySem.Fin×PUnit),i<=j->k=items.size - i->wpAny (model prog w) A (forIn (List.range' i k 1) u body) Q E s:=by
 intro k
 induction k with
 | zero=>intro i u hi hk;lia
 | succ k ih=>
  intro i u hi hk;rw [List.range'_succ,List.forIn_cons,hb]
  (have hlt:i<items.size:=by lia)
  have hi1:items[i]? = some items[i]:=by simp [hlt]
  rw [hi1];refine wpAny_bind (wpAny_bind (he i hlt prog w _ _ ?_));cases hei:e i with
  | true=>
   have:i=j:=by
    grind
   subst this;rw [if_pos rfl];refine wpAny_bind ?_
   (refine wpAny_bind (wpAny_mkInt ?_))
   (exact wpAny_pure (wpAny_pure (wpAny_pure q)))
  | false=>
   have:i≠j:=λz=>by lia
   rw [if_neg Bool.false_ne_true]
   grind [wpAny_pure]
end
section
variable {X:Cx}
def rIndex (K:PySem.W.Frag):V->List V->Hp->VK->Prop:=λx vs H Q=>∃ p xs y j,x = .ref p/\vs=[y]/\SqT K H p xs/\flatV y=true/\xs.all flatV=true/\j<xs.length/\eqV (xs.getD j .non) y=true/\(∀ m,m<j->eqV (xs.getD m .non) y=false)/\Q (.int j) H
theorem mt_index:MtR X "tuple.index" (rIndex X.K):=by
 intro pins s σ H x vs v us Q I rx rv h;obtain ⟨p,xs,y,j,rfl,rfl,hq,fy,fx,hj,e1,e2,q⟩:=h;cases rx;obtain ⟨u,rfl,ru⟩:=rv.one;obtain ⟨its,r,⟨⟨cls,dd,data,sl⟩,eo,c,n,d⟩,_⟩:=I.tuple hq;subst c d;have hl:=r.length;have eqs:∀ i (hi:i<its.toArray.size) (A:Around),SeqAt.EqAt A s its.toArray[i] u (eqV (xs.getD i .non) y):=λi hi A=>by
  have hi':i<its.length:=by simpa using hi
  have hx:xs[i]? = some xs[i]:=by simp [hl,hi']
  obtain ⟨w,hw,rw'⟩:=r.get hx
  grind [Option.some.inj,List.getD_eq_getElem?_getD,eqAt_V,List.getElem_mem]
 refine wpAny_call_entry F.slot_tuple_index ⟨_,eo,rfl⟩ F.entry_tuple_index ?_ (F.args_tuple_index_2 _ _);show wpAny _ _ (Builtin.Tuple.tupleItemsOf (.ref p) >>= _) _ _ s;refine wpAny_bind ?_
 (unfold Builtin.Tuple.tupleItemsOf)
 refine wpAny_bind (wpAny_seqItems eo rfl (wpAny_pure ?_));show wpAny _ _ (forIn [0:min its.toArray.size its.toArray.size] ((none:Option PySem.Fin),PUnit.unit) _ >>= _) _ _ s;rw [Std.Legacy.Range.forIn_eq_forIn_range'];have hsz:([0:min its.toArray.size its.toArray.size]:Std.Legacy.Range).size=its.toArray.size:=by simp
 rw [hsz];refine wpAny_bind (index_loop (items:=its.toArray) (x:=u) (e:=λi=>eqV (xs.getD i .non) y) (j:=j) (by simp_all) e1 e2 (λi hi=>eqs i hi _) (λi u=>?_) ?_ _ 0 _ (Nat.zero_le _) rfl)
 ·rfl
 ·refine wpAny_pure ⟨_,rfl,?_⟩;exact ⟨.int j,H,I.tok _,⟨_,rfl⟩,q⟩
def rIsi (K:PySem.W.Frag):List V->Hp->VK->Prop:=λvs H Q=>∃ x n t b,vs=[x,.ty n]/\TyOf K H x t/\kitOne K t (.type n)=some b/\Q (.bl b) H
theorem call_isi:CallR X (.builtin "isinstance") (rIsi X.K):=by
 intro pins s σ H xs us Q I rv h;obtain ⟨x,n,t,b,rfl,ty,e,q⟩:=h;obtain ⟨u,w',rfl,r1,r2⟩:=vals2 rv;obtain rfl:w' = Value.type n:=r2;exact isinst_ok I r1 ty e λtk=>⟨.bl b,H,I.tok _,rfl,q⟩
end
end L2
namespace L2
open PySem PySem.Spec PyProof.Rows
structure DefAt (K:PySem.W.Frag) (mg:Str->Option Value) (x:Str) (st:Stmt) (ps:List Str) (f:Addr) (fd:FuncData):Prop where
 fn:Fun K x x st f fd
 bd:Binds K fd ps []
 mg:mg x=some (.ref f)
theorem Same.new {H:Hp}{p:Addr}{o:HO} (h:H p=none):Same H (upd H p o):=λb u e=>by rw [upd_ne (ne_of_none e h)];exact e
def CN (D:Addr) (Pv:List V->St->Hp->Prop):St->Hp->Prop:=λσ H=>∃ acc,H D=some (.lst acc)/\Pv acc σ H
section
variable {K:PySem.W.Frag}{g:TG}{tt:TT}{te:TE}{D:Addr}{Q:VK}{σ:St}{H:Hp}
theorem comp_gen {J:It} (n:Nat) (Pv:Nat->List V->St->Hp->Prop) (hD:H D=some (.lst [])) (h0:Pv 0 [] σ H)
  (hgo:∀ i acc σ H,i<n->H D=some (.lst acc)->Pv i acc σ H->J.go i H) (hstop:∀ acc σ H,H D=some (.lst acc)->Pv n acc σ H->J.stop n H)
  (hs:∀ i acc σ H x H',i<n->H D=some (.lst acc)->Pv i acc σ H->J.yld i H x H'->g x σ H' λσ2 H2=>tt σ2 H2 λb H3=>if b=true then te σ2 H3 λv H4=>∃ ys,H4 D=some (.lst ys)/\ys.length<sizeLine/\CN D (Pv (i+1)) σ2 (upd H4 D (.lst (ys++[v]))) else CN D (Pv (i+1)) σ2 H3)
  (hd:∀ acc σ H,H D=some (.lst acc)->Pv n acc σ H->Q (.ref D) H):CompW g tt te J D Q σ H:=by
 refine ⟨λi m σ H=>m=n - i/\i<=n/\CN D (Pv i) σ H,⟨n,by simp,Nat.zero_le _,[],hD,h0⟩,?_⟩;rintro i m σ H ⟨rfl,hi,acc,hacc,p⟩;by_cases hlt:i<n
 ·exact .inr ⟨hgo i acc σ H hlt hacc p,CN D (Pv (i+1)),λσ' H' p'=>⟨n - (i+1),by lia,rfl,hlt,p'⟩,λx H' y=>hs i acc σ H x H' hlt hacc p y⟩
 ·grind
theorem comp_list {a:Addr}{xs:List V} (Pv:Nat->List V->St->Hp->Prop) (hD:H D=some (.lst [])) (h0:Pv 0 [] σ H) (hl:∀ i acc σ H,i<=xs.length->H D=some (.lst acc)->Pv i acc σ H->SqL K H a xs)
  (hs:∀ i x acc σ H,xs[i]? = some x->H D=some (.lst acc)->Pv i acc σ H->g x σ H λσ2 H2=>tt σ2 H2 λb H3=>if b=true then te σ2 H3 λv H4=>∃ ys,H4 D=some (.lst ys)/\ys.length<sizeLine/\CN D (Pv (i+1)) σ2 (upd H4 D (.lst (ys++[v]))) else CN D (Pv (i+1)) σ2 H3)
  (hd:∀ acc σ H,H D=some (.lst acc)->Pv xs.length acc σ H->Q (.ref D) H):CompW g tt te (Itl K a) D Q σ H:=by
 refine comp_gen xs.length Pv hD h0 (λi acc σ H hi hacc p=>⟨xs,xs[i],hl i acc σ H (Nat.le_of_lt hi) hacc p,by simp [hi]⟩) (λacc σ H hacc p=>⟨xs,hl _ acc σ H (Nat.le_refl _) hacc p,Nat.le_refl _⟩) (λi acc σ H x H' hi hacc p y=>?_) hd;obtain ⟨e,y⟩:=y
 grind
theorem comp_range {lo:Int}{n:Nat} (Pv:Nat->List V->St->Hp->Prop) (hD:H D=some (.lst [])) (h0:Pv 0 [] σ H)
  (hs:∀ i acc σ H,i<n->H D=some (.lst acc)->Pv i acc σ H->g (.int (lo+i)) σ H λσ2 H2=>tt σ2 H2 λb H3=>if b=true then te σ2 H3 λv H4=>∃ ys,H4 D=some (.lst ys)/\ys.length<sizeLine/\CN D (Pv (i+1)) σ2 (upd H4 D (.lst (ys++[v]))) else CN D (Pv (i+1)) σ2 H3)
  (hd:∀ acc σ H,H D=some (.lst acc)->Pv n acc σ H->Q (.ref D) H):CompW g tt te (Itr lo n) D Q σ H:=by
 refine comp_gen n Pv hD h0 (λi acc σ H hi hacc p=>hi) (λacc σ H hacc p=>Nat.le_refl _) (λi acc σ H x H' hi hacc p y=>?_) hd;obtain ⟨e,y⟩:=y
 simp_all
theorem comp_str {z:Str} (Pv:Nat->List V->St->Hp->Prop) (hD:H D=some (.lst [])) (h0:Pv 0 [] σ H)
  (hs:∀ i c acc σ H,z.cps[i]? = some c->H D=some (.lst acc)->Pv i acc σ H->g (.str ⟨#[c]⟩) σ H λσ2 H2=>tt σ2 H2 λb H3=>if b=true then te σ2 H3 λv H4=>∃ ys,H4 D=some (.lst ys)/\ys.length<sizeLine/\CN D (Pv (i+1)) σ2 (upd H4 D (.lst (ys++[v]))) else CN D (Pv (i+1)) σ2 H3)
  (hd:∀ acc σ H,H D=some (.lst acc)->Pv z.length acc σ H->Q (.ref D) H):CompW g tt te (Its z) D Q σ H:=by
 refine comp_gen z.length Pv hD h0 (λi acc σ H hi hacc p=>hi) (λacc σ H hacc p=>Nat.le_refl _) (λi acc σ H x H' hi hacc p y=>?_) hd;obtain ⟨e,c,ec,y⟩:=y
 simp_all
theorem comp_enum {a:Addr}{xs:List V} (Pv:Nat->List V->St->Hp->Prop) (hD:H D=some (.lst [])) (h0:Pv 0 [] σ H) (hl:∀ i acc σ H,i<=xs.length->H D=some (.lst acc)->Pv i acc σ H->SqL K H a xs)
  (hs:∀ i x acc σ H p,xs[i]? = some x->H D=some (.lst acc)->Pv i acc σ H->H p=none->g (.ref p) σ (upd H p (.tup [.int i,x])) λσ2 H2=>tt σ2 H2 λb H3=>if b=true then te σ2 H3 λv H4=>∃ ys,H4 D=some (.lst ys)/\ys.length<sizeLine/\CN D (Pv (i+1)) σ2 (upd H4 D (.lst (ys++[v]))) else CN D (Pv (i+1)) σ2 H3)
  (hd:∀ acc σ H,H D=some (.lst acc)->Pv xs.length acc σ H->Q (.ref D) H):CompW g tt te (Ite K a) D Q σ H:=by
 refine comp_gen xs.length Pv hD h0 (λi acc σ H hi hacc p=>⟨xs,xs[i],hl i acc σ H (Nat.le_of_lt hi) hacc p,by simp [hi]⟩) (λacc σ H hacc p=>⟨xs,hl _ acc σ H (Nat.le_refl _) hacc p,Nat.le_refl _⟩) (λi acc σ H x H' hi hacc p y=>?_) hd;obtain ⟨q,v,hq,hv,e,e'⟩:=y
 grind
end
theorem tkeys_all {K:PySem.W.Frag}{sp:Sp}{Qk:List V->Hp->Prop}{H0:Hp}:∀ (xs:List V) (kds:List PyData) (ks:List V) (dks:List PyData) (H:Hp),xs.length=kds.length->Same H0 H->Dens K H ks dks ->
  (∀ (i:Nat) (x:V) (d:PyData) (H:Hp) (Q:VK),xs[i]? = some x->kds[i]? = some d->Same H0 H->(∀ r H',Same H H'->Den K H' r d->Q r H')->sp [x] H Q E0)->(∀ ks' H',Same H0 H'->Dens K H' ks' (dks++kds)->Qk ks' H')->tKeys sp xs ks H Qk
 | [],[],ks,dks,H,_,hs,hd,_,hq=>hq ks H hs (by simpa using hd)
 | x::xs,d::kds,ks,dks,H,hl,hs,hd,hsp,hq=>by
  refine hsp 0 x d H _ rfl rfl hs λr H' s' dr=>?_;refine tkeys_all xs kds (ks++[r]) (dks++[d]) H' (by simpa using hl) (hs.trans s') ((hd.same s').append (.cons dr .nil)) (λi y e H2 Q h1 h2=>hsp (i+1) y e H2 Q (by simpa using h1) (by simpa using h2)) λks' H2 h1 h2=>hq ks' H2 h1 (by simpa using h2)
end L2
namespace L2
open PySem PySem.Spec PyProof.Rows
def cscB (sc osc:Scope) (N N':List Str) (n:Nat) (fi:List Nat):Bool:=
 decide (sc.kind = .function) && decide (∀ y∈sc.names,y.2 = .local->sc.names.lookup y.1=some .local)
 && decide (∀ y∈sc.names,y.2 = .free->osc.names.lookup y.1=some .cell\/osc.names.lookup y.1=some .free)
 && decide (N'.length=n+fi.length)
 && (List.range fi.length).all λj=>match fi[j]? with
  | some k=>match N'[n+j]? with
   | some x=>decide (N[k]? = some x) && decide (sc.names.lookup x=some .free) && decide ((x,NameKind.cell)∉sc.names)
   | none=>false
  | none=>false
theorem cscope {X:Cx}{sc:Scope}{N':List Str}{n:Nat}{fi:List Nat} (osc:Scope) (N:List Str) (h:cscB sc osc N N' n fi=true) (e1:X.env.scope=osc:=by rfl) (e2:X.N=N:=by rfl):CScope X sc N' n fi:=by
 subst e1 e2;simp only [cscB,Bool.and_eq_true,decide_eq_true_eq] at h;obtain ⟨⟨⟨⟨h1,h2⟩,h3⟩,h4⟩,h5⟩:=h;refine ⟨h1,h2,h3,h4,λj k hj=>?_⟩
 grind
def lim (H H':Hp):Hp:=λb=>match H b with | some (.lst _)=>none | _=>H' b
def wo (D:Addr) (H:Hp):Hp:=λb=>if b=D then none else H b
section
variable {H H' H1 H2 H3:Hp}{D E p b:Addr}{o u:HO}{xs ys:List V}
theorem lim_at (h:∀ zs,H b≠some (.lst zs)):lim H H' b=H' b:=by
 grind [lim]
theorem lim_new (h:H p=none):lim H H' p=H' p:=lim_at λzs e=>by lia
theorem lim_same:Same (lim H H') H':=λb o e=>by
 grind [lim]
theorem lim_get (h:lim H H' b=some o):∀ zs,H b≠some (.lst zs):=λzs e=>by
 grind [lim]
theorem lim_mono (h:Same H1 H2):Same (lim H H1) (lim H H2):=λb o e=>by
 rw [lim_at (lim_get e)];exact h b o (lim_same b o e)
def LL (H H':Hp):Prop:=∀ b ys,H b=some (.lst ys)->∃ zs,H' b=some (.lst zs)
theorem Same.ll (h:Same H H'):LL H H':=λb ys e=>⟨ys,h b _ e⟩
theorem lim_back (h:LL H H1):Same (lim H1 H2) (lim H H2):=λb o e=>by
 rw [lim_at]
 ·exact lim_same b o e
 ·intro zs q;obtain ⟨z2,q2⟩:=h b zs q;exact lim_get e z2 q2
theorem wo_at (h:b≠D):wo D H b=H b:=by simp [wo,h]
theorem wo_self:wo D H D=none:=by simp [wo]
theorem wo_get (h:wo D H b=some o):b≠D/\H b=some o:=by
 grind [wo]
theorem wo_same:Same (wo D H) H:=λb o e=>(wo_get e).2
theorem wo_mono (h:Same H1 H2):Same (wo D H1) (wo D H2):=λb o e=>by
 rw [wo_at (wo_get e).1];exact h b o (wo_get e).2
theorem wo_upd:wo D (upd H D o)=wo D H:=by
 grind [wo_self,wo_at,upd_ne]
theorem same_upd:Same (wo D H) (upd H D o):=λb u e=>by grind [upd_ne,wo_get]
theorem wo_trans (h:Same (wo D H1) H2) (g:Same (wo D H2) H3):Same (wo D H1) H3:=λb o e=>g b o (by rw [wo_at (wo_get e).1];exact h b o e)
theorem lim_wo (h:H D=some (.lst ys)):Same (lim H H') (wo D H'):=λb o e=>by
 have hb:b≠D:=λq=>by grind [lim_get]
 rw [wo_at hb];exact lim_same b o e
theorem lim_upd (h:H D=some (.lst ys)):lim H (upd H' D o)=lim H H':=by
 grind [lim,upd_ne]
theorem same_wo (h:H D=none) (s:Same H H'):Same H (wo D H'):=λb o e=>by
 rw [wo_at (ne_of_none e h)];exact s b o e
theorem ll_new (s:Same H H') (h:H' D=some (.lst ys)):LL (upd H D o) H':=λb zs e=>by
 by_cases q:b=D
 ·subst q;exact ⟨ys,h⟩
 ·rw [upd_ne q] at e;exact ⟨zs,s b _ e⟩
theorem ge_len {α:Type}{xs:List α}{i:Nat}{x:α} (h:xs[i]? = some x):i<xs.length:=by
 grind
theorem take_next {α β:Type}{xs:List α}{i:Nat}{x:α} (h:xs[i]? = some x) (f:α->β):(xs.take (i+1)).map f=(xs.take i).map f++[f x]:=by
 rw [List.take_add_one,h];simp
theorem snap_upd (h:H D=none) (s:Same H H'):Same H (upd H' D o):=λb u e=>by
 rw [upd_ne (ne_of_none e h)];exact s b u e
end
theorem compY {i:Nat}{x:V}{σ:St}{H:Hp}{F G:St->Hp->Prop} (h:F (σ.set i (some x)) H):gName i x σ H λσ2 H2=>tYes σ2 H2 λb H3=>if b=true then F σ2 H3 else G σ2 H3:=by
 assumption
theorem small {n:Nat} (h:n<10000000):n<sizeLine:=by grind [sizeLine_eq,Nat.lt_of_lt_of_le]
end L2
namespace L2
open PySem PySem.Spec PyProof.Rows PySem.Builtin PySem.Builtin.Str
theorem SqT.lim {K:PySem.W.Frag}{H H0 H':Hp}{a:Addr}{xs:List V} (s1:Same H H0) (s2:Same H H') (h:SqT K H a xs):SqT K (L2.lim H0 H') a xs:=by
 rcases h with (h | ⟨o,h⟩) | h
 ·exact .inl (.inl (by rw [lim_at λzs e=>by rw [s1 _ _ h] at e;cases e];exact s2 _ _ h))
 ·exact .inl (.inr ⟨o,by rw [lim_at λzs e=>by rw [s1 _ _ h] at e;cases e];exact s2 _ _ h⟩)
 ·exact .inr h
def rListOf (K:PySem.W.Frag):List V->Hp->VK->Prop:=λxs H Q=>∃ p ys,xs=[.ref p]/\(SqL K H p ys\/SqT K H p ys)/\∀ l,H l=none->Q (.ref l) (upd H l (.lst ys))
theorem call_listO {X:Cx}:CallR X (.type "list") (rListOf X.K):=call_list_of
theorem bt_list:bootBuiltins "list" = some (.type "list"):=by decide +kernel
theorem bt_sorted:bootBuiltins "sorted" = some (.builtin "sorted"):=by decide +kernel
theorem depthAll_le {n:Nat}:∀ (l:List PyData),(∀ d∈l,d.depth<=n)->PyData.depthAll l<=n
 | [],_=>Nat.zero_le _
 | d::r,h=>by
  exact Nat.max_le.mpr ⟨(h d (List.mem_cons_self ..)),(depthAll_le r λe he=>h e (List.mem_cons_of_mem _ he))⟩
theorem ok_sign {z:Str}{i c:Nat} (hz:PyData.strOk z=true) (h:z.cps[i]? = some c):PyData.strOk ⟨#[c]⟩=true:=by
 unfold PyData.strOk at hz ⊢
 grind
theorem ok_of_mem {z:Str} (h:∀ c∈z.cps,c<1114112):PyData.strOk z=true:=by
 unfold PyData.strOk
 simp_all
theorem mem_of_ok {z:Str} (h:PyData.strOk z=true):∀ c∈z.cps,c<1114112:=by
 unfold PyData.strOk at h;intro c hc;obtain ⟨i,hi,rfl⟩:=Array.mem_iff_getElem.mp hc
 simp_all
theorem ok_slice {z:Str}{l u:Option Int} (hz:PyData.strOk z=true):PyData.strOk (Txt.slice z l u)=true/\(Txt.slice z l u).length<=z.length:=by
 unfold Txt.slice
 split
 ·lia
 ·constructor
  ·grind [ok_of_mem,List.mem_toArray,List.mem_filterMap,mem_of_ok,Array.mem_of_getElem?]
  ·show (List.toArray _).size<=z.cps.size;exact Nat.le_trans (List.length_filterMap_le _ _) (sliceIndices_le l u _)
theorem ok_strSub {z:Str}{a b:Nat} (hz:PyData.strOk z=true):PyData.strOk (strSub z a b)=true/\(strSub z a b).length<=z.length:=by
 unfold strSub;constructor
 ·refine ok_of_mem λc hc=>?_;refine mem_of_ok hz c ?_;obtain ⟨i,hi,rfl⟩:=Array.mem_iff_getElem.mp hc;simp
 ·show (Array.extract _ _ _).size<=z.cps.size
  grind
theorem ok_split {z y:Str} (hz:PyData.strOk z=true):∀ x∈Txt.split z y,PyData.strOk x=true/\x.length<=z.length:=by
 intro x hx;have one:x∈[z]->PyData.strOk x=true/\x.length<=z.length:=λh=>by
  simp_all
 unfold Txt.split at hx
 split at hx
 ·exact one hx
 ·split at hx
  ·exact one hx
  ·unfold partsBetween at hx;simp only [List.mem_map] at hx;obtain ⟨p,_,rfl⟩:=hx;exact ok_strSub hz
theorem split_len1 {z y:Str}:1<=(Txt.split z y).length/\(Txt.split z y).length<=z.length+2:=by
 grind [StrLaws.occ_length_le,Txt.split,length_partsBetween]
theorem glue_ok {y:Str} (hy:PyData.strOk y=true):∀ (xs:List Str) (acc:Array Nat),(∀ x∈xs,PyData.strOk x=true)->(∀ c∈acc,c<1114112)->∀ c∈xs.foldl (λacc p=>acc++y.cps++p.cps) acc,c<1114112
 | [],acc,_,h=>h
 | x::r,acc,hx,h=>by
  refine glue_ok hy r _ (λz hz=>hx z (List.mem_cons_of_mem _ hz)) λc hc=>?_
  grind [mem_of_ok,List.mem_cons_self]
theorem glue_len {y:Str}{m:Nat}:∀ (xs:List Str) (acc:Array Nat),(∀ x∈xs,x.length<=m)->(xs.foldl (λacc p=>acc++y.cps++p.cps) acc).size<=acc.size+xs.length * (m+y.length)
 | [],acc,_=>by simp
 | x::r,acc,hx=>by
  have h1:=glue_len (y:=y) r (acc++y.cps++x.cps) λz hz=>hx z (List.mem_cons_of_mem _ hz);have h2:x.cps.size<=m:=hx x (List.mem_cons_self ..);have h3:(acc++y.cps++x.cps).size=acc.size+y.cps.size+x.cps.size:=by simp;lia
  have h4:y.length=y.cps.size:=rfl;simp only [List.foldl_cons,List.length_cons,Nat.add_mul,Nat.one_mul] at h1 ⊢;lia
theorem ok_join {y:Str}{m:Nat} (hy:PyData.strOk y=true) {xs:List Str} (h:∀ x∈xs,PyData.strOk x=true/\x.length<=m):PyData.strOk (Txt.join y xs)=true/\(Txt.join y xs).length<=xs.length * (m+y.length):=by
 cases xs with
 | nil=>exact ⟨by show PyData.strOk Str.empty=true;decide +kernel,Nat.zero_le _⟩
 | cons x r=>
  have hx:=h x (List.mem_cons_self ..);have hr:∀ z∈r,PyData.strOk z=true/\z.length<=m:=λz hz=>h z (List.mem_cons_of_mem _ hz);refine ⟨ok_of_mem (glue_ok hy r x.cps (λz hz=>(hr z hz).1) (mem_of_ok hx.1)),?_⟩;have h1:=glue_len (y:=y) (m:=m) r x.cps λz hz=>(hr z hz).2;have h2:x.cps.size<=m:=hx.2;show (List.foldl (λ(acc:Array Nat) (p:Str)=>acc++y.cps++p.cps) x.cps r).size<=(x::r).length * (m+y.length);simp only [List.length_cons,Nat.add_mul,Nat.one_mul] at h1 ⊢;lia
theorem sum_le {m:Nat}:∀ {xs:List Str},(∀ x∈xs,x.length<=m)->(xs.map (·.length)).sum<=xs.length * m
 | [],_=>by simp
 | x::r,h=>by
  have h1:=sum_le λz hz=>h z (List.mem_cons_of_mem x hz);have h2:=h x (List.mem_cons_self ..);simp only [List.map_cons,List.sum_cons,List.length_cons,Nat.add_mul,Nat.one_mul] at h1 ⊢;lia
theorem join_fits {y:Str}{m:Nat}{xs:List Str} (h:∀ x∈xs,x.length<=m) (hb:xs.length * m+xs.length * y.length<=16777216):JoinOk y xs=true:=by
 have h1:=sum_le h;exact joinOk_of (by lia)
section
variable {K:PySem.W.Frag}{tt:TT}{D:Addr}{Q:VK}{H:Hp}
theorem dens_strs {K:PySem.W.Frag}{H:Hp}:∀ {l:List Str},(∀ x∈l,PyData.strOk x=true)->Dens K H (l.map V.str) (l.map PyData.str)
 | [],_=>.nil
 | x::r,h=>.cons (.str (h x (List.mem_cons_self ..))) (dens_strs λy hy=>h y (List.mem_cons_of_mem _ hy))
end
end L2
namespace L2
open PySem PySem.Spec PyProof.Rows
def Itz (K:PySem.W.Frag) (a b:Addr):It:=
 ⟨λi H=>∃ xs ys x y,SqL K H a xs/\SqL K H b ys/\xs[i]? = some x/\ys[i]? = some y,
   λi H x H'=>∃ p u v,H p=none/\(∀ xs,SqL K H a xs->xs[i]? = some u)/\(∀ ys,SqL K H b ys->ys[i]? = some v)/\x = .ref p/\H' = upd H p (.tup [u,v]),
   λi H=>∃ xs ys,SqL K H a xs/\SqL K H b ys/\(xs.length<=i\/ys.length<=i)⟩
theorem turn_zip {P:Program}{w:World}{K:PySem.W.Frag}{elts:List Expr}{k:Nat}{pos:Pos} (a b z TI TO i1 i2:Addr) (D:ZipApart z TI TO i1 i2 a b) :
  Turn P w K (.Tuple elts k pos) (Itz K a b) [z,TI,TO,i1,i2] z (λi h=>IsZip h z TI TO .none/\IsPair h TI (.ref i1) (.ref i2)/\(∃ u v,IsPair h TO u v)/\h.IsListIter i1 a i/\h.IsListIter i2 b i) where
 mem:=by simp
 obj:=λi h st c hc=>by
  obtain ⟨hz,hTI,⟨u,v,hTO⟩,⟨o1,e1,_,g1⟩,⟨o2,e2,_,g2⟩⟩:=st
  grind
 keep:=λi h h' st kk=>by
  obtain ⟨hz,hTI,⟨u,v,hTO⟩,h1,h2⟩:=st;exact ⟨kk z (by simp) _ hz,kk TI (by simp) _ hTI,⟨u,v,kk TO (by simp) _ hTO⟩,h1.at λo e=>kk i1 (by simp) o e,h2.at λo e=>kk i2 (by simp) o e⟩
 item:=by
  intro X hP hw hK hc i pins s σ H E I hf st hg;subst hP hw hK;obtain ⟨xs,ys,x,y,hq,hq',hx,hy⟩:=hg;obtain ⟨its,rv,p,_⟩:=I.list hq;obtain ⟨jts,rv',p',_⟩:=I.list hq';obtain ⟨u,hu,ru⟩:=rv.get hx;obtain ⟨v,hv,rv2⟩:=rv'.get hy;obtain ⟨hz,hTI,⟨u0,v0,hTO⟩,h1,h2⟩:=st;have ltn:∀ {b:Addr}{o:Obj},s.heap.get? b=some o->b<s.heap.objs.size:=λe=>Heap.lt_size e;have hlz:=ltn hz;have hlTI:=ltn hTI;have hlTO:=ltn hTO;have hl1:i1<s.heap.objs.size:=by obtain ⟨_,e,_⟩:=h1;exact ltn e
  have hl2:i2<s.heap.objs.size:=by obtain ⟨_,e,_⟩:=h2;exact ltn e
  refine wpAny_pyNext_zip_item D hz hTI hTO h1 h2 p.isList p'.isList (x:=u) (y:=v) (by simpa using hu) (by simpa using hv) λh' a1 a2 a3 a4 a5 a6 kk=>?_;refine ⟨_,rfl,?_⟩;refine wpAny_letOwnedTupleGo_zip a1 λg hz' sb=>?_;have I2:Inv X pins σ (upd H s.heap.objs.size (.tup [x,y])) { s with heap:=g }:=I.turnedLay (t':=s.toks) (wr:=[z,TI,TO,i1,i2]) hf (λc o hcm ec=>by
    have n1:c≠z:=λq=>hcm (by simp [q]);exact (sb.2 c n1).trans (kk c o n1 (λq=>hcm (by simp [q])) (λq=>hcm (by simp [q])) (λq=>hcm (by simp [q])) ec)) (Nat.le_refl _) ⟨by show 2<=sizeLine;decide,[u,v],.cons ru (.cons rv2 .nil),⟨_,((sb.2 _ (Nat.ne_of_gt hlz)).trans a5),rfl,_,rfl⟩⟩
  refine ⟨.ref s.heap.objs.size,_,I2,rfl,⟨_,x,y,(I.hok.fresh (Nat.le_refl _)),λzs hzs=>by rwa [I.list_inj hzs hq],λzs hzs=>by rwa [I.list_inj hzs hq'],rfl,rfl⟩,⟨hz',?_,⟨u,v,?_⟩,?_,?_⟩,λc hcm=>?_⟩
  ·exact (sb.2 _ D.TIz).trans (kk _ _ D.TIz D.TITO D.TIi1 D.TIi2 hTI)
  ·exact (sb.2 _ D.TOz).trans a2
  ·exact a3.at λo e=>(sb.2 _ D.i1z).trans e
  ·exact a4.at λo e=>(sb.2 _ D.i2z).trans e
  ·have hb':c≠s.heap.objs.size:=by
    grind
   rw [upd_ne hb'];exact (hf c hcm).1
 done:=by
  intro X hP hw hK hc i pins s σ H E I hf st hg;subst hP hw hK;obtain ⟨xs,ys,hq,hq',hx⟩:=hg;obtain ⟨its,rv,p,_⟩:=I.list hq;obtain ⟨jts,rv',p',_⟩:=I.list hq';have hl:=rv.length;have hl':=rv'.length;obtain ⟨hz,hTI,⟨u0,v0,hTO⟩,h1,h2⟩:=st;refine wpAny_pyNext_zip_end (I.ok.hd hc) D hz hTI hTO h1 h2 p.isList p'.isList ?_ λh' kk=>⟨rfl,I.turnedL (t':=s.toks) (wr:=[z,TI,TO,i1,i2]) hf λc o hcm e=>kk c o (λq=>hcm (by simp [q])) (λq=>hcm (by simp [q])) (λq=>hcm (by simp [q])) (λq=>hcm (by simp [q])) e⟩
  simp_all
 self:=λ_ _ _ _ _ st h=>wpAny_pyIter_zip st.1 h
section
variable {X:Cx}
def iZip (K:PySem.W.Frag) (ta:TA):TI:=λσ H R=>ta σ H λvs H1=>∃ a b,vs=[.ref a,.ref b]/\(∃ xs,SqL K H1 a xs)/\(∃ ys,SqL K H1 b ys)/\R (Itz K a b) H1
theorem pi_zip {elts:List Expr}{k:Nat}{tpos:Pos}{a b:Expr}{ta:TA}{p pos:Pos} (hg:Gl X "zip") (hm:X.mg "zip" = none) (ha:PA X [a,b] ta) (hs:starEach [a,b] X.env=(false,eval a X.env)::starEach [b] X.env:=by rfl) (hpl:(backTo pos (starEach [b] X.env)).any (·.1)=false:=by rfl):PI X (.Tuple elts k tpos) (.Call (.Name "zip" p) [a,b] [] pos) (iZip X.K ta):=by
 intro pins s σ H R I h;refine Call_ (ld_blt I hg hm boot_zip (PyProof.Rows.callWith_type1 (thn (ha pos pins s σ H _ I h) λus s1 ⟨vs,H1,I1,r1,q1⟩=>?_) hs hpl));obtain ⟨a,b,e,⟨xs,hq⟩,⟨ys,hq'⟩,q⟩:=q1;subst e;obtain ⟨u1,u2,rfl,r1,r2⟩:=vals2 r1;cases r1;cases r2;obtain ⟨its,rv,pl,_⟩:=I1.list hq;obtain ⟨jts,rv',pl',_⟩:=I1.list hq';have la : @LT.lt Nat _ a s1.heap.objs.size:=by obtain ⟨_,e,_⟩:=pl.isList;exact Heap.lt_size e
 have lb : @LT.lt Nat _ b s1.heap.objs.size:=by obtain ⟨_,e,_⟩:=pl'.isList;exact Heap.lt_size e
 refine call_zip_2 pl.isList pl'.isList λh' hz hTI hTO h1 h2 hsz hk=>wpAny_pyIter_zip hz ?_;refine ⟨s1.heap.objs.size+4,[s1.heap.objs.size+4,s1.heap.objs.size+2,s1.heap.objs.size+3,s1.heap.objs.size,s1.heap.objs.size+1],_,_,H1,rfl,I1.kept (t':=s1.toks) hk,turn_zip a b _ _ _ _ _ (by constructor <;> (show ((_:Nat)≠_)) <;> lia),⟨hz,hTI,⟨_,_,hTO⟩,h1,h2⟩,λc hc=>?_,q⟩;have hb':s1.heap.objs.size<=c:=by
  grind
 exact I1.fpOk hb' (I1.hok.fresh hb')
end
end L2
namespace L2
open PySem PySem.Spec PyProof.Rows
section
variable {K:PySem.W.Frag}{g:TG}{tt:TT}{te:TE}{D:Addr}{Q:VK}{σ:St}{H:Hp}
theorem for_zip {a b:Addr}{xs ys:List V}{tb:TS}{D:Ends} (Pv:Nat->St->Hp->Prop) (h0:Pv 0 σ H) (hl:∀ i σ H,Pv i σ H->SqL K H a xs/\SqL K H b ys)
  (hs:∀ i x y σ H p,xs[i]? = some x->ys[i]? = some y->Pv i σ H->H p=none->g (.ref p) σ (upd H p (.tup [x,y])) λσ2 H2=>tb { D with nx:=Pv (i+1),ct:=Pv (i+1),bk:=D.nx } σ2 H2) (hd:∀ σ H,Pv (min xs.length ys.length) σ H->D.nx σ H) :
  ∃ W:Nat->Nat->St->Hp->Prop,(∃ m,W 0 m σ H)/\∀ i m σ H,W i m σ H ->
   ((Itz K a b).stop i H/\D.nx σ H)\/((Itz K a b).go i H/\∃ N:St->Hp->Prop,(∀ σ' H',N σ' H'->∃ m',m' < m/\W (i+1) m' σ' H')/\∀ x H',(Itz K a b).yld i H x H'->g x σ H' λσ2 H2=>tb { D with nx:=N,ct:=N,bk:=D.nx } σ2 H2):=by
 refine ⟨λi m σ H=>m=min xs.length ys.length - i/\i<=min xs.length ys.length/\Pv i σ H,⟨_,rfl,Nat.zero_le _,h0⟩,?_⟩;rintro i m σ H ⟨rfl,hi,p⟩;obtain ⟨h1,h2⟩:=hl i σ H p;by_cases hlt:i<min xs.length ys.length
 ·have h3:i<xs.length:=by lia
  refine .inr ⟨⟨xs,ys,xs[i],ys[i],h1,h2,by simp [h3],by simp⟩,Pv (i+1),λσ' H' p'=>⟨min xs.length ys.length - (i+1),by lia,rfl,hlt,p'⟩,λx H' y=>?_⟩;obtain ⟨q,u,v,hq,hu,hv,e,e'⟩:=y
  grind
 ·have e:i=min xs.length ys.length:=by lia
  subst e;exact .inl ⟨⟨xs,ys,h1,h2,by lia⟩,hd σ H p⟩
end
section
variable {X:Cx}
def rStripC:V->List V->Hp->VK->Prop:=λx vs H Q=>∃ z y,x = .str z/\vs=[.str y]/\z.length<=sizeLine/\Q (.str (Txt.stripChars z y)) H
theorem mt_stripC:MtR X "str.strip" rStripC:=by
 intro pins s σ H x vs v us Q I rx rv h;obtain ⟨z,y,rfl,rfl,hz,q⟩:=h;obtain ⟨t,rfl⟩:=rx;obtain ⟨u,rfl,t',rfl⟩:=rv.one;exact SC.stripChars (λt' k=>⟨.str _,H,I.tok _,⟨_,rfl⟩,q⟩) hz
def rRmPre:V->List V->Hp->VK->Prop:=λx vs H Q=>∃ z y,x = .str z/\vs=[.str y]/\z.length<=sizeLine/\Q (.str (Txt.removeprefix z y)) H
theorem mt_rmpre:MtR X "str.removeprefix" rRmPre:=by
 intro pins s σ H x vs v us Q I rx rv h;obtain ⟨z,y,rfl,rfl,hz,q⟩:=h;obtain ⟨t,rfl⟩:=rx;obtain ⟨u,rfl,t',rfl⟩:=rv.one;exact SC.removeprefix (λt' k=>⟨.str _,H,I.tok _,⟨_,rfl⟩,q⟩) hz
theorem vals_bools:∀ {bs:List Bool}{us:List Value},Vals (bs.map V.bl) us->us=bs.map Value.bool
 | [],_,h=>by cases h;rfl
 | b::r,_,h=>by
  cases h with
  | cons h1 t=>
   obtain rfl:=h1;rw [vals_bools t];rfl
theorem range_all (bs:List Bool):(List.range bs.length).all (λi=>bs.getD i true)=bs.all id:=by
 (rw [Bool.eq_iff_iff,List.all_eq_true,List.all_eq_true])
 constructor
 ·intro h x hx;obtain ⟨i,hi,rfl⟩:=List.mem_iff_getElem.mp hx
  simp_all
 ·grind [List.getElem_mem,List.getD,List.getElem?_eq_getElem]
theorem range_any (bs:List Bool):(List.range bs.length).any (λi=>bs.getD i true)=bs.any id:=by
 (rw [Bool.eq_iff_iff,List.any_eq_true,List.any_eq_true])
 constructor
 ·grind [List.getElem_mem,List.getD,List.getElem?_eq_getElem]
 ·rintro ⟨x,hx,h⟩;obtain ⟨i,hi,rfl⟩:=List.mem_iff_getElem.mp hx;exact ⟨i,List.mem_range.mpr hi,by simp_all⟩
def rAll (K:PySem.W.Frag):List V->Hp->VK->Prop:=λxs H Q=>∃ (p:Addr) (bs:List Bool),xs=[.ref p]/\SqL K H p (bs.map V.bl)/\Q (.bl (bs.all id)) H
def rAny (K:PySem.W.Frag):List V->Hp->VK->Prop:=λxs H Q=>∃ (p:Addr) (bs:List Bool),xs=[.ref p]/\SqL K H p (bs.map V.bl)/\Q (.bl (bs.any id)) H
theorem truth_bools {P:Program}{w:World}{A:Around} (bs:List Bool):TruthOf P w A (λi v=>(bs.map Value.bool).toArray[i]? = some v) (λi=>bs.getD i true):=by
 intro i v s Q E hv hq
 grind [List.getElem?_map,wpAny_truthy_bool,List.getD]
theorem call_all (hc:X.calm=true):CallR X (.builtin "all") (rAll X.K):=by
 intro pins s σ H xs us Q I r h;obtain ⟨p,bs,rfl,hq,q⟩:=h;obtain ⟨u,rfl,rx⟩:=vals1 r;cases rx;obtain ⟨its,r',pl,hz⟩:=I.list hq;have e:=vals_bools r';subst e;refine call_all_walk (wpAny_pyIter_list pl.isList ?_);refine ⟨s.heap.objs.size,_,_,_,_,_,_,rfl,Walks.list (A:=X.A.in1) (show X.A.in1.handled=none from I.ok.hd hc) s.heap.objs.size p (by obtain ⟨_,e,_⟩:=pl.isList;exact Nat.ne_of_lt (Heap.lt_size e)) (bs.map Value.bool).toArray,⟨⟨_,Heap.get?_push_size _ rfl,rfl,rfl⟩,pl.isList.push _⟩,truth_bools bs,λh' tk hk=>?_⟩;have hs:(bs.map Value.bool).toArray.size=bs.length:=by simp
 rw [hs,range_all];refine ⟨.bl _,H,I.kept (t':=tk) λb o e=>hk b o (λhb=>?_) (Heap.get?_push_of_some _ e),rfl,q⟩;simp only [List.mem_singleton] at hb;exact absurd (Heap.lt_size e) (by lia)
theorem call_any (hc:X.calm=true):CallR X (.builtin "any") (rAny X.K):=by
 intro pins s σ H xs us Q I r h;obtain ⟨p,bs,rfl,hq,q⟩:=h;obtain ⟨u,rfl,rx⟩:=vals1 r;cases rx;obtain ⟨its,r',pl,hz⟩:=I.list hq;have e:=vals_bools r';subst e;refine call_any_walk (wpAny_pyIter_list pl.isList ?_);refine ⟨s.heap.objs.size,_,_,_,_,_,_,rfl,Walks.list (A:=X.A.in1) (show X.A.in1.handled=none from I.ok.hd hc) s.heap.objs.size p (by obtain ⟨_,e,_⟩:=pl.isList;exact Nat.ne_of_lt (Heap.lt_size e)) (bs.map Value.bool).toArray,⟨⟨_,Heap.get?_push_size _ rfl,rfl,rfl⟩,pl.isList.push _⟩,truth_bools bs,λh' tk hk=>?_⟩;have hs:(bs.map Value.bool).toArray.size=bs.length:=by simp
 rw [hs,range_any];refine ⟨.bl _,H,I.kept (t':=tk) λb o e=>hk b o (λhb=>?_) (Heap.get?_push_of_some _ e),rfl,q⟩;simp only [List.mem_singleton] at hb;exact absurd (Heap.lt_size e) (by lia)
theorem bt_all:bootBuiltins "all" = some (.builtin "all"):=by decide +kernel
theorem bt_any:bootBuiltins "any" = some (.builtin "any"):=by decide +kernel
end
end L2
namespace L2
open PySem PySem.Spec PyProof.Rows PySem.W
def tMinK (K:PySem.W.Frag) (sp:Sp) (l:Addr) (xs:List V):List V->V->V->Hp->VK->Prop
 | [],b,_,H,Q=>SqL K H l xs/\Q b H
 | x::r,b,kb,H,Q=>SqL K H l xs/\sp [x] H (λk H'=>∃ d e,Den K H' k d/\Den K H' kb e/\cmpb d e=true/\d.depth<=100/\if ltv d e=true then tMinK K sp l xs r x k H' Q else tMinK K sp l xs r b kb H' Q) E0
section
variable {X:Cx}{pins:List (Addr×Obj)}{σ:St}{H:Hp}{s:Shared}
theorem mink_args (a v d:Value):argsOk "min" ⟨[a],[(Str.ofString "key",v),(Str.ofString "default",d)]⟩:=by unfold argsOk;kernel_rfl
def KeyOk (X:Cx) (pins:List (Addr×Obj)) (σ:St) (f:Addr) (sp:Sp):Prop:=∀ (more:List (Addr×Obj)) (H:Hp) (s:Shared) (x:V) (u:Value) (Q:VK),Inv X (pins++more) σ H s->RelV x u->sp [x] H Q E0 ->
 codeAny (model X.prog X.w) X.A.in1 (.call (.ref f) ⟨[u],[]⟩) (CR CX0 X.stack X.prog X.w H s Q E0) s
theorem mink_call {f I S:Addr}{sp:Sp}{oI oS:Obj}{x:V}{u:Value}{Q:VK} (C:KeyOk X pins σ f sp)
  (hI:∀ v,oI.data ≠ .cell v) (hS:∀ v,oS.data ≠ .cell v) (Iv:Inv X pins σ H s) (fI:FpOk X pins H I) (fS:FpOk X pins H S) (gI:s.heap.get? I=some oI) (gS:s.heap.get? S=some oS) (rx:RelV x u) (h:sp [x] H Q E0)
  {R:Value->Shared->Prop}{E:Value->Shared->Prop} (done:∀ v kv H1 s1,Inv X pins σ H1 s1->FpOk X pins H1 I->FpOk X pins H1 S->s1.heap.get? I=some oI->s1.heap.get? S=some oS->RelV v kv->Q v H1->R kv s1) :
  wpAny (model X.prog X.w) X.A.in1 (call (.ref f) [u]) R E s:=by
 have Ip:Inv X (pins++[(I,oI),(S,oS)]) σ H s:=Iv.pins_of λp hp=>by
  rcases List.mem_append.mp hp with q | q
  ·exact Iv.pin p (List.mem_append_right _ q)
  ·rcases List.mem_cons.mp q with q | q
   ·subst q;exact ⟨gI,fI.1,fI.2.1,fI.2.2.1,hI⟩
   ·have q':p=(S,oS):=by simpa using q
    subst q';exact ⟨gS,fS.1,fS.2.1,fS.2.2.1,hS⟩
 refine wpAny_call (codeAny_mono (C [(I,oI),(S,oS)] H s x u _ Ip rx h) λr s1 hq=>?_);cases r with
 | error er=>exact hq.elim
 | ok fl=>
  cases fl with
  | ret kv=>
   obtain ⟨v,H1,I1,r1,q1⟩:=Ip.after hq;have pI:=I1.pin (I,oI) (by simp);have pS:=I1.pin (S,oS) (by simp);exact done v kv H1 s1 I1.unpinned ⟨pI.2.1,fI.2⟩ ⟨pS.2.1,fS.2⟩ pI.1 pS.1 r1 q1
  | next=>exact False.elim hq
  | brk=>exact False.elim hq
  | cont=>exact False.elim hq
theorem mink_loop {k:Nat}{f I S l:Addr}{sp:Sp}{xs:List V}{kw:List (Str×Value)}{Q:VK}{R:Result->Shared->Prop} (C:KeyOk X pins σ f sp) (hr:Room (k+1) X.A) (hc:X.calm=true)
  (hlI:l≠I) (hSI:S≠I) (hR:∀ v u H' s',Inv X pins σ H' s'->RelV v u->Q v H'->R (.ok (.ret u)) s') :
  ∀ (r:List V) (j:Nat) (b kb:V) (H:Hp) (s:Shared) (ub uk:Value) (c:Nat),r=xs.drop j->j<=xs.length->Inv X pins σ H s->FpOk X pins H I->FpOk X pins H S->s.heap.get? S=some (seqObj "list" #[ub,uk] c)->s.heap.IsListIter I l j->RelV b ub->RelV kb uk->tMinK X.K sp l xs r b kb H Q ->
   codeAny (model X.prog X.w) X.A (.builtin "min.loop" ⟨[.ref I,.ref f,.ref S],kw⟩) R s:=by
 (have hname:(toString "min" ++ toString ".loop" : String) = "min.loop" :=by decide)
 intro r
 induction r with
 | nil=>
  intro j b kb H s ub uk c hr' hj Iv fI fS gS hit rb rk h;obtain ⟨hq,q⟩:=h;obtain ⟨its,rv,pl,_⟩:=Iv.list hq;have hlen:=rv.length;have hjl:=List.drop_eq_nil_iff.mp hr'.symm
  (refine codeAny_builtin PySem.F.entry_min_loop ?_)
  (rw [Around.under_plainId PySem.F.plain_min_loop _])
  (refine wpAny_bind (wpAny_seqItems gS rfl ?_))
  refine wpAny_bind (wpAny_tryCatch ((Walks.list (prog:=X.prog) (w:=X.w) (A:=X.A.in1) (show X.A.in1.handled=none from Iv.ok.hd hc) I l hlI its.toArray).done _ _ _ ⟨by rwa [List.size_toArray,show its.length=j by lia],pl.isList⟩ λh' tk' hk'=>?_));refine wpAny_bind ?_;refine wpAny_updateSeq (hk' S _ (by simpa using hSI) gS) rfl (wpAny_bind (wpAny_letGo (wpAny_pure ?_)));exact hR b ub H _ ((Iv.turnedL (wr:=[I]) (λc hc=>by simp_all) λc o hc e=>hk' c o hc e).turnedL (t':=tk') (wr:=[S]) (λc hc=>by simp_all) λc o hc e=>((Heap.SameBut.update h' S (Obj.mapSeq λ_=>(#[]:Array Value))).2 c (by simpa using hc)).trans e) rb q
 | cons x r ih=>
  intro j b kb H s ub uk c hr' hj Iv fI fS gS hit rb rk h;obtain ⟨hq,q⟩:=h;obtain ⟨its,rv,pl,_⟩:=Iv.list hq;have hlen:=rv.length;have hjl:j<xs.length:=by
   grind
  have hxj:xs[j]? = some x:=by
   rw [List.drop_eq_getElem_cons hjl] at hr'
   grind
  have hrj:r=xs.drop (j+1):=by
   grind [List.drop_eq_getElem_cons]
  (refine codeAny_builtin PySem.F.entry_min_loop ?_)
  (rw [Around.under_plainId PySem.F.plain_min_loop _])
  (refine wpAny_bind (wpAny_seqItems gS rfl ?_))
  refine wpAny_bind (wpAny_tryCatch ((Walks.list (prog:=X.prog) (w:=X.w) (A:=X.A.in1) (show X.A.in1.handled=none from Iv.ok.hd hc) I l hlI its.toArray).item j _ _ _ (by rw [List.size_toArray];lia) ⟨hit,pl.isList⟩ λv h' tk' hP hst' hk'=>?_));obtain ⟨u,hu,ru⟩:=rv.get hxj;have hv:v=u:=by
   have:its[j]? = some v:=by simpa using hP
   rw [hu] at this;cases this;rfl
  subst hv;obtain ⟨oI,eI,cI,dI⟩:=hst'.1;refine wpAny_bind (wpAny_tryCatch (wpAny_holding (mink_call C (oI:=oI) (oS:=seqObj "list" #[ub,uk] c) (λz q=>by lia) (λz q=>by cases q) (Iv.turnedL (wr:=[I]) (λc hc=>by rwa [show c=I by simpa using hc]) λc o hc e=>hk' c o hc e) fI fS eI (hk' S _ (by simpa using hSI) gS) ru q λkv uv H2 s2 I2 fI2 fS2 gI2 gS2 rkv q2=>?_)));obtain ⟨d,e,dk,de,hcmp,hdep,q3⟩:=q2;obtain ⟨as1,rd1⟩:=I2.reads dk rkv;obtain ⟨as2,rd2⟩:=I2.reads de rk;refine wpAny_bind (wpAny_tryCatch (wpAny_holding (wpAny_bind (ltAt_reads 100 d e hdep hcmp X.A.in1 s2 uv uk as1 as2 rd1 rd2 dk.lay de.lay (by show X.A.units+1+d.depth<cLine;have:=hr.un;lia) _ _ _ _ ?_))))
  (refine wpAny_bind (wpAny_holding (wpAny_truthy_bool ?_)))
  (refine wpAny_bind (wpAny_letGo (wpAny_pure ?_)))
  cases hb':ltv d e with
  | true=>
   rw [hb',if_pos rfl] at q3;have sb:=Heap.SameBut.update s2.heap S (Obj.mapSeq λ_=>#[v,uv]);obtain ⟨c2,hc2⟩:∃ c2,(s2.heap.update S (Obj.mapSeq λ_=>#[v,uv])).get? S=some (seqObj "list" #[v,uv] c2):=⟨_,get?_update_seq gS2 λ_=>#[v,uv]⟩;refine wpAny_bind ?_;refine wpAny_updateSeq gS2 rfl (wpAny_bind (wpAny_letGo ?_));rw [hname];exact wpAny_pure ⟨plainId_quiet PySem.F.plain_min_loop _,ih (j+1) x kv H2 _ v uv c2 hrj hjl (I2.turnedL (t':=s2.toks) (wr:=[S]) (λc hc=>by rwa [show c=S by simpa using hc]) λc o hc e=>(sb.2 c (by simpa using hc)).trans e) fI2 fS2 hc2 ⟨oI,(sb.2 I hSI.symm).trans gI2,cI,dI⟩ ru rkv q3⟩
  | false=>
   rw [hb',if_neg (by decide)] at q3
   (simp only [Bool.false_eq_true,if_false])
   refine wpAny_bind (wpAny_letGo ?_);rw [hname];exact wpAny_pure ⟨plainId_quiet PySem.F.plain_min_loop _,ih (j+1) b kb H2 _ ub uk c hrj hjl I2 fI2 fS2 gS2 ⟨oI,gI2,cI,dI⟩ rb rk q3⟩
def rMinK (K:PySem.W.Frag) (sp:Sp):V->Hp->VK->Prop:=λx H Q=>∃ l xs,x = .ref l/\SqL K H l xs/\match xs with
 | []=>Q .non H
 | y::r=>sp [y] H (λk H'=>tMinK K sp l xs r y k H' Q) E0
theorem min_first {k:Nat}{f Ia Sa l:Addr}{sp:Sp}{y:V}{r:List V}{kw:List (Str×Value)}{Q:VK}{R:Result->Shared->Prop} (C:KeyOk X pins σ f sp) (hr:Room (k+1) X.A) (hc:X.calm=true)
  (hlI:l≠Ia) (hSI:Sa≠Ia) (hR:∀ v u H' s',Inv X pins σ H' s'->RelV v u->Q v H'->R (.ok (.ret u)) s') (I0:Inv X pins σ H s) (fI:FpOk X pins H Ia) (fS:FpOk X pins H Sa) (gS:s.heap.get? Sa=some (seqObj "list" #[] 0)) (gI:s.heap.IsListIter Ia l 0) (hq:SqL X.K H l (y::r)) (q:sp [y] H (λk H'=>tMinK X.K sp l (y::r) r y k H' Q) E0) :
  codeAny (model X.prog X.w) X.A (.builtin "min.loop" ⟨[.ref Ia,.ref f,.ref Sa],kw⟩) R s:=by
 (have hname:(toString "min" ++ toString ".loop" : String) = "min.loop" :=by decide)
 obtain ⟨its,rv,pl,_⟩:=I0.list hq
 (refine codeAny_builtin PySem.F.entry_min_loop ?_)
 (rw [Around.under_plainId PySem.F.plain_min_loop _])
 (refine wpAny_bind (wpAny_seqItems gS rfl ?_))
 refine wpAny_bind (wpAny_tryCatch ((Walks.list (prog:=X.prog) (w:=X.w) (A:=X.A.in1) (show X.A.in1.handled=none from I0.ok.hd hc) Ia l hlI its.toArray).item 0 _ _ _ (by rw [List.size_toArray,<-rv.length];exact Nat.succ_pos _) ⟨gI,pl.isList⟩ λv h' tk' hP hst' hk'=>?_));obtain ⟨u,hu,ru⟩:=rv.get (i:=0) rfl;have hv:v=u:=by
  simp_all
 subst hv;obtain ⟨oI,eI,cI,dI⟩:=hst'.1;refine wpAny_bind (wpAny_tryCatch (wpAny_holding (mink_call C (oI:=oI) (oS:=seqObj "list" #[] 0) (λz q=>by lia) (λz q=>by cases q) (I0.turnedL (wr:=[Ia]) (λc hc=>by simp_all) λc o hc e=>hk' c o hc e) fI fS eI (hk' Sa _ (by simpa using hSI) gS) ru q λkv uv H2 s2 I2 fI2 fS2 gI2 gS2 rkv q2=>?_)));have sb:=Heap.SameBut.update s2.heap Sa (Obj.mapSeq λ_=>#[v,uv]);obtain ⟨c2,hc2⟩:∃ c2,(s2.heap.update Sa (Obj.mapSeq λ_=>#[v,uv])).get? Sa=some (seqObj "list" #[v,uv] c2):=⟨_,get?_update_seq gS2 λ_=>#[v,uv]⟩;refine wpAny_bind ?_;refine wpAny_updateSeq gS2 rfl ?_;rw [hname];exact wpAny_pure ⟨plainId_quiet PySem.F.plain_min_loop _,mink_loop (Q:=Q) C hr hc hlI hSI hR r 1 y kv H2 _ v uv c2 rfl (by simp) (I2.turnedL (t':=s2.toks) (wr:=[Sa]) (λc hc=>by simp_all) λc o hc e=>(sb.2 c (by simpa using hc)).trans e) fI2 fS2 hc2 ⟨oI,(sb.2 Ia hSI.symm).trans gI2,cI,dI⟩ ru rkv q2⟩
structure TwoLaid (X:Cx) (pins:List (Addr×Obj)) (σ:St) (H:Hp) (s:Shared) (l:Addr) (h0:Heap) (Ia Sa:Addr):Prop where
 gI:h0.get? Ia=some { cls:=.type "list_iterator",data:=.fields #[.ref l,.int 0 0] }
 gS:h0.get? Sa=some (seqObj "list" #[] 0)
 keep:∀ b o,s.heap.get? b=some o->h0.get? b=some o
 inv:Inv X pins σ H { s with heap:=h0 }
 fI:FpOk X pins H Ia
 fS:FpOk X pins H Sa
 ne:l≠Ia
 two:Sa≠Ia
theorem two_laid {l:Addr} (I:Inv X pins σ H s) (hl:l<s.heap.objs.size) :
  TwoLaid X pins σ H s l ((s.heap.push { cls:=.type "list_iterator",data:=.fields #[.ref l,.int 0 0] }).push (seqObj "list" #[] 0)) s.heap.objs.size (s.heap.push { cls:=.type "list_iterator",data:=.fields #[.ref l,.int 0 0] }).objs.size:=by
 have keep1:=λ(o:Obj) (b:Addr) (ob:Obj) (e:s.heap.get? b=some ob)=>Heap.get?_push_of_some o e;have first:=Heap.get?_push_size s.heap (o:={ cls:=.type "list_iterator",data:=.fields #[.ref l,.int 0 0] }) rfl
 have size:=size_push' s.heap { cls:=.type "list_iterator",data:=.fields #[.ref l,.int 0 0] };replace keep1:=keep1 { cls:=.type "list_iterator",data:=.fields #[.ref l,.int 0 0] };generalize s.heap.push { cls:=.type "list_iterator",data:=.fields #[.ref l,.int 0 0] }=h1 at keep1 first size
 have up:s.heap.objs.size<=h1.objs.size:=by lia
 have kp:∀ b o,s.heap.get? b=some o->(h1.push (seqObj "list" #[] 0)).get? b=some o:=λb o e=>Heap.get?_push_of_some _ (keep1 b o e);exact { gI:=Heap.get?_push_of_some _ first,gS:=Heap.get?_push_size _ rfl,keep:=kp,inv:=I.kept (t':=s.toks) kp,fI:=I.fpOk (Nat.le_refl _) (I.hok.fresh (Nat.le_refl _)),fS:=I.fpOk up (I.hok.fresh up),ne:=Nat.ne_of_lt hl,two:=by lia}
theorem call_minKC {k:Nat}{f:Addr}{sp:Sp}{x:V}{u:Value}{Q:VK} (C:KeyOk X pins σ f sp) (hr:Room (k+1) X.A) (hc:X.calm=true) (Iv:Inv X pins σ H s) (rx:RelV x u) (h:rMinK X.K sp x H Q) :
  wpAny (model X.prog X.w) X.A (call (.builtin "min") [u] [(Str.ofString "key",.ref f),(Str.ofString "default",.none)]) (EP X pins σ Q) X.xe s:=by
 (have hname:(toString "min" ++ toString ".loop" : String) = "min.loop" :=by decide)
 obtain ⟨l,xs,rfl,hq,q⟩:=h;cases rx;obtain ⟨its,rv,pl,_⟩:=Iv.list hq;refine kmk_tree PySem.F.kind_min PySem.F.plain_min PySem.F.entry_min (mink_args _ _ _) ?_;refine wpAny_bind (wpAny_of_eq (show Builtin.Builtins.bindParams "min" ["key","default"] 0 ⟨[],[(Str.ofString "key",.ref f),(Str.ofString "default",.none)]⟩=pure [some (.ref f),some .none] from rfl) ?_);refine wpAny_bind (wpAny_pure ?_);refine wpAny_bind (wpAny_pyIter_list pl.isList ?_);refine wpAny_bind (wpAny_newList ?_ (Nat.zero_le _):wpAny _ _ _ _ _ _);rw [hname];have two:=two_laid (X:=X) (l:=l) Iv (by obtain ⟨_,e,_⟩:=pl.isList;exact Heap.lt_size e);generalize (s.heap.push { cls:=.type "list_iterator",data:=.fields #[.ref l,.int 0 0] }).push (seqObj "list" #[] 0)=h0 at two ⊢;generalize (s.heap.push { cls:=.type "list_iterator",data:=.fields #[.ref l,.int 0 0] }).objs.size=Sa at two ⊢;generalize s.heap.objs.size=Ia at two ⊢;obtain ⟨gI,gS,hkp,I0,fI,fS,hlI,hSI⟩:=two
 (refine wpAny_pure ⟨plainId_quiet PySem.F.plain_min_loop _,?_⟩)
 cases xs with
 | nil=>
  (refine codeAny_builtin PySem.F.entry_min_loop ?_)
  (rw [Around.under_plainId PySem.F.plain_min_loop _])
  (refine wpAny_bind (wpAny_seqItems gS rfl ?_))
  refine wpAny_bind (wpAny_tryCatch ((Walks.list (prog:=X.prog) (w:=X.w) (A:=X.A.in1) (show X.A.in1.handled=none from Iv.ok.hd hc) Ia l hlI its.toArray).done _ _ _ ⟨⟨_,(by rw [gI]),rfl,by rw [List.size_toArray,<-rv.length];rfl⟩,(pl.isList.at λo e=>hkp l o e)⟩ λh' tk' hk'=>?_))
  (refine wpAny_bind (wpAny_rule (wpAny_pure ?_)))
  exact ⟨.non,H,(Inv.turnedL (s:={ s with heap:=h0 }) (t':=tk') (wr:=[Ia]) I0 (λc hc=>by simp_all) λc o hc e=>hk' c o hc e),rfl,q⟩
 | cons y r=>
  exact min_first (Q:=Q) C hr hc hlI hSI (λw' u' H' s' I' r' q'=>⟨w',H',I',r',q'⟩) I0 fI fS gS ⟨_,gI,rfl,rfl⟩ (hq) q
end
theorem bt_min:bootBuiltins "min" = some (.builtin "min"):=by decide +kernel
section
variable {X:Cx}
end
def leastGo:PyData->Nat->Nat->List PyData->Nat
 | _,i,_,[]=>i
 | db,i,j,d::r=>if ltv d db=true then leastGo d j (j+1) r else leastGo db i (j+1) r
def leastIx:List PyData->Nat
 | []=>0
 | d::r=>leastGo d 0 1 r
theorem leastGo_ok {S:PyData->Prop} (o:ShOk S):∀ (r:List PyData) (all:List PyData) (db:PyData) (i j:Nat),(∀ d∈all,S d)->all.drop j=r->i<j->all[i]? = some db->(∀ (m:Nat) (d:PyData),m<j->all[m]? = some d->ltv d db=false)->(∀ (m:Nat) (d:PyData),m<i->all[m]? = some d->ltv db d=true) ->
  ∃ d,all[leastGo db i j r]? = some d/\(∀ (m:Nat) (e:PyData),all[m]? = some e->ltv e d=false)/\∀ (m:Nat) (e:PyData),m<leastGo db i j r->all[m]? = some e->ltv d e=true
 | [],all,db,i,j,hS,hd,hij,hi,h1,h2=>by
  exact ⟨db,hi,λm e he=>h1 m e (Nat.lt_of_lt_of_le (ge_len he) (List.drop_eq_nil_iff.mp hd)) he,h2⟩
 | d::r,all,db,i,j,hS,hd,hij,hi,h1,h2=>by
  have hjl:j<all.length:=by
   grind [Nat.lt_or_ge,List.drop_of_length_le]
  have hc:=List.drop_eq_getElem_cons hjl;rw [hd] at hc;injection hc with e1 e2;have hdj:all[j]? = some d:=by simp_all
  have sd:=hS d (List.mem_of_getElem? hdj);unfold leastGo;by_cases hlt:ltv d db=true
  ·rw [if_pos hlt];have hall:∀ m e,m<j->all[m]? = some e->ltv d e=true:=λm e hm he=>by
    rcases o.neg sd (hS e (List.mem_of_getElem? he)) (hS db (List.mem_of_getElem? hi)) hlt with z | z
    ·exact z
    ·grind
   refine leastGo_ok o r all d j (j+1) hS e2.symm (Nat.lt_succ_self _) hdj (λm e hm he=>?_) hall;rcases Nat.lt_or_ge m j with z | z
   ·exact o.asymm sd (hS e (List.mem_of_getElem? he)) (hall m e z he)
   ·have:m=j:=by lia
    subst this;rw [hdj] at he;cases he;exact o.irr d sd
  ·rw [if_neg hlt];refine leastGo_ok o r all db i (j+1) hS e2.symm (Nat.lt_succ_of_lt hij) hi (λm e hm he=>?_) h2
   grind
theorem leastIx_ok {S:PyData->Prop} (o:ShOk S) {all:List PyData} (hS:∀ d∈all,S d) (hne:all≠[]) :
  ∃ d,all[leastIx all]? = some d/\(∀ (m:Nat) (e:PyData),all[m]? = some e->ltv e d=false)/\∀ (m:Nat) (e:PyData),m<leastIx all->all[m]? = some e->ltv d e=true:=by
 cases all with
 | nil=>exact (hne rfl).elim
 | cons d r=>
  refine leastGo_ok o r (d::r) d 0 1 hS rfl Nat.zero_lt_one rfl (λm e hm he=>?_) (λm e hm he=>absurd hm (Nat.not_lt_zero _));have:m=0:=by lia
  subst this;cases he;exact o.irr d (hS d (List.mem_cons_self ..))
theorem tmin_all {K:PySem.W.Frag}{sp:Sp}{Q:VK}{H0:Hp}{l:Addr}{xs:List V}{S:PyData->Prop} (o:ShOk S) (hq:SqL K H0 l xs):∀ (r:List V) (kr:List PyData) (i j:Nat) (b kb:V) (db:PyData) (H:Hp),r.length=kr.length->Same H0 H->Den K H kb db->S db->(∀ d∈kr,S d/\d.depth<=100)->xs.drop j=r->xs[i]? = some b ->
  (∀ (m:Nat) (x:V) (d:PyData) (H:Hp) (Q:VK),r[m]? = some x->kr[m]? = some d->Same H0 H->(∀ k H',Same H H'->Den K H' k d->Q k H')->sp [x] H Q E0)->(∀ H',Same H0 H'->Q (xs.getD (leastGo db i j kr) .non) H')->tMinK K sp l xs r b kb H Q:=by
 intro r
 induction r with
 | nil=>
  intro kr i j b kb db H hl s dk sb hS hdr hi hsp hQ;cases kr with
  | nil=>exact ⟨s.seq hq,by grind [leastGo,List.getD]⟩
  | cons d kr=>cases hl
 | cons x r ih=>
  intro kr i j b kb db H hl s dk sb hS hdr hi hsp hQ;cases kr with
  | nil=>cases hl
  | cons d kr=>
   have hjl:j<xs.length:=by
    grind
   have hc:=List.drop_eq_getElem_cons hjl;rw [hdr] at hc;injection hc with e1 e2;have sd:=hS d (List.mem_cons_self ..);refine ⟨s.seq hq,hsp 0 x d H _ rfl rfl s λk H' s' dk'=>⟨d,db,dk',dk.same s',o.cmp d db sd.1 sb,sd.2,?_⟩⟩;have hS':∀ e∈kr,S e/\e.depth<=100:=λe he=>hS e (List.mem_cons_of_mem _ he);by_cases hlt:ltv d db=true
   ·rw [if_pos hlt];refine ih kr j (j+1) x k d H' (by simpa using hl) (s.trans s') dk' sd.1 hS' e2.symm (by rw [List.getElem?_eq_getElem hjl,e1]) (λm y e H2 Q2 h1 h2=>hsp (m+1) y e H2 Q2 (by simpa using h1) (by simpa using h2)) λH2 h2=>?_;have:=hQ H2 h2;unfold leastGo at this
    rwa [if_pos hlt] at this
   ·rw [if_neg hlt];refine ih kr i (j+1) b kb db H' (by simpa using hl) (s.trans s') (dk.same s') sb hS' e2.symm hi (λm y e H2 Q2 h1 h2=>hsp (m+1) y e H2 Q2 (by simpa using h1) (by simpa using h2)) λH2 h2=>?_;have:=hQ H2 h2;unfold leastGo at this
    rwa [if_neg hlt] at this
theorem rmin_data {K:PySem.W.Frag}{sp:Sp}{Q:VK}{H:Hp}{l:Addr}{xs:List V}{kds:List PyData}{S:PyData->Prop} (o:ShOk S) (hq:SqL K H l xs) (hl:xs.length=kds.length) (hS:∀ d∈kds,S d/\d.depth<=100)
  (hsp:∀ (m:Nat) (x:V) (d:PyData) (H2:Hp) (Q:VK),xs[m]? = some x->kds[m]? = some d->Same H H2->(∀ k H',Same H2 H'->Den K H' k d->Q k H')->sp [x] H2 Q E0) (h0:xs=[]->Q .non H) (hQ:xs≠[]->∀ H',Same H H'->Q (xs.getD (leastIx kds) .non) H'):rMinK K sp (.ref l) H Q:=by
 refine ⟨l,xs,rfl,hq,?_⟩;cases xs with
 | nil=>exact h0 rfl
 | cons x r=>
  cases kds with
  | nil=>cases hl
  | cons d kr=>
   refine hsp 0 x d H _ rfl rfl (Same.refl _) λk H' s' dk=>?_;refine tmin_all o hq r kr 0 1 x k d H' (by simpa using hl) s' dk (hS d (List.mem_cons_self ..)).1 (λe he=>hS e (List.mem_cons_of_mem _ he)) rfl rfl (λm y e H2 Q2 h1 h2=>hsp (m+1) y e H2 Q2 (by simpa using h1) (by simpa using h2)) λH2 h2=>?_;exact hQ (by lia) H2 h2
end L2
namespace L2
open PySem PySem.Spec PyProof.Rows
section
variable {X:Cx}
def rLenS (K:PySem.W.Frag):List V->Hp->VK->Prop:=λxs H Q=>∃ p ys,xs=[.ref p]/\(SqL K H p ys\/SqT K H p ys)/\Q (.int ys.length) H
theorem call_lenS:CallR X (.builtin "len") (rLenS X.K):=call_len_seq
theorem bt_isinstance:bootBuiltins "isinstance" = some (.builtin "isinstance"):=by decide +kernel
theorem bt_str:bootBuiltins "str" = some (.type "str"):=by decide +kernel
end
theorem pe_bmK {X:Cx}{K:PySem.W.Frag}{o e:Expr}{es:List Expr}{to:TE}{t:TA}{name:Str}{apos cpos:Pos}{T id:String}{r:V->List V->Hp->VK->Prop} (eK:X.K=K) (pa:PlainAttrs T) (slot:Slot T name id) (hty:typeOf (.builtin id)=pure (.type "method_descriptor")) (hm:MtR X id r) (ho:PE X o to) (ha:PA X (e::es) t)
  (hbase:attributeBase o name X.env (eval o X.env)=eval o X.env:=by rfl)
  (hfew:((backTo cpos (starEach (e::es) X.env)).all (λx=>!x.1) && (backToKw cpos (keywordEach [] X.env)).all (λx=>x.1.isSome)
   && decide ((e::es).length+([]:List Keyword).length+(if ([]:List Keyword).isEmpty then 0 else 1)<30))=true:=by rfl)
  (hline:(apos.endLine == cpos.line)=true:=by rfl) (hs:starEach (e::es) X.env=(false,eval e X.env)::starEach es X.env:=by rfl) (hplain:(backTo cpos (starEach es X.env)).any (·.1)=false:=by rfl) :
  PE X (.Call (.Attribute o name apos) (e::es) [] cpos) (tBM K T r to t):=by
 subst eK;exact pe_bm pa slot hty hm ho ha hbase hfew hline hs hplain
def relS (sc osc:Scope):Scope:={ sc with names:=sc.names.map λ(n,k)=>if (k == .free && osc.kind == .function && osc.names.lookup n == some .cell) then (n,.cell) else (n,k) }
theorem cscopeN {X0:Cx}{sc sc':Scope}{N0 N':List Str}{n:Nat}{fi:List Nat}{s:Shared}{H:Hp}{fp:List Addr} (osc:Scope) (h:cscB sc (relS sc' osc) N0 N' n fi=true) (e:X0.env.scope=osc:=by rfl):CScope (compCx X0 sc' N0 s H fp) sc N' n fi:=by
 subst e;exact cscope (relS sc' X0.env.scope) N0 h rfl rfl
theorem SqT.limL {K:PySem.W.Frag}{H0 H4 H':Hp}{a:Addr}{xs:List V} (ll:LL H0 H4) (s:Same H4 H') (h:SqT K H4 a xs):SqT K (L2.lim H0 H') a xs:=by
 have no:∀ o:HO,H4 a=some o->(∀ zs,o ≠ .lst zs)->∀ zs,H0 a≠some (.lst zs):=λo ho hn zs e=>by
  obtain ⟨z2,q⟩:=ll a zs e;rw [ho] at q;cases q;exact hn z2 rfl
 rcases h with (h | ⟨o,h⟩) | h
 ·exact .inl (.inl (by rw [lim_at (no _ h λzs z=>by cases z)];exact s _ _ h))
 ·exact .inl (.inr ⟨o,by rw [lim_at (no _ h λzs z=>by cases z)];exact s _ _ h⟩)
 ·exact .inr h
end L2
namespace L2
open PySem PySem.Spec PyProof.Rows
section
variable {X:Cx}
theorem getD_mem {ns:List Int}{i:Nat} (h:i<ns.length):ns.getD i 0∈ns:=by simp [List.getD,List.getElem?_eq_getElem h]
end
end L2
namespace L2
open PySem PySem.Spec PyProof.Rows
section
open PySem.SeqAt
open PySem.AutoSeq1 (wpAny_loadPart')
open PySem.MeetsSeq PySem.MeetsSeq2 PySem.MeetsSeq3
end
section
open PySem.SeqAt
open PySem.MeetsSeq PySem.MeetsSeq2 PySem.MeetsSeq3
variable {X:Cx}
end
end L2
namespace L2
open PySem PySem.Spec PyProof.Rows
section
variable {X:Cx}
end
end L2
namespace L2
open PySem PySem.Spec PyProof.Rows PySem.MeetsSeq PySem.MeetsSeq2 PySem.MeetsSeq3
section
variable {X:Cx}
def rCatS (K:PySem.W.Frag):R2:=λx y H Q=>∃ l b xs zs,x = .ref l/\y = .ref b/\SqL K H l xs/\SqL K H b zs/\xs.length+zs.length<=sizeLine/\∀ p,H p=none->Q (.ref p) (upd H p (.lst (xs++zs)))
theorem op_catS:OpR X (binaryOp .Add) (rCatS X.K):=by
 intro pins s σ H x y v u Q I rx ry h;obtain ⟨l,b,xs,zs,rfl,rfl,hl,hb,hz,q⟩:=h;cases rx;cases ry;obtain ⟨its,r,pl,h1⟩:=I.list hl;obtain ⟨jts,r2,pl2,h2⟩:=I.list hb;have l1:=r.length;have l2:=r2.length;obtain ⟨⟨cls,dd,data,sl⟩,n,ho,hc,_,hd⟩:=pl;obtain ⟨⟨cls2,dd2,data2,sl2⟩,n2,ho2,hc2,_,hd2⟩:=pl2;subst hc hd hc2 hd2;have ea:its.toArray++jts.toArray=(its++jts).toArray:=by simp
 refine concat_meets ⟨_,ho,rfl⟩ ⟨_,ho2,rfl⟩ noFill_list_add seq_list_add PySem.F.slot_list_add PySem.F.entry_list_add (PySem.F.args_list_add_2 _ _) (list_addW l b its.toArray jts.toArray n n2 dd dd2 sl sl2 (by simp;lia)) ⟨ho,ho2,?_⟩;rw [ea];exact ⟨.ref _,_,I.lnew (t':=s.toks) (r.append r2) (by rw [List.length_append];lia),rfl,q _ I.fresh⟩
end
end L2
namespace L2
open PySem PySem.Spec PyProof.Rows
section
variable {prog:Program}{w:World}{A:Around}{E:Value->Shared->Prop}{s:Shared}
end
section
variable {X:Cx}{tg:Expr}
end
end L2
namespace L2
open PySem PySem.Spec PyProof.Rows
section
variable {X:Cx}{elt tg iter tg2 iter2:Expr}{ifs ifs2:List Expr}{scope:Scope}{pos:Pos}
end
end L2
namespace L2
open PySem PySem.Spec PyProof.Rows PySem.W
section
variable {X:Cx}{pins:List (Addr×Obj)}{σ:St}{H:Hp}{s:Shared}
end
section
variable {X:Cx}
end
end L2
namespace L2
open PySem PySem.Spec PyProof.Rows
section
variable {fs:List Addr}{g h h1 h2 h':Heap}{e T:Addr}{cls tb fl:Value}
end
section
variable {M:Model}{A:Around}{E:Value->Shared->Prop}{s:Shared}{base g:Heap}{env:Env}{outer:List Env}{L e:Addr}{cls tb:Value}{Q:Unit->Shared->Prop}
end
end L2
namespace L2
open PySem PySem.Spec PyProof.Rows
section
variable {P:Program}{w:World}{H H':Hp}{g h:Heap}{e C a:Addr}{o:HO}{tb:Value}{fs:List Addr}
end
section
variable {X:Cx}{E:XK}{C:Addr}{x:Str}{np cpos pos:Pos}{a:Expr}{ta:TA}{bmB:List Value}
end
end L2
namespace L2
open PySem PySem.Spec PyProof.Rows
section
variable {X:Cx}{pins:List (Addr×Obj)}{σ:St}{H H':Hp}{s s':Shared}
end
section
variable {X:Cx}{CX:CXT}{k:Nat}{f:Addr}{fd:FuncData}{ps:List Str}{sp:Sp}{E:St->XK}{x:Str}{p pos:Pos}{e:Expr}{es:List Expr}{t:TA}
end
def mroIn (K:PySem.W.Frag) (C D:Addr):Bool:=match K.lookup C with
 | some ⟨_,_,.cls cd,_⟩=>cd.mro.contains (.ref D)
 | _=>false
section
variable {X:Cx}{D:Addr}{i:Nat}{n x:Str}{ts:Addr->Addr->TS}
end
end L2
namespace L2
open PySem PySem.Spec PyProof.Rows
def Handled (A:Around) (h:Heap) (ea:Addr):Prop:=A.handled=some (.ref ea)/\∃ oe vs,h.get? ea=some oe/\oe.data = .fields vs/\vs[2]? = some Value.none
section
variable {prog:Program}{w:World}{A:Around}{E:Value->Shared->Prop}{s:Shared}{ea:Addr}
end
end L2
namespace L2
open PySem PySem.Spec PyProof.Rows
def Hd (X:Cx) (ea:Addr):Prop:=∀ pins σ H s,Inv X pins σ H s->Handled X.A s.heap ea/\H ea=none
structure TurnH (ea:Addr) (P:Program) (w:World) (K:PySem.W.Frag) (tg:Expr) (J:It) (fp:List Addr) (it:Addr) (tn:Nat->Heap->Prop):Prop where
 mem:it∈fp
 obj:∀ i h,tn i h->∀ b∈fp,∃ o,h.get? b=some o/\∀ v,o.data ≠ .cell v
 keep:∀ i h h',tn i h->(∀ b∈fp,∀ o,h.get? b=some o->h'.get? b=some o)->tn i h'
 item:∀ (X:Cx),X.prog=P->X.w=w->X.K=K->Hd X ea->∀ (i:Nat) (pins:List (Addr×Obj)) (s:Shared) (σ:St) (H:Hp) (E:Value->Shared->Prop),Inv X pins σ H s->(∀ b∈fp,FpOk X pins H b)->tn i s.heap->J.go i H ->
  wpAny (model P w) X.A (pyNext (.ref it)) (λr s1=>∃ u,r=some u /\
   wpAny (model P w) X.A (letOwnedTupleGo tg (.ref it) u) (λ_ s2=>∃ x H',Inv X pins σ H' s2/\RelV x u/\J.yld i H x H'/\tn (i+1) s2.heap/\∀ b∈fp,H' b=none) E s1) E s
 done:∀ (X:Cx),X.prog=P->X.w=w->X.K=K->Hd X ea->∀ (i:Nat) (pins:List (Addr×Obj)) (s:Shared) (σ:St) (H:Hp) (E:Value->Shared->Prop),Inv X pins σ H s->(∀ b∈fp,FpOk X pins H b)->tn i s.heap->J.stop i H ->
  wpAny (model P w) X.A (pyNext (.ref it)) (λr s1=>r=none/\Inv X pins σ H s1) E s
 self:∀ (A:Around) (i:Nat) (s:Shared) (Q:Value->Shared->Prop) (E:Value->Shared->Prop),tn i s.heap->Q (.ref it) s->wpAny (model P w) A (pyIter (.ref it)) Q E s
section
variable {X:Cx}
end
section
variable {X:Cx}{elt tg iter:Expr}{ifs:List Expr}{scope:Scope}{pos:Pos}
end
section
variable {X:Cx}{pos:Pos}
end
end L2
namespace L2
open PySem PySem.Spec PyProof.Rows
structure ExcK (K:PySem.W.Frag) (C:Addr):Prop where
 ga:PySem.W.findIn K (.ref C) "__getattribute__" = some (some (.builtin "BaseException.__getattribute__"))
 nh:PySem.W.findIn K (.ref C) "__getattr__" = some none
 fo:PySem.W.findObj K C none "__class__" = some (.bind (.builtin "getset_descriptor.__get__") (.builtin "object.__class__"))
 mo:PySem.W.mroIn K C (.type "object")=some true
 mb:PySem.W.mroIn K C (.type "BaseException")=some true
 is:(PySem.W.clsIn K C).isSome=true
section
variable {prog:Program}{w:World}{A:Around}{E:Value->Shared->Prop}{s:Shared}{K:PySem.W.Frag}{x C:Addr}{ox:Obj}
end
section
variable {X:Cx}{ea C:Addr}{oe:Obj}{vs:Array Value}
end
end L2
namespace L2
open PySem PySem.Spec PyProof.Rows
section
variable {P:Program}{w:World}{K:PySem.W.Frag}{mg:Str->Option Value}{base:Heap}
end
structure RoomH (k:Nat) (A:Around):Prop where
 dp:A.depth+3 * k+5<recursionLimit
 un:A.units+16 * k+200<cLine
 gd:A.guards=some []
structure FnOkH (P:Program) (w:World) (K:PySem.W.Frag) (mg:Str->Option Value) (base:Heap) (CX:CXT) (k:Nat) (f:Addr) (fd:FuncData) (ps:List Str) (sp:Addr->Addr->Sp):Prop where
 len:∀ ea C vs H Q E,sp ea C vs H Q E->vs.length=ps.length
 run:∀ (ea C:Addr) (oe:Obj) (vv:Array Value) (A:Around) (outer:List Env) (s:Shared) (H:Hp) (args:Args) (us:List Value) (vs:List V) (Q:VK) (E:XK),RoomH k A->A.handled=some (.ref ea)->s.heap.get? ea=some oe->H ea=none->ea∉frs outer ->
  oe.cls = .ref C->oe.dict=none->oe.data = .fields vv->vv[2]? = some .none->Env0 P w K mg base A outer s H->BindsTo s fd args (ps.zip us)->Vals vs us->sp ea C vs H Q E ->
  codeAny (model P w) A (.call (.ref f) args) (CR CX outer P w H s Q E) s
section
variable {P:Program}{w:World}{K:PySem.W.Frag}{mg:Str->Option Value}{base:Heap}
end
section
variable {X:Cx}{k:Nat}{f ea C:Addr}{oe:Obj}{vv:Array Value}{fd:FuncData}{ps:List Str}{sp:Addr->Addr->Sp}{x:Str}{p pos:Pos}{e:Expr}{es:List Expr}{t:TA}
end
section
variable {K:PySem.W.Frag}{g:TG}{tt:TT}{te:TE}{D:Addr}{Q:VK}{σ:St}{H:Hp}
end
end L2
namespace L2
open PySem PySem.Spec PyProof.Rows PySem.W
abbrev lenv (X:Cx) (qual:Str) (scope:Scope) (q:Addr) (cd:Value) (L:Addr):Env:=envX qual scope L q cd (clos X.env.cells scope.names [])
def lamCx (X:Cx) (N':List Str) (qual:Str) (scope:Scope) (q:Addr) (cd:Value) (s:Shared) (H:Hp):Cx where
 prog:=X.prog
 w:=X.w
 K:=X.K
 mg:=X.mg
 base:=X.base
 A:=X.A.in1.deeper (lenv X qual scope q cd s.heap.objs.size)
 N:=N'
 s₀:=s
 H₀:=H
 env:=lenv X qual scope q cd s.heap.objs.size
 outer:=X.stack
 stack:=lenv X qual scope q cd s.heap.objs.size::X.stack
 ex:=[]
 calm:=true
 fn:=λ_=>false
 pn:=[]
 xe:=λ_ _=>False
structure LScope (X:Cx) (scope:Scope) (N':List Str) (y:Str) (fi:List Nat):Prop where
 kind:scope.kind = .function
 co:scope.isCoroutine=false
 gen:scope.isGenerator=false
 nocell:∀ x∈scope.names,x.2 ≠ .cell
 par:scope.names.lookup y=some .local
 free:∀ z∈scope.names,z.2 = .free->X.env.kindOf z.1=some .cell\/X.env.kindOf z.1=some .free
 hd:N'[0]? = some y
 len:N'.length=fi.length+1
 at':∀ (j:Nat) (k:Nat),fi[j]? = some k->∃ x,N'[j+1]? = some x/\X.N[k]? = some x/\scope.names.lookup x=some .free
def lsub (v:V) (fi:List Nat) (σ:St):St:=some v::fi.map λk=>(σ[k]?).join
theorem lookup_free {x:Str}:∀ {l:List (Str×NameKind)},l.lookup x=some .free->(x,NameKind.free)∈l
 | [],e=>by cases e
 | (n',q)::r,e=>by
  rw [List.lookup_cons] at e;cases hb:x == n' with
  | true=>rw [hb] at e;cases e;rw [beq_iff_eq.mp hb];exact List.mem_cons_self
  | false=>rw [hb] at e;exact List.mem_cons_of_mem _ (lookup_free e)
section
variable {X:Cx}{pins:List (Addr×Obj)}{σ:St}{H:Hp}{s:Shared}{scope:Scope}{N':List Str}{y:Str}{fi:List Nat}{h':Heap}{qual:Str}{q:Addr}{cd:Value}{v:V}{u:Value}{tk:Tok}
theorem inv_lam (I:Inv X pins σ H s) (hc:X.calm=true) (S:LScope X scope N' y fi) (rv:RelV v u) (hns:h'.Ns s.heap.objs.size (λx=>[(y,u)].reverse.lookup x)) (hk:∀ b o,s.heap.get? b=some o->h'.get? b=some o) :
  Inv (lamCx X N' qual scope q cd s H) [] (lsub v fi σ) H { s with heap:=h',toks:=tk }:=by
 have e0:=I.env0.in1;have sub:∀ {x:Str}{c:Addr},(clos X.env.cells scope.names []).lookup x=some c->X.env.cells.lookup x=some c:=λ{x c} h=>clos_sub _ _ (λ_ _ z=>by cases z) h;have has:∀ {x:Str},(x,NameKind.free)∈scope.names->∃ d,(clos X.env.cells scope.names []).lookup x=some d:=λ{x} hm=>clos_has _ _ (.inr ⟨hm,I.ok.has _ (S.free _ hm rfl)⟩);have noA:∀ b:Addr,b∉(lamCx X N' qual scope q cd s H).ex:=λb z=>absurd (show b∈([]:List Addr) from z) (by simp);refine ⟨⟨e0.mod,S.kind,rfl,rfl,Nat.le_refl _,λx z c h1 h2=>?_,λx hx=>?_,λx c hx _=>?_,λ_=>I.ok.hd hc,Around.frames_deeper e0.frames,.inr ⟨rfl,rfl⟩,λb z=>absurd z (noA b),e0.bs,e0.bsz,λb _ _=>noA b,λb z=>absurd z (noA b),e0.funs,e0.frf⟩,
  rfl,e0.bare,Un.kept hk,⟨_,hns,λi x w h1 h2 h3=>?_⟩,λx c h=>?_,e0.hok.fresh (Nat.le_refl _),λx c h=>?_,λp hp=>absurd (show p∈([]:List (Addr×Obj)) from hp) (by simp),e0.hok.kept hk,?_⟩
 ·exact I.ok.inj x z c (sub h1) (sub h2)
 ·have hx:=hx;rcases hx with hx | hx
  ·exact absurd rfl (S.nocell _ (PySem.mem_of_lookup hx))
  ·exact has (lookup_free hx)
 ·have hx:=hx;cases hx
 ·cases i with
  | zero=>
   have h1':N'[0]? = some x:=h1;rw [S.hd] at h1';cases h1';cases h2;exact ⟨u,rv,.inl ⟨S.par,by simp⟩⟩
  | succ j=>
   have h2':(fi.map λk=>(σ[k]?).join)[j]? = some (some w):=h2;rw [List.getElem?_map] at h2';cases ek:fi[j]? with
   | none=>rw [ek] at h2';cases h2'
   | some k=>
    rw [ek] at h2';have h2'':(σ[k]?).join=some w:=Option.some.inj h2';have hσ:σ[k]? = some (some w):=by
     cases z:σ[k]? with
     | none=>rw [z] at h2'';cases h2''
     | some w'=>rw [z] at h2'';exact congrArg some h2''
    obtain ⟨x',e1,e2,e3⟩:=S.at' j k ek;have h1':N'[j+1]? = some x:=h1;rw [e1] at h1';cases h1';have hm:=lookup_free e3;have kx:=S.free _ hm rfl;obtain ⟨m0,hn0,hl0⟩:=I.loc;obtain ⟨u',ru,lk⟩:=hl0 k x w e2 hσ (kx.elim (λz=>.inr (.inl z)) λz=>.inr (.inr z));refine ⟨u',ru,.inr ⟨.inr e3,?_⟩⟩;rcases lk with ⟨kl,_⟩ | ⟨_,c,ec,hcell⟩
    ·lia
    ·obtain ⟨d,hd⟩:=has hm;have:=sub hd;rw [ec] at this;cases this;exact ⟨c,hd,hcell.keeps hk⟩
 ·obtain ⟨z,hz⟩:=I.cell x c (sub h);exact ⟨z,hz.keeps hk⟩
 ·exact I.freeC x c (sub h)
 ·show (lsub v fi σ).length=N'.length;rw [S.len];simp [lsub]
def codeX (c:Addr) (qual:Str):HO:=.ext λh=>h.CodeRec (.ref c) qual
def spLam (te:TE) (fi:List Nat) (σ:St) (c:Addr) (qual:Str):Sp:=λvs H Q _=>∃ v,vs=[v]/\H c=some (codeX c qual)/\te (lsub v fi σ) H Q
theorem keyOk_lam {k:Nat}{name:Str}{params:Arguments}{body:Expr}{pm ctv:Value}{c':Addr}{te:TE} (hc:X.calm=true) (hr:Room (k+1) X.A) (S:LScope X scope N' y fi)
  (hq:(q,kla_obj name qual params body scope (clos X.env.cells scope.names []) pm c' ctv)∈pins)
  (hb:∀ w,bindArgs (kla_fn name qual params body scope (clos X.env.cells scope.names []) pm (.ref c') ctv) ⟨[w],[]⟩=pure [(y,w)])
  (hbody:∀ s H,PE (lamCx X N' qual scope q (.ref c') s H) body te):KeyOk X pins σ q (spLam te fi σ c' qual):=by
 intro more H s x u Q I rx h;obtain ⟨v,e,hcx,h⟩:=h;cases e;refine kla_callFunE hr.in1.depth ((λp hp=>(I.pin p (List.mem_append_right _ (List.mem_append_left _ hp))).1) _ hq) rfl S.co S.gen rfl (I.hok _ _ hcx).1 ?_;rw [hb];refine wpAny_pure (wpAny_newFunctionEnv S.nocell (λz hz=>by rw [List.mem_singleton.mp hz];exact S.par) (λh₁ hns hsb=>?_) S.kind);have hk₁:∀ b o,s.heap.get? b=some o->h₁.get? b=some o:=λb o e=>hsb.extBut b o (Nat.ne_of_lt (Heap.lt_size e)) (Heap.get?_push_of_some _ e);refine ⟨I.nolimit.keeps hk₁,?_⟩;refine kla_codeExpr (wpAny_mono (hbody s H [] _ _ H Q (inv_lam (pins:=pins++more) (σ:=σ) I hc S rx hns hk₁) h) (λv' s' z=>?_) λ_ _ z=>z.elim);obtain ⟨w,H',J,rw',qw⟩:=z;exact ⟨w,H',J.os,J.bare,J.base,J.hok,rw',qw⟩
theorem codeX_ok {P:Program}{w:World}{H:Hp}{h:Heap}{c:Addr} (x:h.CodeRec (.ref c) qual):ObjOk P w H h c (codeX c qual):=by
 refine ⟨x,?_,λh1 h2 a k=>?_⟩
 ·obtain ⟨c0,o,vs,t,e,g,r⟩:=x;cases e;exact ⟨o,g⟩
 ·obtain ⟨c0,o,vs,t,e,g,r⟩:=a;cases e;exact ⟨c,o,vs,t,rfl,k _ g,r⟩
theorem Inv.grown {P c':Addr}{ps more:Array Value}{t':Tok} (I:Inv X pins σ H s) (hP:H P=some (.tbl ps)) (hk:Heap.ExtBut P s.heap h') (hc:s.heap.objs.size<=c') (ht:h'.get? P=some (tabObj (ps++more))) (hr:h'.CodeRec (.ref c') qual) :
  Inv X pins σ (upd (upd H P (.tbl (ps++more))) c' (codeX c' qual)) { s with heap:=h',toks:=t' }:=by
 have hn:=I.hok.fresh hc;have at_:∀ b,b≠P->b≠c'->upd (upd H P (.tbl (ps++more))) c' (codeX c' qual) b=H b:=λb h1 h2=>by rw [upd_ne h2,upd_ne h1]
 have lt:∀ {b:Addr}{o:Obj},s.heap.get? b=some o->b≠c':=λ{b o} e z=>by
  have:=Heap.lt_size e;lia
 have nP:∀ {b:Addr},H b=none->b≠P:=λ{b} e z=>by lia
 refine I.step (g':=s.gens) (d':=s.drawn) (ch:=[]) (λb z=>absurd z (by simp)) (λb o _ _ _ e n=>hk b o (nP n) e) (λb o _ _ _ e n=>⟨o.slots,hk b o (nP n) e⟩) (λb o _ e n=>?_) (λb o _ e=>?_) (λb xs e=>?_) (λb o u e=>?_) (λb qs e=>?_) (λm hm=>?_) ?_ I.bare
 ·rwa [at_ b (nP n) (lt e)]
 ·by_cases hb:b=P
  ·exact ⟨_,by rwa [hb]⟩
  ·exact ⟨o,hk b o hb e⟩
 ·grind
 ·grind
 ·by_cases hb:b=P
  ·subst hb;rw [hP] at e;cases e;exact ⟨more,by rw [upd_ne (ne_of_none hP hn),upd_same]⟩
  ·exact ⟨#[],by grind⟩
 ·obtain ⟨o,es,ep,e,r⟩:=hm;exact ⟨o,es,ep,hk _ _ (Ne.symm (ne_of_none hP I.free)) e,r⟩
 ·intro b u e;by_cases hb:b=c'
  ·subst hb;rw [upd_same] at e;cases e;exact codeX_ok hr
  ·rw [upd_ne hb] at e;by_cases hp:b=P
   ·subst hp;rw [upd_same] at e;cases e;exact ht
   ·rw [upd_ne hp] at e;refine (I.hok b u e).stay (λc o hc' q=>hk c o ?_ q) (λc q=>?_) λc xs q=>?_
    ·lia
    ·grind
    ·grind
end
end L2
namespace L2
open PySem PySem.Spec PyProof.Rows PySem.W
def LamAt (P:Addr) (pos:Pos) (qual:Str) (H:Hp):Prop:=∃ ps,H P=some (.tbl ps)/\TriplesOk ps.toList/\(codeAmong pos ps.toList=none\/∃ c,codeAmong pos ps.toList=some (.ref c)/\H c=some (codeX c qual))
def tMinL (K:PySem.W.Frag) (P:Addr) (lpos:Pos) (qual:Str) (te:TE) (fi:List Nat) (ta:TA):TE:=λσ H Q=>ta σ H λvs H1=>∃ x,vs=[x]/\LamAt P lpos qual H1 /\
 ∀ c H2,(H2=H1\/∃ ps,H1 P=some (.tbl ps)/\H1 c=none/\H2=upd (upd H1 P (.tbl (ps ++ #[rawInt lpos.line,rawInt lpos.col,.ref c]))) c (codeX c qual))->LamAt P lpos qual H2->H2 c=some (codeX c qual)->rMinK K (spLam te fi σ c qual) x H2 Q
section
variable {X:Cx}
def BmIn (X:Cx):Prop:=∃ bm o,X.mg "__builtins__" = some (.ref bm)/\bm≠builtinsNs/\bm≠mainGlobals/\X.K.lookup bm=some o/\o.cls = .type "module" /\ o.dict=some builtinsNs/\o.data = .plain
theorem triples_snoc {a b:Int}{c:Value}:∀ {l:List Value},TriplesOk l->TriplesOk (l++[.int a 0,.int b 0,c])
 | [],_=>trivial
 | .int _ _ :: .int _ _::_::r,h=>triples_snoc (l:=r) h
 | .int _ _ :: .int _ _::[],h=>h.elim
 | .int _ _::[],h=>h.elim
theorem pe_minL {k:Nat}{c P:Addr}{y:Str}{e:Expr}{ta:TA}{te:TE}{kn:Nat}{p lpos pos kp pd kp2:Pos}{params:Arguments}{body:Expr}{scope:Scope}{N':List Str}{fi:List Nat} (hc:X.calm=true) (hr:Room (k+1) X.A) (S:LScope X scope N' y fi)
  (hcode:X.env.code = .ref c) (hC:∀ h:Heap,X.K.In h->CodeHd h c P) (hB:BmIn X)
  (hbody:∀ q c' s H,PE (lamCx X N' (X.env.qual ++ "<lambda>") scope q (.ref c') s H) body te)
  (hg:Gl X "min") (hm:X.mg "min" = none) (ha:PA X [e] ta)
  (hb:∀ cl pm c' ctv w,bindArgs (kla_fn "<lambda>" (X.env.qual ++ "<lambda>") params body scope cl pm (.ref c') ctv) ⟨[w],[]⟩=pure [(y,w)]:=by intros;rfl) (hdef:defaultsOf params X.env=([],[]):=by rfl)
  (he:backTo pos (starEach [e] X.env)=(false,eval e X.env)::backTo pos (starEach [] X.env):=by rfl) (hplain:(backTo pos (starEach [e] X.env)).any (·.1)=false:=by rfl)
  (hall:(backToKw pos (keywordEach [⟨some "key",.Lambda params body scope lpos,kp⟩,⟨some "default",.Constant .none kn pd,kp2⟩] X.env)).all (·.1.isSome)=true:=by rfl) (hkw:(backToKw pos (keywordEach [⟨some "key",.Lambda params body scope lpos,kp⟩,⟨some "default",.Constant .none kn pd,kp2⟩] X.env)).any (·.1.isNone)=false:=by rfl) :
  PE X (.Call (.Name "min" p) [e] [⟨some "key",.Lambda params body scope lpos,kp⟩,⟨some "default",.Constant .none kn pd,kp2⟩] pos) (tMinL X.K P lpos (X.env.qual ++ "<lambda>") te fi ta):=by
 intro pins s σ H Q I h;refine wpAny_Call_Name_kw (ld_blt I hg hm bt_min ?_);refine callWith_kw (thn (ha pos pins s σ H _ I h) λus s1 ⟨vs,H1,I1,r1,q1⟩=>?_) he hplain hall hkw;obtain ⟨x,rfl,la,q⟩:=q1;obtain ⟨u,rfl,ru⟩:=r1.one;obtain ⟨ps,hP,ht,hcs⟩:=id la;have hPg:s1.heap.get? P=some (tabObj ps):=I1.hok P _ hP;have hcl:closureFor scope X.env=pure (clos X.env.cells scope.names []):=closure_of λz hz hk=>I1.ok.has _ (S.free z hz hk);have hgl:s1.heap.Ns mainGlobals X.mg:=I1.mod.glob.keeps I1.bk;have gN:H1 mainGlobals=none:=by
  obtain ⟨o,es,ep,e',_⟩:=I1.mod.glob;exact (I1.bs _ _ e').2
 have hgP:mainGlobals≠P:=λz=>by lia
 have hbu:s1.heap.BuiltinsAt X.mg P:=by
  obtain ⟨bm,o,b1,b2,b3,b4,b5⟩:=hB;have hb4:=I1.mod.kin bm o b4;have:=(I1.bs _ _ hb4).2;exact ⟨bm,o,b1,b2,b3,(λz=>by lia),(I1.bs _ _ hb4).1,b5⟩
 have fin:∀ (c':Addr) (ctv:Value) (h':Heap) (tk:Tok) (H2:Hp),Inv X pins σ H2 { s1 with heap:=h',toks:=tk }->rMinK X.K (spLam te fi σ c' (X.env.qual ++ "<lambda>")) x H2 Q ->
   wpAny (model X.prog X.w) X.A (evalAll ((backToKw pos (keywordEach [⟨some "default",.Constant .none kn pd,kp2⟩] X.env)).map (·.2))) (λkvs s₂=>wpAny (model X.prog X.w) X.A (call (.builtin "min") [u] (((backToKw pos (keywordEach [⟨some "key",.Lambda params body scope lpos,kp⟩,⟨some "default",.Constant .none kn pd,kp2⟩] X.env)).filterMap (·.1)).zip (.ref h'.objs.size::kvs))) (EP X pins σ Q) X.xe s₂) X.xe
    { s1 with heap:=h'.push (kla_obj "<lambda>" (X.env.qual ++ "<lambda>") params body scope (clos X.env.cells scope.names []) ((X.mg "__name__").getD .none) c' ctv),toks:=tk }:=λc' ctv h' tk H2 I2 q2=>by
  refine kws_cons (Constant_none (kws_nil ?_));have I3:Inv X pins σ H2 { s1 with heap:=h'.push (kla_obj "<lambda>" (X.env.qual ++ "<lambda>") params body scope (clos X.env.cells scope.names []) ((X.mg "__name__").getD .none) c' ctv),toks:=tk }:=I2.kept (s:={ s1 with heap:=h',toks:=tk }) (t':=tk) λb o e=>Heap.get?_push_of_some _ e;have I4:Inv X (pins++[(h'.objs.size,kla_obj "<lambda>" (X.env.qual ++ "<lambda>") params body scope (clos X.env.cells scope.names []) ((X.mg "__name__").getD .none) c' ctv)]) σ H2 { s1 with heap:=h'.push (kla_obj "<lambda>" (X.env.qual ++ "<lambda>") params body scope (clos X.env.cells scope.names []) ((X.mg "__name__").getD .none) c' ctv),toks:=tk }:=I3.pins_of λz hz=>by
   rcases List.mem_append.mp hz with w | w
   ·exact I3.pin z (List.mem_append_right _ w)
   ·rw [List.mem_singleton.mp w];exact ⟨Heap.get?_push_size _ rfl,(I2.hok.fresh (Nat.le_refl _)),Nat.ne_of_gt I2.lt,I2.nofs (Nat.le_refl _),λv z=>by cases z⟩
  exact thn (call_minKC (keyOk_lam (k:=k) hc hr S (List.mem_append_right _ (List.mem_singleton.mpr rfl)) (hb _ _ _ _) (hbody _ _)) hr hc I4 ru q2) λv s' ⟨w,H',J,rw',qw⟩=>⟨w,H',J.unpinned,rw',qw⟩
 refine kws_cons (kla_eval hdef ?_);rcases hcs with hnf | ⟨c',hf,hcx⟩
 ·refine kla_makeFunction hcl I1.ok.glob hgl hcode (hC _ I1.kIn) hPg ht hnf hgP hbu λc' ctv h' tk hk h1 h2 h3 h4=>?_;have hn:H1 c' = none:=I1.hok.fresh h1;refine fin c' ctv h' tk _ (I1.grown (t':=tk) hP hk h1 h4 h3) (q c' _ (.inr ⟨ps,hP,hn,rfl⟩) ⟨_,by rw [upd_ne (ne_of_none hP hn),upd_same],?_,.inr ⟨c',?_,upd_same⟩⟩ upd_same)
  ·rw [Array.toList_append];exact triples_snoc ht
  ·rw [Array.toList_append];exact codeAmong_snoc _ ht hnf
 ·refine kla_makeFunctionHit hcl I1.ok.glob hgl hcode (hC _ I1.kIn) hPg ht hf hbu λctv h' tk hk h1=>?_;exact fin c' ctv h' tk _ (I1.kept (t':=tk) hk) (q c' _ (.inl rfl) la hcx)
end
end L2
namespace L2
open PySem PySem.Spec PyProof.Rows PySem.W
def lscB (sc osc:Scope) (N N':List Str) (y:Str) (fi:List Nat):Bool:=
 decide (sc.kind = .function) && decide (sc.isCoroutine=false) && decide (sc.isGenerator=false) && decide (∀ x∈sc.names,x.2 ≠ .cell) && decide (sc.names.lookup y=some .local)
 && decide (∀ z∈sc.names,z.2 = .free->osc.names.lookup z.1=some .cell\/osc.names.lookup z.1=some .free)
 && decide (N'[0]? = some y) && decide (N'.length=fi.length+1)
 && (List.range fi.length).all λj=>match fi[j]? with
  | some k=>match N'[j+1]? with
   | some x=>decide (N[k]? = some x) && decide (sc.names.lookup x=some .free)
   | none=>false
  | none=>false
theorem lscope {X:Cx}{sc:Scope}{N':List Str}{y:Str}{fi:List Nat} (osc:Scope) (N:List Str) (h:lscB sc osc N N' y fi=true) (e1:X.env.scope=osc:=by rfl) (e2:X.N=N:=by rfl):LScope X sc N' y fi:=by
 subst e1 e2;simp only [lscB,Bool.and_eq_true,decide_eq_true_eq] at h;obtain ⟨⟨⟨⟨⟨⟨⟨⟨h1,h2⟩,h3⟩,h4⟩,h5⟩,h6⟩,h7⟩,h8⟩,h9⟩:=h;refine ⟨h1,h2,h3,h4,h5,h6,h7,h8,λj k hj=>?_⟩
 grind
structure LamTop (K:PySem.W.Frag) (mg:Str->Option Value) (fd:FuncData) (c P:Addr):Prop where
 code:fd.code = .ref c
 hd:∀ h:Heap,K.In h->CodeHd h c P
 bm:∃ bm o,mg "__builtins__" = some (.ref bm)/\bm≠builtinsNs/\bm≠mainGlobals/\K.lookup bm=some o/\o.cls = .type "module" /\ o.dict=some builtinsNs/\o.data = .plain
structure FunD (K:PySem.W.Frag) (x qual:Str) (st:Stmt) (f:Addr) (fd:FuncData):Prop where
 ex:∃ (oc:Value) (od:Option Addr) (dV kV doc pm:Value) (an:Option Addr) (cdv ct:Value) (osl:Array (Option Value)),
  fd=PySem.W.fnOf x qual (defArgs st) (defBody st) (defScope st) dV kV doc pm an cdv ct/\K.lookup f=some ⟨oc,od,.func fd,osl⟩/\PySem.W.codeIn K cdv qual=true
 kp:PySem.W.keepIn K (.ref f)=true
structure DefAtD (K:PySem.W.Frag) (mg:Str->Option Value) (x:Str) (st:Stmt) (ps:List Str) (f:Addr) (fd:FuncData):Prop where
 fn:FunD K x x st f fd
 bd:Binds K fd ps []
 mg:mg x=some (.ref f)
section
variable {P:Program}{w:World}{K:PySem.W.Frag}{mg:Str->Option Value}{base:Heap}
theorem Fun.okC {x qual:Str}{st:Stmt}{f c:Addr}{fd:FuncData}{N ps:List Str}{k:Nat}{sp:Sp} (F:Fun K x qual st f fd) (hcc:fd.code = .ref c) (S:FnScope N ps (defScope st)) (len:∀ vs H Q E,sp vs H Q E->vs.length=ps.length)
  (hbody:∀ (A:Around) (outer:List Env) (s:Shared) (H:Hp) (vs:List V) (Q:VK) (E:XK),Room k (A.deeper (envOfC qual (defScope st) s.heap.objs.size f (.ref c)))->sp vs H Q E ->
   ∃ t,PSs (cxOf CX0 P w K mg base N qual (defScope st) f (.ref c) A outer s H E).nox (defBody st) t/\t { nx:=λ_ H'=>Q .non H',rt:=Q } (start N vs) H):FnOk P w K mg base CX0 (k+1) f fd ps sp:=by
 obtain ⟨oc,od,kV,doc,pm,an,cdv,ct,osl,rfl,lk,hcd⟩:=F.ex;obtain rfl:cdv = .ref c:=hcc;refine fn_of lk hcd S len λA outer s H vs Q E hr hsp=>?_;obtain ⟨t,h,q⟩:=hbody A outer s H vs Q E hr hsp;exact ⟨t,h.nox,q⟩
theorem FunD.ok {x qual:Str}{st:Stmt}{f:Addr}{fd:FuncData}{N ps:List Str}{k:Nat}{sp:Sp} (F:FunD K x qual st f fd) (S:FnScope N ps (defScope st)) (len:∀ vs H Q E,sp vs H Q E->vs.length=ps.length)
  (hbody:∀ (cdv:Value) (A:Around) (outer:List Env) (s:Shared) (H:Hp) (vs:List V) (Q:VK) (E:XK),Room k (A.deeper (envOfC qual (defScope st) s.heap.objs.size f cdv))->sp vs H Q E ->
   ∃ t,PSs (cxOf CX0 P w K mg base N qual (defScope st) f cdv A outer s H E).nox (defBody st) t/\t { nx:=λ_ H'=>Q .non H',rt:=Q } (start N vs) H):FnOk P w K mg base CX0 (k+1) f fd ps sp:=by
 obtain ⟨oc,od,dV,kV,doc,pm,an,cdv,ct,osl,rfl,lk,hcd⟩:=F.ex;refine fn_of lk hcd S len λA outer s H vs Q E hr hsp=>?_;obtain ⟨t,h,q⟩:=hbody cdv A outer s H vs Q E hr hsp;exact ⟨t,h.nox,q⟩
end
end L2
namespace L2
open PySem
structure MthAt (K:PySem.W.Frag) (x q:Str) (st:Stmt) (ps:List Str) (f:Addr) (fd:FuncData):Prop where
 fn:Fun K x q st f fd
 bd:Binds K fd ps []
structure MthAtD (K:PySem.W.Frag) (x q:Str) (st:Stmt) (ps:List Str) (f:Addr) (fd:FuncData):Prop where
 fn:FunD K x q st f fd
 bd:Binds K fd ps []
section
variable {X:Cx}{C f:Addr}{fd:FuncData}{k:Nat}{sp:Sp}{e o value:Expr}{n:Str}{pos pos':Pos}{ta tv:TE}
end
structure ClsT (K:PySem.W.Frag) (C:Addr):Prop where
 ha:PySem.W.findIn K (.ref C) "__class__" = some (some (.builtin "object.__class__"))
 hn:PySem.W.specialIn K (.builtin "object.__class__") "__get__" = some (some (.builtin "getset_descriptor.__get__"))
 htk:PySem.W.takesIn K (.builtin "object.__class__")=some true
 hm:PySem.W.mroIn K C (.type "object")=some true
 self:PySem.W.kitOne K (.ref C) (.ref C)=some true
end L2
namespace L2
open PySem
section
variable {X:Cx}{j k:Nat}{st:Stmt}{f:Addr}{fd:FuncData}{ps:List Str}{sp:Sp}{x:Str}{p pos:Pos}{e a b iter elt:Expr}{es:List Expr}{t:TA}{ta tb te:TE}{wi:TI}
theorem pcal (D:DefAt X.K X.mg x st ps f fd) (F:FnOk X.prog X.w X.K X.mg X.base CX0 j f fd ps sp) (hr:Room k X.A) (ha:PA X (e::es) t) (hjk:j<=k:=by decide) (hg:Gl X x:=by rfl) (hdb:(x == ("__debug__" : Str))=false:=by decide)
  (he:starEach (e::es) X.env=(false,eval e X.env)::starEach es X.env:=by rfl) (hpl:(backTo pos (starEach es X.env)).any (·.1)=false:=by rfl):PE X (.Call (.Name x p) (e::es) [] pos) (tCall sp [] E0 t):=
 pe_call (F.mono hjk) hr hg D.mg D.fn.kp D.bd .nil pass0 ha hdb he hpl
theorem pcalD (D:DefAtD X.K X.mg x st ps f fd) (F:FnOk X.prog X.w X.K X.mg X.base CX0 j f fd ps sp) (hr:Room k X.A) (ha:PA X (e::es) t) (hjk:j<=k:=by decide) (hg:Gl X x:=by rfl) (hdb:(x == ("__debug__" : Str))=false:=by decide)
  (he:starEach (e::es) X.env=(false,eval e X.env)::starEach es X.env:=by rfl) (hpl:(backTo pos (starEach es X.env)).any (·.1)=false:=by rfl):PE X (.Call (.Name x p) (e::es) [] pos) (tCall sp [] E0 t):=
 pe_call (F.mono hjk) hr hg D.mg D.fn.kp D.bd .nil pass0 ha hdb he hpl
theorem pn (i:Nat) (hN:X.N.Nodup) (hi:X.N[i]? = some x:=by rfl) (hx:Loc X.env.scope x:=by exact Or.inl rfl) (hf:X.fn x=true\/X.env.scope.names.lookup x=some .local:=by first | exact .inl rfl | exact .inr rfl | assumption):PG X (.Name x pos) (gName i):=pg_name hN hi hx hf
theorem pixT (K:PySem.W.Frag) (ha:PE X a ta) (hb:PE X b tb) (h:X.K=K:=by rfl) (hs:PlainIx b:=by exact λ_ _=>rfl):PE X (.Subscript a b pos) (tOp (rIxT K) ta tb):=by
 subst h;exact pe_ix ix_tup ha hb hs
theorem pixL (K:PySem.W.Frag) (ha:PE X a ta) (hb:PE X b tb) (h:X.K=K:=by rfl) (hs:PlainIx b:=by exact λ_ _=>rfl):PE X (.Subscript a b pos) (tOp (rIxL K) ta tb):=by
 subst h;exact pe_ix ix_list ha hb hs
theorem pa1 (ha:PE X e te) (hs:starEach (e::[]) X.env=(false,eval e X.env)::starEach [] X.env:=by rfl):PA X [e] (tCons te tNil):=pa_cons ha pa_nil hs
theorem pcmp {op:CmpOp}{r:R2} (ho:OpR X (compareOp op) r) (ha:PE X a ta) (hb:PE X b tb) (hm:behindInMarks op b=false:=by exact nomark _):PE X (.Compare a [op] [b] pos) (tOp r ta tb):=pe_cmpR ho ha hb hm
theorem ptcmp {op:CmpOp}{r:R2} (ho:OpR X (compareOp op) r) (ha:PE X a ta) (hb:PE X b tb) (hm:behindInMarks op b=false:=by exact nomark _):PT X (.Compare a [op] [b] pos) (tTest (tOp r ta tb)):=pt_cmpR ho ha hb hm
theorem pcm {scope:Scope}{p':Pos} (N':List Str) (fi:List Nat) (osc:Scope) (N:List Str) (hit:PI X (.Name x p') iter wi) (he:∀ s H fp,PE (compCx X scope N' s H fp) elt te)
  (h:cscB scope osc N N' 1 fi=true:=by decide +kernel) (e1:X.env.scope=osc:=by rfl) (e2:X.N=N:=by rfl) (hcalm:X.calm=true:=by rfl) (hN:N'.Nodup:=by decide +kernel)
  (hi:N'[0]? = some x:=by rfl) (hx:∀ s H fp,Loc (compCx X scope N' s H fp).env.scope x:=by exact λ_ _ _=>Or.inl rfl) (hl:∀ s H fp,(compCx X scope N' s H fp).env.scope.names.lookup x=some .local:=by exact λ_ _ _=>rfl) (hs:∀ x,foldedSetIterable iter X.env x=pure x:=by intro _;rfl) :
  PE X (.ListComp elt [⟨.Name x p',iter,[],0⟩] scope pos) (tComp wi (gName 0) tYes te 1 fi):=
 pe_comp hcalm (cscope osc N h e1 e2) hit (λs H fp=>pg_name hN hi (hx s H fp) (.inr (hl s H fp))) (λs H fp=>pifs_nil) he hs
end
def fscB (N P:List Str) (sc:Scope):Bool:=sc.kind == .function && !sc.isCoroutine && !sc.isGenerator && decide N.Nodup && decide (N.take P.length=P) && P.all (λx=>decide (sc.names.lookup x=some .local\/sc.names.lookup x=some .cell)) && sc.names.all (λy=>decide (y.2 ≠ .free))
theorem fsc {N P:List Str}{sc:Scope} (h:fscB N P sc=true:=by decide +kernel):FnScope N P sc:=by
 simp only [fscB,Bool.and_eq_true,decide_eq_true_eq,List.all_eq_true,Bool.not_eq_true',beq_iff_eq] at h;obtain ⟨⟨⟨⟨⟨⟨h1,h2⟩,h3⟩,h4⟩,h5⟩,h6⟩,h7⟩:=h;exact ⟨h1,h2,h3,h4,h5,h6,h7⟩
end L2
namespace L2
open PySem
section
variable {K:PySem.W.Frag}{mg:Str->Option Value}{x q:Str}{st:Stmt}{ps:List Str}{f:Addr}{fd:FuncData}
abbrev Okd (_:DefAt K mg x st ps f fd) (P:Program) (w:World) (base:Heap) (k:Nat) (sp:Sp):Prop:=FnOk P w K mg base CX0 k f fd ps sp
abbrev OkdD (_:DefAtD K mg x st ps f fd) (P:Program) (w:World) (base:Heap) (k:Nat) (sp:Sp):Prop:=FnOk P w K mg base CX0 k f fd ps sp
end
end L2
namespace L2
open PySem PySem.Spec PyProof.Rows PySem.W
theorem is_kV {P:Program}{w:World}{k:Key}{u:Value} (h:(mixKind P w).is k u=true):RelV (kV k) u:=by
 rcases keyIs_shape (show keyIs k u=true from h) with ⟨i,t,rfl,rfl⟩ | ⟨x,t,rfl,rfl⟩
 ·exact ⟨t,rfl⟩
 ·exact ⟨t,rfl⟩
theorem Inv.freeze {X:Cx}{pins:List (Addr×Obj)}{σ:St}{H:Hp}{s:Shared}{a:Addr}{kvs:List (Key×V)} (I:Inv X pins σ H s) (e:H a=some (.dK kvs)) :
  ∃ o,s.heap.get? a=some o/\Inv X pins σ (upd H a (.frz o (.dK kvs))) s:=by
 obtain ⟨z,hd,vs,rel,dd⟩:=dk_of I.hok e;obtain ⟨o,es,ep,ho,r⟩:=id dd;refine ⟨o,ho,?_⟩;exact d_write (h':=s.heap) (t':=s.toks) I (by rw [e];exact True.intro) (Heap.SameBut.refl _ _) ⟨o,ho⟩ ⟨ho,dk_new z hd rel dd⟩
def Itk (a:Addr) (o:Obj) (kvs:List (Key×V)):It:=
 ⟨λi H=>i<kvs.length/\H a=some (.frz o (.dK kvs)),λi H x H'=>H' = H/\(kvs[i]?).map (λkv=>kV kv.1)=some x,λi H=>kvs.length<=i/\H a=some (.frz o (.dK kvs))⟩
theorem frz_at {X:Cx}{pins:List (Addr×Obj)}{σ:St}{H:Hp}{s:Shared}{a:Addr}{o:Obj}{es:Array DictEntry}{ep:Nat}{kvs:List (Key×V)} (hd:o.data = .dict es ep) (I:Inv X pins σ H s) (e:H a=some (.frz o (.dK kvs))) :
  ∃ vs,KV kvs vs/\s.heap.DictAt (mixKind X.prog X.w) a vs ep:=by
 obtain ⟨ho,_,_,vs,rel,o',es',ep',ho',hx,hd',r⟩:=(show ObjOk X.prog X.w H s.heap a (.frz o (.dK kvs)) from I.hok a _ e);rw [ho] at ho';cases ho';rw [hd] at hd';cases hd';exact ⟨vs,rel,o,es,ho,hx,hd,r⟩
theorem KV.key {kvs:List (Key×V)}{vs:List (Key×Value)}{i:Nat}{k:Key}{x:Value} (r:KV kvs vs) (h:vs[i]? = some (k,x)):(kvs[i]?).map (λkv=>kV kv.1)=some (kV k):=by
 have e:=congrArg (λl=>l[i]?) r.keys;simp only [List.getElem?_map,h,Option.map_some] at e;cases q:kvs[i]? with
 | none=>rw [q] at e;cases e
 | some kv=>
  rw [q] at e;have e':kv.1=k:=Option.some.inj e;rw [Option.map_some,e']
theorem turn_keys {P:Program}{w:World}{K:PySem.W.Frag}{tg:Expr}{a it:Addr}{o:Obj}{es:Array DictEntry}{ep:Nat}{kvs:List (Key×V)} (hne:a≠it) (hd:o.data = .dict es ep) :
  Turn P w K tg (Itk a o kvs) [it] it (λi h=>h.IsKeyIter it a i kvs.length ep) where
 mem:=by simp
 obj:=λi h st b hb=>by
  have e:b=it:=by simpa using hb
  subst e;obtain ⟨o,e,c,d⟩:=st;exact ⟨o,e,λv z=>by rw [d] at z;cases z⟩
 keep:=λi h h' st k=>st.at λo e=>k it (by simp) o e
 item:=by
  intro X hP hw hK hc i pins s σ H E I hf st hg;subst hP hw hK;obtain ⟨f0,f1,f2,f3,f4,f5⟩:=hf it (by simp);obtain ⟨hi,hg⟩:=hg;obtain ⟨vs,rel,da⟩:=frz_at hd I hg;have hl:=rel.length;have W:=Walks.dictKeys (prog:=X.prog) (w:=X.w) (knd:=mixKind X.prog X.w) (I.ok.hd hc) it a hne vs ep;refine W.item i s _ _ (by lia) ⟨by rw [<-hl];exact st,da⟩ λv h' tk hv st' kk=>?_;obtain ⟨k,x,hx,hk⟩:=hv;have I1:Inv X pins σ H { s with heap:=h',toks:=tk }:=I.turned (λb o hb e=>kk b o (by simpa using hb) e) f0 f1 f3 f4 f5;obtain ⟨o',e,c,d⟩:=id st'.1;exact ⟨v,rfl,go_of (s:={ s with heap:=h',toks:=tk }) e c d (by decide) ⟨kV k,H,I1,is_kV hk,⟨rfl,rel.key hx⟩,by rw [hl];exact st'.1,λb hb=>(hf b hb).1⟩⟩
 done:=by
  intro X hP hw hK hc i pins s σ H E I hf st hg;subst hP hw hK;obtain ⟨f0,f1,f2,f3,f4,f5⟩:=hf it (by simp);obtain ⟨hi,hg⟩:=hg;obtain ⟨vs,rel,da⟩:=frz_at hd I hg;have hl:=rel.length;exact wpAny_pyNext_dict_end (I.ok.hd hc) (by rw [<-hl];exact st) da (List.getElem?_eq_none (by lia)) λh' eb=>⟨rfl,I.turned (t':=s.toks) (λb o hb e=>eb b o hb e) f0 f1 f3 f4 f5⟩
 self:=λ_ _ _ _ _ st h=>wpAny_pyIter_keyiter st h
section
variable {X:Cx}{tg:Expr}
def iKeys (tl:TE):TI:=λσ H R=>tl σ H λx H1=>∃ a kvs,x = .ref a/\H1 a=some (.dK kvs)/\∀ o,R (Itk a o kvs) (upd H1 a (.frz o (.dK kvs)))
theorem pi_keys {l:Expr}{tl:TE} (hl:PE X l tl):PI X tg l (iKeys tl):=by
 intro pins s σ H R I h;refine thn (hl pins s σ H _ I h) λv s1 ⟨x,H1,I1,r1,q1⟩=>?_;obtain ⟨a,kvs,e,ha,q⟩:=q1;subst e;cases r1;obtain ⟨o,ho,I2⟩:=I1.freeze ha;obtain ⟨z,hd,vs,rel,o',es,ep,ho',hx,hd',r⟩:=dk_of I1.hok ha;rw [ho] at ho';cases ho';have da:s1.heap.DictAt (mixKind X.prog X.w) a vs ep:=⟨o,es,ho,hx,hd',r⟩;refine wpAny_pyIter_dict hd da ?_;have hne:=Nat.ne_of_lt da.lt_size;refine ⟨s1.heap.objs.size,[s1.heap.objs.size],_,_,_,rfl,I2.kept (t':=s1.toks) λb o e=>Heap.get?_push_of_some _ e,turn_keys hne hd',⟨_,Heap.get?_push_size _ rfl,rfl,by rw [rel.length];rfl⟩,λb hb=>?_,q o⟩;have e:b=s1.heap.objs.size:=by simpa using hb
 subst e;exact I2.fpOk (Nat.le_refl _) (I2.hok.fresh (Nat.le_refl _))
end
section
variable {X:Cx}{pins:List (Addr×Obj)}{σ:St}{H:Hp}{s:Shared}
end
end L2
namespace L2
open PySem PySem.Spec PyProof.Rows
section
variable {X:Cx}
end
end L2
namespace L2
open PySem PySem.Spec PyProof.Rows
end L2
namespace L2
open PySem PySem.Spec PyProof.Rows
def strV:PyData->Str
 | .str x=>x
 | d=>d.shown
structure Showy (d:PyData):Prop where
 able:d.showable=true
 nod:d.hasDict=false
 dep:d.depth<=100
 len:(∀ x,d ≠ .str x)->d.shown.length<=sizeLine
def rStr (K:PySem.W.Frag):List V->Hp->VK->Prop:=λvs H Q=>∃ x d,vs=[x]/\Den K H x d/\Showy d/\Q (.str (strV d)) H
theorem bt_str':bootBuiltins "str" = some (.type "str"):=by decide +kernel
section
variable {X:Cx}
theorem call_strD {k:Nat} (hr:Room k X.A):CallR X (.type "str") (rStr X.K):=by
 intro pins s σ H xs us Q I rv h;obtain ⟨x,d,rfl,hd,ok,q⟩:=h;obtain ⟨u,rfl,ru⟩:=vals1 rv;have hu:=hr.un;have big:∀ a d,Den X.K H (.ref a) d->(∀ x,d ≠ .str x)->Showy d->Q (.str d.shown) H->wpAny (model X.prog X.w) X.A (call (.type "str") [.ref a]) (EP X pins σ Q) X.xe s:=λa d hd hn ok q=>by
  obtain ⟨as,r⟩:=I.reads (u:=.ref a) hd rfl;refine str_of_reads (h₀:=s.heap) r ok.able (λe=>by rw [ok.nod] at e;cases e) hr.gd (by have:=ok.dep;lia) (λb o e=>e) (λh' u tk hk=>?_) (ok.len hn);exact ⟨.str d.shown,H,I.kept (t':=tk) hk,⟨u,rfl⟩,q⟩
 cases hd with
 | non=>cases ru;exact P.str_of_none ⟨.str "None",H,I.tok _,⟨_,rfl⟩,by simpa only [strV,PyData.shown] using q⟩
 | bl b=>cases ru;exact P.str_of_bool ⟨.str (if b then "True" else "False" : Str),H,I.tok _,⟨_,rfl⟩,by simpa only [strV,PyData.shown] using q⟩
 | int i=>
  obtain ⟨t,rfl⟩:=ru;exact P.str_of_int (by simpa [PyData.showable] using ok.able) ⟨.str (toString i:String),H,I.tok _,⟨_,rfl⟩,by simpa only [strV,PyData.shown] using q⟩
 | str h=>
  obtain ⟨t,rfl⟩:=ru;exact P.str_of_str ⟨.str _,H,I,⟨_,rfl⟩,q⟩
 | lst h t=>
  cases ru;exact big _ _ (.lst h t) (λ_ e=>by cases e) ok q
 | tup h t=>
  cases ru;exact big _ _ (.tup h t) (λ_ e=>by cases e) ok q
end
section
variable {X:Cx}
structure PAj (X:Cx) (es:List Expr) (t:TA):Prop where
 go:PA X es t
structure PSj (X:Cx) (st:Stmt) (t:TS):Prop where
 go:PS X st t
structure PSsj (X:Cx) (st:List Stmt) (t:TS):Prop where
 go:PSs X st t
end
end L2
namespace L2
open PySem PySem.Spec PyProof.Rows
theorem count_eqU {x:V}:∀ {xs:List V}{us:List Value},Vals xs us->xs.all flatV=true->us.countP (eqU x)=xs.countP λy=>eqV y x
 | _,_,.nil,_=>rfl
 | y::xs,u::us,.cons r t,f=>by
  rw [List.all_cons,Bool.and_eq_true] at f;rw [List.countP_cons,List.countP_cons,eqU_of r f.1,count_eqU t f.2]
def rCount (K:PySem.W.Frag):V->List V->Hp->VK->Prop:=λx vs H Q=>∃ p xs y,x = .ref p/\vs=[y]/\SqL K H p xs/\flatV y=true/\xs.all flatV=true/\Q (.int (xs.countP λz=>eqV z y:Nat)) H
theorem mt_count {X:Cx}:MtR X "list.count" (rCount X.K):=by
 intro pins s σ H x vs v us Q I rx rv h;obtain ⟨p,xs,y,rfl,rfl,hq,fy,fs,q⟩:=h;cases rx;obtain ⟨u,rfl,ru⟩:=rv.one;obtain ⟨its,r,pl,hz⟩:=I.list hq;obtain ⟨o,n,ho,hc,hd,hs⟩:=pl;cases o;cases hc;cases hd;cases hs;refine call_meets PySem.F.slot_list_count ⟨_,ho,rfl⟩ PySem.F.entry_list_count (PySem.F.args_list_count_2 _ _) (SeqAt.list_countAt p its.toArray n _ _ u (eqU y)) ⟨ho,λw hw=>mem_eqAt ru fy r fs w (by simpa using hw),?_⟩;refine ⟨.int _,H,I.tok _,⟨_,rfl⟩,?_⟩
 rwa [show its.toArray.toList=its from rfl,count_eqU r fs]
section
variable {X:Cx}{pins:List (Addr×Obj)}{σ:St}{H:Hp}{s:Shared}{a:Addr}{kvs:List (Key×V)}{k:Key}{x:V}{u r:Value}{A:Around}{E:Value->Shared->Prop}
theorem d_setdef {Q:Value->Shared->Prop} (I:Inv X pins σ H s) (e:H a=some (.dK kvs)) (ry:RelV (kV k) u) (rx:RelV x r) (hl:kvs.length<sizeLine)
  (h1:∀ v,valV kvs k=some v->∀ w' s',Inv X pins σ H s'->RelV v w'->Q w' s') (h2:valV kvs k=none->∀ s',Inv X pins σ (upd H a (.dK (putK kvs k x))) s'->Q r s') :
  wpAny (model X.prog X.w) A (call (.builtin "dict.setdefault") [.ref a,u,r]) Q E s:=by
 obtain ⟨z,hd,vs,rel,dd⟩:=dk_of I.hok e;have hv:=rel.val k;refine call_meetsIn PySem.F.slot_dict_setdefault dd.typeIs PySem.F.entry_dict_setdefault (PySem.F.args_dict_setdefault_3 _ _ _) (kt_meets_setdefault (mixKind X.prog X.w) a (kV_is ry) hd r)
  ⟨vs,dd,by rwa [<-rel.length],λw' hw=>?_,λhn h' dd' hs=>?_⟩
 ·rw [hw] at hv;cases q:valV kvs k with
  | none=>rw [q] at hv;exact absurd hv (by simp [RelO])
  | some v=>rw [q] at hv;exact h1 v q _ _ (I.tok _) hv
 ·rw [hn] at hv;cases q:valV kvs k with
  | some v=>rw [q] at hv;exact absurd hv (by simp [RelO])
  | none=>
   have he:∃ q,h'.get? a=some q:=let ⟨q,_,_,hq,_⟩:=dd';⟨q,hq⟩;exact h2 q _ (d_write I (by rw [e];exact True.intro) hs he (dk_new (by grind [length_putK]) hd (rel.put k rx) dd'))
end
def tSetD (td ty tx:TE):TE:=λσ H Q=>td σ H λx H1=>∃ a,x = .ref a/\IsD H1 a/\ty σ H1 λy H2=>tx σ H2 λz H3=>∃ kvs k,H3 a=some (.dK kvs)/\y=kV k/\kvs.length<sizeLine /\
 (∀ v,valV kvs k=some v->Q v H3)/\(valV kvs k=none->Q z (upd H3 a (.dK (putK kvs k z))))
section
variable {X:Cx}{o e f:Expr}{apos cpos:Pos}{td ty tx:TE}
theorem pe_setd (ho:PE X o td) (he:PE X e ty) (hf:PE X f tx) (m:M2 X o "setdefault" apos e f cpos):PE X (.Call (.Attribute o "setdefault" apos) [e,f] [] cpos) (tSetD td ty tx):=by
 intro pins s σ H Q I h;refine wpAny_Call_method m.base m.few m.line PySem.F.plainAttrs_dict PySem.F.slot_dict_setdefault PySem.F.type_dict_setdefault (thn (ho pins s σ H _ I h) λu s1 ⟨x,H1,I1,rx,a,ex,d,q1⟩=>?_);subst ex;obtain rfl:u=Value.ref a:=rx;obtain ⟨t1,t2,_⟩:=isD_at I1 d;refine ⟨t1,t2,?_⟩;rw [m.trees];refine Calls.callWith_builtin rfl (Calls.evalArgs_plain (Calls.spliced_cons (thn (he pins s1 σ H1 _ I1 q1) λiv s2 ⟨y,H2,I2,ry,q2⟩=>
  Calls.spliced_cons (thn (hf pins s2 σ H2 _ I2 q2) λfv s3 ⟨z,H3,I3,rz,kvs,k,ea,ey,hl,q3,q4⟩=>Calls.spliced_nil ?_))))
 subst ey;exact d_setdef I3 ea ry rz hl (λv hv w' s4 I4 rw'=>⟨v,H3,I4,rw',q3 v hv⟩) λhn s4 I4=>⟨z,_,I4,rz,q4 hn⟩
end
theorem KV.vals {kvs:List (Key×V)}{vs:List (Key×Value)} (r:KV kvs vs):Vals (kvs.map (·.2)) (vs.map (·.2)):=by
 induction r with
 | nil=>exact .nil
 | cons h _ ih=>exact .cons h.2 ih
def tLV (td:TE):TE:=λσ H Q=>td σ H λx H1=>∃ a kvs,x = .ref a/\Rd H1 a (.dK kvs)/\∀ p,H1 p=none->Q (.ref p) (upd H1 p (.lst (kvs.map (·.2))))
section
variable {X:Cx}{x:Str}{p apos cpos pos:Pos}{o:Expr}{td:TE}
theorem pe_lvals (hh:X.calm=true) (hg:Gl X x) (hm:X.mg x=none) (hv:bootBuiltins x=some (.type "list")) (ho:PE X o td)
  (hn:x ≠ "__name__" :=by decide) (hdb:(x == ("__debug__" : Str))=false:=by decide) (hbase:attributeBase o "values" X.env (eval o X.env)=eval o X.env:=by rfl) (hline:(apos.endLine == cpos.line)=true:=by rfl)
  (he:starEach [Expr.Call (.Attribute o "values" apos) [] [] cpos] X.env=(false,eval (Expr.Call (.Attribute o "values" apos) [] [] cpos) X.env)::starEach [] X.env:=by rfl) :
  PE X (.Call (.Name x p) [.Call (.Attribute o "values" apos) [] [] cpos] [] pos) (tLV td):=by
 intro pins s σ H Q I h;refine wpAny_Call_Name_kw (ld_blt I hg hm hv ?_ hn hdb);refine PyProof.Rows.callWith_type1 ?_ he rfl;rw [he];refine Calls.spliced_cons (wpAny_Call_method0_late hbase hline (thn (ho pins s σ H _ I h) λu s1 ⟨y,H1,I1,ry,a,kvs,ey,d,q1⟩=>?_));subst ey;obtain rfl:u=Value.ref a:=ry;obtain ⟨t1,t2,_⟩:=isD_at I1 (.inl ⟨kvs,d⟩);obtain ⟨z,hd,vs,rel,dd⟩:=dk_rd I1.hok d;refine ⟨"dict","dict.values",PySem.F.plainAttrs_dict,PySem.F.slot_dict_values,PySem.F.type_dict_values,t1,t2,Calls.callWith_builtin rfl (PySem.evalArgs_none ?_)⟩;refine call_meetsIn PySem.F.slot_dict_values dd.typeIs PySem.F.entry_dict_values (PySem.F.args_dict_values_1 _) (meets_dict_values (mixKind X.prog X.w) a hd) ⟨⟨vs,dd⟩,Calls.spliced_nil ?_⟩;obtain ⟨ep,hat⟩:=(dd.push { cls:=.type "dict_values",data:=.fields #[.ref a] }).dictAt;have I2:=I1.kept (t':=s1.toks) (h':=s1.heap.push { cls:=.type "dict_values",data:=.fields #[.ref a] }) λ_ _ q=>Heap.get?_push_of_some _ q;have vl:=rel.length;refine PySem.W.kdl_call (PySem.W.kdl_values (knd:=mixKind X.prog X.w) (kvs:=vs) (ep:=ep)) (I1.ok.hd hh) ⟨⟨_,Heap.get?_push_size _ rfl,rfl,rfl⟩,hat⟩ (by lia) λh' tk acc' c' hk hS hacc=>?_;refine ⟨.ref _,_,I2.laid (o:=.lst (kvs.map (·.2))) hk (Nat.le_refl _) ⟨by rwa [List.length_map],acc'.toList,c',by rw [(PySem.W.kdl_vals_eq acc'.toList (by rw [Array.length_toList];exact hacc.1) λj v hj=>hacc.2 j v (by simp_all))];exact rel.vals,by assumption⟩,rfl,q1 _ (I2.hok.fresh (Nat.le_refl _))⟩
end
end L2
namespace L2
open PySem PySem.Spec PyProof.Rows
section
open SetTable
def way (t:SetTable) (h:Int):Nat->Probe
 | 0=>t.probeStart h
 | n+1=>t.advance (way t h n)
end
end L2
namespace L2
open PySem PySem.Spec PyProof.Rows
section
open SetTable
variable {mask:Nat}
end
end L2
namespace L2
open PySem PySem.Spec PyProof.Rows
section
variable {P:Program}{w:World}{A:Around}{E:Value->Shared->Prop}{s:Shared}
abbrev tK (P:Program) (w:World):=tupleKind (mixKind P w)
variable {kf:Addr->Int×Str}{a x:Addr}{o:Obj}{es:Array (Int×Value)}{ep:Nat}{t:SetTable}
def hK (P:Program) (w:World) (k:Int×Str):Int:=(tK P w).hash [.inl k.1,.inr k.2]
end
end L2
namespace L2
open PySem PySem.Spec PyProof.Rows
def txtOf:Value->Str
 | .str x _=>x
 | _=>Str.empty
theorem lay_led (t:SetTable) (es:Array (Int×Value)) (h:Int) (x:Value):(layNew t es h x).2.1.led=t.led:=by
 grind [layNew,SetTable.put,SetTable.orStandIn,SetTable.standIn]
theorem relay_led (t:SetTable) (es:Array (Int×Value)) (n:Nat):(relayAll t es n).2.1.led=t.led/\(t.plain=false->(relayAll t es n).2.1.plain=false):=by
 unfold relayAll
 split
 ·rename_i t' order e;simp only [SetTable.relaid,SetTable.laid] at e;have:t'.led=t.led/\t'.plain=t.plain:=by
   cases h:SetTable.layClean (SetTable.sizeAbove n - 1) (es.map (·.1)) with
   | none=>rw [h] at e;cases e
   | some o=>
    grind
  dsimp only
  split
  ·lia
  ·exact ⟨rfl,λ_=>rfl⟩
 ·exact ⟨rfl,λ_=>rfl⟩
section
variable {P:Program}{w:World}
def SetX (P:Program) (w:World) (byT:Bool) (h:Heap) (a:Addr) (us:List Str):Prop:=∃ o es ep t,h.get? a=some o/\o.ExactSet/\o.data = .set es ep t/\ElemsOf (mixKind P w) es.toList/\es.size<scanBound/\t.fits es.size=true/\t.led=(!byT)/\(us≠[]->t.plain=false)/\(∀ e∈es.toList,∃ x tk,e.2 = .str x tk)/\(es.toList.map λe=>txtOf e.2).Perm us
theorem SetX.keep {byT:Bool}{h h':Heap}{a:Addr}{us:List Str} (x:SetX P w byT h a us) (k:∀ o,h.get? a=some o->h'.get? a=some o):SetX P w byT h' a us:=by
 obtain ⟨o,es,ep,t,ho,r⟩:=x;exact ⟨o,es,ep,t,k o ho,r⟩
theorem setx_empty {byT:Bool}{h:Heap}{a:Addr} (hg:h.get? a=some { cls:=.type "set",dict:=none,data:=.set #[] 0 (.fresh 0 0 (!byT)) }):SetX P w byT h a []:=
 ⟨_,#[],0,_,hg,⟨rfl,rfl,rfl⟩,rfl,(λe he=>by simp at he),by decide,by rfl,rfl,λz=>(z rfl).elim,(λe he=>by simp at he),by simp⟩
theorem setx_store {byT:Bool}{h:Heap}{a:Addr}{o:Obj}{es es':Array (Int×Value)}{ep:Nat}{t t':SetTable}{us:List Str} (ho:h.get? a=some o) (hex:o.ExactSet) (hd:o.data = .set es ep t)
  (hel:ElemsOf (mixKind P w) es'.toList) (hb:es'.size<scanBound) (hf:t'.fits es'.size=true) (hl:t'.led = !byT) (hp:us≠[]->t'.plain=false) (hs:∀ e∈es'.toList,∃ x tk,e.2 = .str x tk) (hm:(es'.toList.map λe=>txtOf e.2).Perm us) :
  (h.update a (Obj.putSet es' t')).get? a=some { o with data:=.set es' (ep+1) t' }/\SetX P w byT (h.update a (Obj.putSet es' t')) a us:=by
 have q:=Heap.get?_update_self (Obj.putSet es' t') ho (by rw [putSet_of es' t' hd];rfl);rw [putSet_of es' t' hd] at q;exact ⟨q,_,es',ep+1,t',q,hex,rfl,hel,hb,hf,hl,hp,hs,hm⟩
variable {s:Shared}{A:Around}{E:Value->Shared->Prop}
theorem setx_has {byT:Bool}{h:Heap}{a:Addr}{us:List Str}{x:Str}{es:Array (Int×Value)} (hs:∀ e∈es.toList,∃ x tk,e.2 = .str x tk) (hm:(es.toList.map λe=>txtOf e.2).Perm us):(∃ e∈es.toList,(mixKind P w).is (.inr x) e.2=true)↔x∈us:=by
 rw [<-hm.mem_iff,List.mem_map];constructor
 ·rintro ⟨e,he,hk⟩;obtain ⟨tk,e2⟩:=is_kV hk;exact ⟨e,he,by rw [e2];rfl⟩
 ·rintro ⟨e,he,hk⟩;obtain ⟨y,tk,e2⟩:=hs e he;rw [e2] at hk;have:y=x:=hk
  grind [mixKind_str]
theorem setx_add {byT:Bool}{a:Addr}{us:List Str}{x:Str}{tk:Tok}{Q:Bool->Shared->Prop} (hS:SetX P w byT s.heap a us) (hroom:us.length+1<scanBound)
  (h:∀ h' b,Heap.SameBut a s.heap h'->SetX P w byT h' a (if x∈us then us else us++[x])->Q b { s with heap:=h' }) :
  wpAny (model P w) A (setAddHashed a (.str x tk) ((mixKind P w).hash (.inr x))) Q E s:=by
 obtain ⟨o,es,ep,t,ho,hex,hd,hel,hb,hf,hl,hp,hs,hm⟩:=id hS;have hkey:=mixKind_str P w x tk;have hsc:(Value.str x tk).scannable=true:=rfl;have hn:es.size=us.length:=by
  have:=hm.length_eq
  simp_all
 refine wpAny_holding ?_;refine wpAny_bind (wpAny_setState_of ho hd hf ?_);dsimp only;rw [(byScan_of hsc hb hel),if_pos rfl];refine wpAny_bind (wpAny_bind (wpAny_rule (wpAny_bind (wpAny_setScan_of hkey ho hd hf hel ?_))));have hhas:=setx_has (P:=P) (w:=w) (byT:=byT) (h:=s.heap) (a:=a) (x:=x) hs hm;cases hr:List.findIdx? (λe=>(mixKind P w).is (.inr x) e.2) es.toList with
 | some j=>
  obtain ⟨hj,hpj,_⟩:=List.findIdx?_eq_some_iff_getElem.mp hr;exact wpAny_pure (wpAny_pure (h s.heap false (Heap.SameBut.refl a s.heap) (by grind)))
 | none=>
  have hin:x∉us:=λz=>by
   grind
  have hgw:∀ (b:Bool) {s₁:Shared}{Q':Unit->Shared->Prop},Q' () s₁->wpAny (model P w) A (match b with | true=>rule "set.scan.the-table-gave-way" | false=>pure ()) Q' E s₁:=
   λb _ _ q=>match b with
    | true=>wpAny_rule q
    | false=>wpAny_pure q
  have hperm:=layNew_perm t es ((mixKind P w).hash (.inr x)) (.str x tk);have hfits:=layNew_fits t es ((mixKind P w).hash (.inr x)) (.str x tk);have hled:=lay_led t es ((mixKind P w).hash (.inr x)) (.str x tk);generalize layNew t es ((mixKind P w).hash (.inr x)) (.str x tk)=L at hperm hfits hled ⊢;obtain ⟨es1,t1,dm,gave⟩:=L;rw [Array.toList_push] at hperm;have hel1:=(hel.push hkey hsc).perm hperm;have hs1:∀ e∈es1.toList,∃ x tk,e.2 = .str x tk:=λe he=>by
   grind
  have hm1:(es1.toList.map λe=>txtOf e.2).Perm (us++[x]):=by
   refine (hperm.map _).trans ?_;rw [List.map_append];exact hm.append_right _
  have hb1':es1.size<scanBound:=by rw [<-Array.length_toList,hperm.length_eq,List.length_append,Array.length_toList];simpa using (hn ▸ hroom)
  refine wpAny_bind (hgw _ ?_);have hend:∀ h',Heap.SameBut a s.heap h'->SetX P w byT h' a (us++[x])->Q true { s with heap:=h' }:=λh' sb hx=>h h' true sb (by rwa [if_neg hin]);have pk:plainKind (.str x tk)=false:=rfl;have ft:({ t1 with plain:=false }:SetTable).fits es1.size=true/\({ t1 with plain:=false }:SetTable).led=(!byT)/\({ t1 with plain:=false }:SetTable).plain=false:=⟨SetTable.fits_plain_off hfits,hled.trans hl,rfl⟩;have fs:t1.plain=false->t1.fits es1.size=true/\t1.led=(!byT)/\t1.plain=false:=λz=>⟨hfits,hled.trans hl,z⟩;cases hpl:t1.plain
  ·have f2:=fs hpl;clear fs ft;rw [if_neg (by decide)];refine wpAny_bind (wpAny_pure ?_);simp only [if_true];generalize t1=t2 at f2 ⊢;obtain ⟨ho2,hS2⟩:=setx_store (P:=P) (w:=w) (us:=us++[x]) ho hex hd hel1 hb1' f2.1 f2.2.1 (λ_=>f2.2.2) hs1 hm1;have sb2:=Heap.SameBut.update s.heap a (Obj.putSet es1 t2);refine wpAny_bind (wpAny_storeSet_of ho hd ?_ (fits_of_scanBound hb1'));refine wpAny_ite_split (λ_=>?_) λ_=>wpAny_pure (wpAny_pure (hend _ sb2 hS2));obtain ⟨rp,rf⟩:=And.intro (relayAll_perm t2 es1 (SetTable.grown es1.size)) (relayAll_fits t2 es1 (SetTable.grown es1.size));obtain ⟨rl1,rl2⟩:=relay_led t2 es1 (SetTable.grown es1.size);generalize relayAll t2 es1 (SetTable.grown es1.size)=Z at rp rf rl1 rl2 ⊢;have zb:Z.1.size<scanBound:=by
    have e:=rp.length_eq
    simp_all
   obtain ⟨_,hS3⟩:=setx_store (P:=P) (w:=w) (us:=us++[x]) ho2 hex rfl (hel1.perm rp) zb rf (rl1.trans f2.2.1) (λ_=>rl2 f2.2.2) (λe he=>hs1 e (rp.mem_iff.mp he)) ((rp.map _).trans hm1);refine wpAny_bind (hgw _ (wpAny_bind (wpAny_storeSet_of ho2 rfl ?_ (fits_of_scanBound zb))));exact wpAny_pure (wpAny_pure (hend _ (sb2.trans (Heap.SameBut.update _ a _)) hS3))
  ·have f2:=ft;clear fs ft;rw [if_pos rfl,hashByValue_scannable 8 hsc];refine wpAny_bind (wpAny_pure ?_);simp only [pk,Bool.false_eq_true,if_false];generalize ({ t1 with plain:=false }:SetTable)=t2 at f2 ⊢;obtain ⟨ho2,hS2⟩:=setx_store (P:=P) (w:=w) (us:=us++[x]) ho hex hd hel1 hb1' f2.1 f2.2.1 (λ_=>f2.2.2) hs1 hm1;have sb2:=Heap.SameBut.update s.heap a (Obj.putSet es1 t2);refine wpAny_bind (wpAny_storeSet_of ho hd ?_ (fits_of_scanBound hb1'));refine wpAny_ite_split (λ_=>?_) λ_=>wpAny_pure (wpAny_pure (hend _ sb2 hS2));obtain ⟨rp,rf⟩:=And.intro (relayAll_perm t2 es1 (SetTable.grown es1.size)) (relayAll_fits t2 es1 (SetTable.grown es1.size));obtain ⟨rl1,rl2⟩:=relay_led t2 es1 (SetTable.grown es1.size);generalize relayAll t2 es1 (SetTable.grown es1.size)=Z at rp rf rl1 rl2 ⊢;have zb:Z.1.size<scanBound:=by
    have e:=rp.length_eq
    simp_all
   obtain ⟨_,hS3⟩:=setx_store (P:=P) (w:=w) (us:=us++[x]) ho2 hex rfl (hel1.perm rp) zb rf (rl1.trans f2.2.1) (λ_=>rl2 f2.2.2) (λe he=>hs1 e (rp.mem_iff.mp he)) ((rp.map _).trans hm1);refine wpAny_bind (hgw _ (wpAny_bind (wpAny_storeSet_of ho2 rfl ?_ (fits_of_scanBound zb))));exact wpAny_pure (wpAny_pure (hend _ (sb2.trans (Heap.SameBut.update _ a _)) hS3))
def dedS:List Str->List Str->List Str
 | us,[]=>us
 | us,x::r=>dedS (if x∈us then us else us++[x]) r
theorem ded_len:∀ (zs us:List Str),(dedS us zs).length<=us.length+zs.length
 | [],us=>Nat.le_refl _
 | x::r,us=>by
  have:=ded_len r (if x∈us then us else us++[x]);unfold dedS
  grind
theorem ded_nodup:∀ (zs us:List Str),us.Nodup->(dedS us zs).Nodup
 | [],us,h=>h
 | y::r,us,h=>by
  refine ded_nodup r _ ?_
  grind
theorem setx_loop {byT:Bool}{R:Result->Shared->Prop}{I:Addr}{fp wr:List Addr}{G:Array GenState->Array GenState->Prop}{n:Nat}{Pv:Nat->Value->Prop}{St:Nat->Shared->Prop} (W:WalksS P w A.in1 I fp wr G n Pv St) (S:Addr) (hSf:S∉fp)
  (zs:List Str) (hz:zs.length=n) (hval:∀ i v,Pv i v->∃ x t,zs[i]? = some x/\v = .str x t) (hb:n+1<scanBound) :
  ∀ (r:List Str) (i:Nat) (s:Shared) (us:List Str),r=zs.drop i->i<=n->us.length<=i->St i s->SetX P w byT s.heap S us ->
   (∀ s',Moved (S::wr) G s s'->SetX P w byT s'.heap S (dedS us r)->R (.ok (.ret .none)) s') ->
   codeAny (model P w) A (.builtin "set.update.loop" ⟨[.ref S,.ref I],[]⟩) R s:=by
 have hSw:=mt (W.sub S) hSf;have hsub:=λb (z:b∈wr)=>List.mem_cons_of_mem S z;intro r
 induction r with
 | nil=>
  intro i s us hr hi hus hst hS hR;have hin:i=n:=by
   have:=List.drop_eq_nil_iff.mp hr.symm;lia
  subst hin;refine codeAny_builtin PyProof.Rows.F.entry_set_update_loop ?_;rw [Around.under_plainId PyProof.Rows.F.plain_set_update_loop _];refine wpAny_bind (m:=pyNext (.ref I)) (W.done s _ _ hst λs' hm=>?_);exact wpAny_pure (hR s' (hm.mono hsub) (hS.keep λo e=>hm.heap S _ hSw e))
 | cons x r ih=>
  intro i s us hr hi hus hst hS hR;have hlt:i<zs.length:=by
   grind
  have hxe:zs[i]? = some x/\r=zs.drop (i+1):=by
   rw [List.drop_eq_getElem_cons hlt] at hr
   grind
  refine codeAny_builtin PyProof.Rows.F.entry_set_update_loop ?_;rw [Around.under_plainId PyProof.Rows.F.plain_set_update_loop _];refine wpAny_bind (m:=pyNext (.ref I)) (W.item i s _ _ (by lia) hst λv s' hP hst' hm=>?_);obtain ⟨x',t,hx',rfl⟩:=hval i v hP;rw [hxe.1] at hx';cases hx';refine wpAny_bind (wpAny_holding ?_);refine wpAny_holding ?_;refine wpAny_bind ((mixKind P w).pyHash (k:=.inr x) (mixKind_str P w x t) ?_);refine setx_add (s:={ s' with toks:=s'.toks+1 }) (hS.keep λo e=>hm.heap S _ hSw e) (by lia) λh' b sb hS2=>?_;refine wpAny_pure ⟨plainId_quiet PyProof.Rows.F.plain_set_update_loop _,ih (i+1) _ _ hxe.2 (by lia) ?_ (W.frame _ s' _ _ hst' (Nat.le_succ _) λb hb o e=>?_) hS2 λs'' hm'' hS''=>?_⟩
  ·grind
  ·rw [sb.2 b (λh:b=S=>hSf (by rwa [<-h]))];exact e
  ·have first:=hm.mono hsub
   exact hR s'' (Moved.trans W.gtrans (first.then_heap (Nat.le_succ s'.toks) (h':=h') λb o hb e=>(sb.2 b λz=>hb (z ▸ List.mem_cons_self)).trans e) hm'') hS''
def byTx (w:World):Bool:=w.params.followText "set-order"
def fSet (w:World):Obj:={ cls:=.type "set",dict:=none,data:=.set #[] 0 (.fresh 0 0 (!byTx w)) }
theorem set_new (a:Value) {Q₁:Value->Shared->Prop} (h:Q₁ (.ref s.heap.objs.size) { s with heap:=s.heap.push (fSet w) }) :
  codeAny (model P w) A (.call (.builtin "set.__new__") ⟨[.type "set",a],[]⟩) (wants Q₁ E) s:=by
 have key:∀ led,led=(!byTx w)->Q₁ (.ref s.heap.objs.size) { s with heap:=s.heap.push { cls:=.type "set",dict:=none,data:=.set #[] 0 (.fresh 0 0 led) } }:=λled e=>by subst e;exact h
 refine codeAny_of_tree (wpAny_bind (m:=checkBuiltinCall "set.__new__" ⟨[.type "set",a],[]⟩) (wpAny_of_eq (PySem.F.newCall_set_1 a) (wpAny_pure ⟨plainId_quiet PySem.F.plain_set_new _,codeAny_builtin PySem.F.entry_set_new ?_⟩)));rw [Around.under_plainId PySem.F.plain_set_new _];have hsub:=sub_set_self;clear h;obtain ⟨hp,g,d,tk,os⟩:=s
 wp_walk
 refine wpAny_askSetting (wpAny_pure ?_);exact wpAny_bind (wpAny_alloc (wpAny_pure (wpAny_pure (key _ rfl))))
theorem set_fill {l a:Addr}{items:Array Value}{zs:List Str}{Q:PySem.Fin->Shared->Prop} (hh:A.handled=none) (hl:s.heap.IsList l items) (hi:Vals (zs.map V.str) items.toList) (hb:items.size+1<scanBound) (ha:s.heap.get? a=some (fSet w)) (hal:l≠a)
  (h:∀ (h':Heap) (tk:Nat),SetX P w (byTx w) h' a (dedS [] zs)->(∀ b o,b≠a->s.heap.get? b=some o->h'.get? b=some o)->Q (.done (.ret .none)) { s with heap:=h',toks:=tk }) :
  wpAny (model P w) A (Builtin.«set.__init__» ⟨[.ref a,.ref l],[]⟩) Q E s:=by
 obtain ⟨ol,hol,hcl,nl,hdl⟩:=id hl;obtain ⟨ocls,odict,odata,oslots⟩:=ol;subst hcl hdl;have hsls:=PySem.F.sub_list_set;have hslf:=PySem.F.sub_list_frozenset;unfold Builtin.«set.__init__» noKeywords Builtin.Frozenset.updateFrom;generalize hPI:pyIter=PI
 wp_walk
 subst hPI;refine wpAny_pyIter_list hl (wpAny_bind (wpAny_runValue ?_));have hlen:zs.length=items.size:=by have:=hi.length;rwa [List.length_map,Array.length_toList] at this
 refine setx_loop (byT:=byTx w) ((Walks.list (show A.in1.handled=none from hh) s.heap.objs.size l (Nat.ne_of_lt (Heap.lt_size hol)) items).toS) a (by simp only [List.mem_cons,List.not_mem_nil,or_false,not_or];exact ⟨Nat.ne_of_lt (Heap.lt_size ha),hal.symm⟩) zs hlen (λi v hv=>?_) hb zs 0 _ [] rfl (Nat.zero_le _) (Nat.le_refl _)
  ⟨⟨_,Heap.get?_push_size _ rfl,rfl,rfl⟩,hl.push _⟩ (setx_empty (Heap.get?_push_of_some _ ha)) λs' hm hS'=>?_
 ·have hv':items.toList[i]? = some v:=by rwa [Array.getElem?_toList]
  have hiz:i<zs.length:=by grind
  obtain ⟨x,hx⟩:∃ x,zs[i]? = some x:=⟨zs[i],List.getElem?_eq_getElem hiz⟩;obtain ⟨u,hu,ru⟩:=hi.get (i:=i) (x:=.str x) (by simp_all);rw [hv'] at hu;cases hu;obtain ⟨t,rfl⟩:=ru;exact ⟨x,t,hx,rfl⟩
 ·obtain ⟨h',g',d',tk',os'⟩:=s';obtain rfl:g' = s.gens:=hm.gens;obtain rfl:d' = s.drawn:=hm.drawn;obtain rfl:os' = s.os:=hm.os;refine wpAny_pure (wpAny_pure (h h' tk' hS' λb o hb e=>hm.heap b o (λz=>?_) (Heap.get?_push_of_some _ e)));rcases List.mem_cons.mp z with z | z
  ·exact hb z
  ·exact absurd (Heap.lt_size e) (by simp_all)
set_option maxHeartbeats 3000000 in
theorem call_set_strs {l:Addr}{items:Array Value}{zs:List Str}{Q:Value->Shared->Prop} (hh:A.handled=none) (hl:s.heap.IsList l items) (hi:Vals (zs.map V.str) items.toList) (hb:items.size+1<scanBound)
  (h:∀ (h':Heap) (tk:Nat),SetX P w (byTx w) h' s.heap.objs.size (dedS [] zs)->(∀ b o,s.heap.get? b=some o->h'.get? b=some o)->Q (.ref s.heap.objs.size) { s with heap:=h',toks:=tk }) :
  wpAny (model P w) A (call (.type "set") [.ref l]) Q E s:=by
 obtain ⟨c,tl,hmro⟩:=PySem.F.called_set.mro;have hmade:=PySem.F.called_set.made;have hsub:=PySem.F.called_set.sub;refine wpAny_call (codeAny_of_tree (show wpAny _ _ (callAny (.type "set") _) _ _ _ from wpAny_pure ⟨Code.quiet_builtin _ (by decide +kernel),codeAny_builtin PySem.F.entry_type_call ?_⟩));rw [Around.under_plain (weight_type_call_type "set" [.ref l] []) rfl]
 repeat any_goals (first | assumption | wp_step)
 refine codeAny_mono (set_new (P:=P) (w:=w) (.ref l) (E:=E) (Q₁:=λobj s₁=>obj = .ref s.heap.objs.size/\s₁={ s with heap:=s.heap.push (fSet w) }) ⟨rfl,rfl⟩) λr s₁ hr=>?_;cases r with
 | error e=>exact hr
 | ok fl=>
  cases fl with
  | ret obj=>
   obtain ⟨rfl,rfl⟩:=hr;have hS:(s.heap.push (fSet w)).get? s.heap.objs.size=some (fSet w):=Heap.get?_push_size _ rfl;have hT:Shared.TypeIs { s with heap:=s.heap.push (fSet w) } (.ref s.heap.objs.size) "set" :=⟨_,hS,rfl⟩;have hli:=PySem.F.called_set.init.lookup;have hbi:=PySem.F.called_set.init.bind (.ref s.heap.objs.size)
   repeat any_goals (first | assumption | wp_step)
   refine codeAny_mono (codeAny_call_builtin (R:=wants (λr s₂=>r = .none/\Q (.ref s.heap.objs.size) s₂) E) PySem.F.called_set.init.plain PySem.F.entry_set_init (check_set_init_1 hT ?_)) λr₂ s₂ hr₂=>?_
   ·have hla:l<s.heap.objs.size:=by obtain ⟨_,e,_⟩:=hl;exact Heap.lt_size e
    refine set_fill (A:=A.in1.in1) hh (hl.push _) hi hb hS (Nat.ne_of_lt hla) λh' tk hx hk=>?_;exact ⟨rfl,h h' tk hx λb o e=>hk b o (Nat.ne_of_lt (Heap.lt_size e)) (Heap.get?_push_of_some _ e)⟩
   ·cases r₂ with
    | error e=>exact hr₂
    | ok fl₂=>
     cases fl₂ with
     | ret r=>
      obtain ⟨rfl,hq⟩:=hr₂
      repeat any_goals (first | assumption | wp_step)
     | _=>exact hr₂.elim
  | _=>exact hr.elim
end
end L2
namespace L2
open PySem PySem.Spec PyProof.Rows PySem.W
namespace SF
theorem slot_next:Slot "set_iterator" "__next__" "set_iterator.__next__" :=
 .of (owner:= "set_iterator") (n:= "__next__") (by rw [typeLookup_type,builtinLookup_eq_fast];kernel_rfl) (by decide +kernel) (by decide +kernel) (by decide +kernel) (by first | exact .inl (by decide +kernel) | exact .inr (by decide +kernel)) (by rw [isSubtype_type];kernel_rfl)
theorem slot_iter:Slot "set_iterator" "__iter__" "set_iterator.__iter__" :=
 .of (owner:= "set_iterator") (n:= "__iter__") (by rw [typeLookup_type,builtinLookup_eq_fast];kernel_rfl) (by decide +kernel) (by decide +kernel) (by decide +kernel) (by first | exact .inl (by decide +kernel) | exact .inr (by decide +kernel)) (by rw [isSubtype_type];kernel_rfl)
theorem entry_next:entryFor table "set_iterator.__next__" = some Builtin.«set_iterator.__next__»:=entryFor_of_tree (by kernel_rfl)
theorem args_next (a:Value):argsOk "set_iterator.__next__" ⟨[a],[]⟩:=by unfold argsOk;kernel_rfl
theorem args_iter (a:Value):argsOk "set_iterator.__iter__" ⟨[a],[]⟩:=by unfold argsOk;kernel_rfl
theorem entry_set_iter:entryFor table "set.__iter__" = some Builtin.«frozenset.__iter__»:=entryFor_alias (id':= "frozenset.__iter__") (by kernel_rfl) rfl (by decide +kernel) (by kernel_rfl)
theorem entry_iter:entryFor table "set_iterator.__iter__" = some Builtin.«dict_keyiterator.__iter__»:=entryFor_alias (id':= "dict_keyiterator.__iter__") (by kernel_rfl) rfl (by decide +kernel) (by kernel_rfl)
end SF
section
variable {P:Program}{w:World}{A:Around}{E:Value->Shared->Prop}{s:Shared}
theorem wpAny_choose {M:Model}{src:Source}{n:Nat}{Q:Nat->Shared->Prop} (hn:n≠0) (h:∀ i d,i<n->Q i { s with drawn:=d }):wpAny M A (choose src n) Q E s:=λΓ p hΓ=>by
 unfold choose;rw [Sem.wp_choose];exact ⟨hn,h _ _ (Nat.mod_lt _ (Nat.pos_of_ne_zero hn))⟩
theorem erase_perm {α:Type}:∀ (l:List α) (i:Nat) (h:i<l.length),(l[i]::l.eraseIdx i).Perm l
 | [],_,h=>by cases h
 | x::r,0,_=>List.Perm.refl _
 | x::r,i+1,h=>by
  exact (List.Perm.swap _ _ _).trans (List.Perm.cons _ (erase_perm r i (by simpa using h)))
theorem wpAny_drawOrder {M:Model}{α:Type}:∀ (n:Nat) (xs:List α) (s:Shared) {Q:List α->Shared->Prop},xs.length=n->(∀ ys d,ys.Perm xs->Q ys { s with drawn:=d })->wpAny M A (drawOrder n xs) Q E s
 | 0,xs,s,Q,hn,h=>by
  have:xs=[]:=List.length_eq_zero_iff.mp hn;subst this;exact wpAny_pure (h [] s.drawn (List.Perm.refl _))
 | n+1,[],s,Q,hn,h=>by cases hn
 | n+1,x::xs,s,Q,hn,h=>by
  refine wpAny_bind (wpAny_choose (by simp) λi d hi=>?_);rw [List.getElem?_eq_getElem hi];refine wpAny_bind (wpAny_drawOrder n _ _ (by grind) λys d' hp=>wpAny_pure (h _ d' ?_));exact (List.Perm.cons _ hp).trans (erase_perm _ i hi)
def sitO (first:Value) (i:Nat) (a:Addr) (n ep:Nat):Obj:={ cls:=.type "set_iterator",data:=.fields #[first,.int i 0,.ref a,.int n 0,.int ep 0] }
structure SAt (h:Heap) (a:Addr) (es:Array (Int×Value)) (ep:Nat) (t:SetTable):Prop where
 ob:∃ o,h.get? a=some o/\o.ExactSet/\o.data = .set es ep t
 ft:t.fits es.size=true
theorem wpAny_entries {a:Addr}{es:Array (Int×Value)}{ep:Nat}{tb:SetTable}{Q:Array (Int×Value)->Shared->Prop} (hs:SAt s.heap a es ep tb) (h:Q es s):wpAny (model P w) A (setEntries a) Q E s:=by
 obtain ⟨o,ho,_,hd⟩:=hs.ob;exact wpAny_bind (wpAny_setState_of ho hd hs.ft (wpAny_pure h))
theorem size_same (n:Nat):¬ (((n:Int) != (n:Int))=true):=by simp
theorem stop_now {M:Model}{α:Type}{R:α->Shared->Prop} (hh:A.handled=none) (h:∀ h' e o,(∀ b o,s.heap.get? b=some o->h'.get? b=some o)->h'.get? e=some o->o.cls = .type "StopIteration" -> E (.ref e) { s with heap:=h' }):wpAny M A (newExc (.type "StopIteration") [] >>= λe=>(raiseNew e:Sem α)) R E s:=by
 refine wpAny_bind ?_;refine wpAny_bind (wpAny_newObj_type ?_ (by size_fits));have fa:(firstArgMember (.type "StopIteration") []:Sem Value)=pure Value.none:=by first | rfl | (unfold firstArgMember;rfl)
 rw [fa];refine wpAny_bind (wpAny_pure (wpAny_newObj_type ?_ (by size_fits)));refine wpAny_bind (wpAny_handled ?_);rw [hh];exact wpAny_bind (wpAny_pure (wpAny_throw (h _ _ _ (λb o e=>Heap.get?_push_of_some _ (Heap.get?_push_of_some _ e)) (Heap.get?_push_size _ rfl) rfl)))
theorem sit_call {it a:Addr}{first:Value}{i n ep:Nat}{Q:Option Value->Shared->Prop} (hit:s.heap.get? it=some (sitO first i a n ep))
  (h:wpAny (model P w) A.in1 (Builtin.«set_iterator.__next__» ⟨[.ref it],[]⟩) (λf s'=>∃ v,f = .done (.ret v)/\Q (some v) s') (λe s'=>∃ b o,e = .ref b/\s'.heap.get? b=some o/\o.cls = .type "StopIteration" /\ Q none s') s) :
  wpAny (model P w) A (pyNext (.ref it)) Q E s:=by
 have hty:s.TypeIs (.ref it) "set_iterator" :=⟨_,hit,rfl⟩;refine wpAny_bind (wpAny_attempt (wpAny_callSpecial?_slot (name:=Str.ofString "__next__") hty SF.slot_next (wpAny_call_entry SF.slot_next hty SF.entry_next ?_ (SF.args_next _))));refine wpAny_mono h (λf s' ⟨v,e,q⟩=>?_) λe s' ⟨b,o,eb,ho,hc,q⟩=>?_
 ·grind [wpAny_pure]
 ·subst eb;exact wpAny_bind (wpAny_isInstance (T:= "StopIteration") (b:=true) ⟨o,ho,hc⟩ isSubtype_stop (wpAny_pure q))
theorem sit_set {it a:Addr}{first x:Value}{i n ep k:Nat}{vs:Array Value}{Q:Unit->Shared->Prop} (hit:s.heap.get? it=some { cls:=.type "set_iterator",data:=.fields vs }) (hk:k<vs.size)
  (h:∀ h',Heap.SameBut it s.heap h'->h'.get? it=some { cls:=.type "set_iterator",data:=.fields (vs.setIfInBounds k x) }->Q () { s with heap:=h' }):wpAny (model P w) A (setField (.ref it) k x) Q E s:=
 wpAny_setField_rec hit hk λh' e sb=>h h' sb e
theorem sit_some {it a:Addr}{slot i ep nx:Nat}{x:Value}{es:Array (Int×Value)}{tb:SetTable}{Q:Option Value->Shared->Prop} (hit:s.heap.get? it=some (sitO (.int slot 0) i a es.size ep)) (hs:SAt s.heap a es ep tb)
  (hn:∀ (A:Around) (E:Value->Shared->Prop) (R:Option (Value×Nat)->Shared->Prop),R (some (x,nx)) s->wpAny (model P w) A (setNext a slot i ep) R E s)
  (h:∀ h',Heap.SameBut it s.heap h'->h'.get? it=some (sitO (.int nx 0) (i+1:Nat) a es.size ep)->Q (some x) { s with heap:=h' }):wpAny (model P w) A (pyNext (.ref it)) Q E s:=by
 refine sit_call hit ?_;refine wpAny_bind (wpAny_pure ?_);refine wpAny_bind (wpAny_fieldsOf hit rfl ?_);refine wpAny_bind (wpAny_entries hs ?_);rw [if_neg (size_same es.size)];refine wpAny_bind (hn _ _ _ ?_);refine wpAny_bind (sit_set (a:=a) (first:=x) (i:=i) (n:=0) (ep:=ep) hit (by simp) λh1 sb1 hit1=>?_);refine wpAny_bind (sit_set (a:=a) (first:=x) (i:=i) (n:=0) (ep:=ep) hit1 (by simp) λh2 sb2 hit2=>?_);exact wpAny_pure ⟨x,rfl,h h2 (sb1.trans sb2) hit2⟩
theorem sit_none {it a:Addr}{slot i ep:Nat}{es:Array (Int×Value)}{tb:SetTable}{Q:Option Value->Shared->Prop} (hh:A.handled=none) (hit:s.heap.get? it=some (sitO (.int slot 0) i a es.size ep)) (hs:SAt s.heap a es ep tb)
  (hn:∀ (A:Around) (E:Value->Shared->Prop) (R:Option (Value×Nat)->Shared->Prop),R none s->wpAny (model P w) A (setNext a slot i ep) R E s)
  (h:∀ h',(∀ b o,b≠it->s.heap.get? b=some o->h'.get? b=some o)->Q none { s with heap:=h' }):wpAny (model P w) A (pyNext (.ref it)) Q E s:=by
 refine sit_call hit ?_;refine wpAny_bind (wpAny_pure ?_);refine wpAny_bind (wpAny_fieldsOf hit rfl ?_);refine wpAny_bind (wpAny_entries hs ?_);rw [if_neg (size_same es.size)];refine wpAny_bind (hn _ _ _ ?_);refine wpAny_bind (sit_set (a:=a) (first:=.none) (i:=i) (n:=0) (ep:=ep) hit (by simp) λh1 sb1 hit1=>?_);refine stop_now (s:={ s with heap:=h1 }) (show A.in1.handled=none from hh) λh' e o hk ho hc=>⟨e,o,rfl,ho,hc,h h' λb ob hb he=>hk b ob ((sb1.2 b hb).trans he)⟩
theorem sit_someT {it a T:Addr}{i ep k:Nat}{hx:Int}{x:Value}{ps:List Nat}{es:Array (Int×Value)}{tb:SetTable}{oT:Obj}{nT:Nat}{Q:Option Value->Shared->Prop} (hit:s.heap.get? it=some (sitO (.ref T) i a es.size ep)) (hs:SAt s.heap a es ep tb)
  (hT:s.heap.get? T=some oT) (dT:oT.data = .seq (ps.map λ(j:Nat)=>rawInt j).toArray nT) (hp:ps[i]? = some k) (he:es[k]? = some (hx,x)) (h:∀ h',Heap.SameBut it s.heap h'->h'.get? it=some (sitO (.ref T) (i+1:Nat) a es.size ep)->Q (some x) { s with heap:=h' }) :
  wpAny (model P w) A (pyNext (.ref it)) Q E s:=by
 refine sit_call hit ?_;refine wpAny_bind (wpAny_pure ?_);refine wpAny_bind (wpAny_fieldsOf hit rfl ?_);refine wpAny_bind (wpAny_entries hs ?_);rw [if_neg (size_same es.size)];refine wpAny_bind (wpAny_seqItems hT dT ?_);have e1:(ps.map λ(j:Nat)=>rawInt j).toArray[(i:Int).toNat]? = some (.int k 0):=by
  rw [Int.toNat_natCast,List.getElem?_toArray,List.getElem?_map,hp];rfl
 dsimp only;rw [e1];refine wpAny_bind ?_;obtain ⟨o,ho,_,hd⟩:=hs.ob;refine wpAny_bind (wpAny_setState_of ho hd hs.ft ?_);dsimp only;rw [if_neg (by simp)];refine wpAny_bind (wpAny_pure ?_);rw [Int.toNat_natCast,he];refine wpAny_pure ?_;refine wpAny_bind (sit_set (a:=a) (first:=x) (i:=i) (n:=0) (ep:=ep) hit (by simp) λh1 sb1 hit1=>?_);exact wpAny_pure ⟨x,rfl,h h1 sb1 hit1⟩
theorem sit_noneT {it a T:Addr}{i ep:Nat}{ps:List Nat}{es:Array (Int×Value)}{tb:SetTable}{oT:Obj}{nT:Nat}{Q:Option Value->Shared->Prop} (hh:A.handled=none) (hit:s.heap.get? it=some (sitO (.ref T) i a es.size ep)) (hs:SAt s.heap a es ep tb)
  (hT:s.heap.get? T=some oT) (dT:oT.data = .seq (ps.map λ(j:Nat)=>rawInt j).toArray nT) (hp:ps[i]? = none) (h:∀ h',(∀ b o,b≠it->s.heap.get? b=some o->h'.get? b=some o)->Q none { s with heap:=h' }) :
  wpAny (model P w) A (pyNext (.ref it)) Q E s:=by
 refine sit_call hit ?_;refine wpAny_bind (wpAny_pure ?_);refine wpAny_bind (wpAny_fieldsOf hit rfl ?_);refine wpAny_bind (wpAny_entries hs ?_);rw [if_neg (size_same es.size)];refine wpAny_bind (wpAny_seqItems hT dT ?_);have e1:(ps.map λ(j:Nat)=>rawInt j).toArray[(i:Int).toNat]? = none:=by
  simp_all
 dsimp only;rw [e1];refine wpAny_bind (sit_set (a:=a) (first:=.none) (i:=i) (n:=0) (ep:=ep) hit (by simp) λh1 sb1 hit1=>?_);refine wpAny_bind (sit_set (a:=a) (first:=.none) (i:=i) (n:=0) (ep:=ep) hit1 (by simp) λh2 sb2 hit2=>?_);refine stop_now (s:={ s with heap:=h2 }) (show A.in1.handled=none from hh) λh' e o hk ho hc=>⟨e,o,rfl,ho,hc,h h' λb ob hb he=>hk b ob (((sb1.trans sb2).2 b hb).trans he)⟩
theorem pick_perm {α:Type} (next:Nat->Nat):∀ (n k:Nat) (l:List α) (out:Array α),l.length=n->((pickOrder.go next n k l out).toList).Perm (out.toList++l)
 | 0,k,l,out,hn=>by
  have:l=[]:=List.length_eq_zero_iff.mp hn;subst this;unfold pickOrder.go;simp
 | n+1,k,l,out,hn=>by
  unfold pickOrder.go;have hl:next k % l.length<l.length:=Nat.mod_lt _ (by lia);rw [List.getElem?_eq_getElem hl];refine (pick_perm next n (k+1) _ _ (by grind)).trans ?_
  grind [Array.toList_push,List.append_assoc,List.Perm.append_left,erase_perm]
theorem setNext_text {a:Addr}{slot i ep:Nat}{es:Array (Int×Value)}{tb:SetTable}{R:Option (Value×Nat)->Shared->Prop} (hb:byTx w=true) (hs:SAt s.heap a es ep tb)
  (h:R (((pickOrder (w.params.setOrder a ep) es)[i]?).map λe=>(e.2,slot)) s):wpAny (model P w) A (setNext a slot i ep) R E s:=by
 obtain ⟨o,ho,_,hd⟩:=hs.ob;refine wpAny_bind (wpAny_setState_of ho hd hs.ft ?_);refine wpAny_bind (wpAny_bind (wpAny_askSetting (wpAny_pure ?_)));show wpAny _ _ (if byTx w=true then _ else _) _ _ _;rw [if_pos hb,if_neg (by simp)];refine wpAny_bind ?_;refine wpAny_bind (wpAny_setState_of ho hd hs.ft ?_);refine wpAny_bind (wpAny_bind (wpAny_askSetting (wpAny_pure ?_)));show wpAny _ _ (if byTx w=true then _ else _) _ _ _;rw [if_pos hb];exact wpAny_bind (wpAny_askSetting (wpAny_pure (wpAny_pure h)))
theorem setNext_one {a:Addr}{slot i ep:Nat}{es:Array (Int×Value)}{tb:SetTable}{R:Option (Value×Nat)->Shared->Prop} (hb:byTx w=false) (hl:tb.led=true) (h1:es.size<=1) (hs:SAt s.heap a es ep tb)
  (h:R (match es[SetTable.below tb.place slot]?,tb.place[SetTable.below tb.place slot]? with | some (_,x),some j=>some (x,j+1) | _,_=>none) s):wpAny (model P w) A (setNext a slot i ep) R E s:=by
 obtain ⟨o,ho,_,hd⟩:=hs.ob;refine wpAny_bind (wpAny_setState_of ho hd hs.ft ?_);refine wpAny_bind (wpAny_bind (wpAny_askSetting (wpAny_pure ?_)));show wpAny _ _ (if byTx w=true then _ else _) _ _ _;rw [if_neg (by rw [hb];decide)];refine wpAny_bind (wpAny_pure ?_);show wpAny _ _ (if (!tb.plain && decide (es.size > 1))=true then _ else _) _ _ _;rw [if_neg (by simp;lia)];refine wpAny_bind ?_;show wpAny _ _ (if (!tb.led && !es.isEmpty)=true then _ else _) _ _ _;rw [if_neg (by simp [hl])];exact wpAny_pure (wpAny_pure h)
theorem below_zero (xs:Array Nat) (h:xs.size<=1):SetTable.below xs 0=0:=by
 unfold SetTable.below;have:xs.size=0\/xs.size=1:=by lia
 grind [SetTable.below.go]
theorem below_next (j:Nat):SetTable.below #[j] (j+1)=1:=by
 show SetTable.below.go #[j] (j+1) 1 0 1=1;simp [SetTable.below.go]
structure Handed (es:Array (Int×Value)) (vs:List Value):Prop where
 perm:vs.Perm (es.toList.map (·.2))
theorem sat_keep {h h':Heap}{a:Addr}{es:Array (Int×Value)}{ep:Nat}{t:SetTable} (x:SAt h a es ep t) (k:∀ o,h.get? a=some o->h'.get? a=some o):SAt h' a es ep t:=by
 obtain ⟨o,e,r⟩:=x.ob;exact ⟨⟨o,k o e,r⟩,x.ft⟩
theorem sit_self {it a:Addr}{first:Value}{i n ep:Nat}{Q:Value->Shared->Prop} (hit:s.heap.get? it=some (sitO first i a n ep)) (h:Q (.ref it) s):wpAny (model P w) A (pyIter (.ref it)) Q E s:=by
 have hty:s.TypeIs (.ref it) "set_iterator" :=⟨_,hit,rfl⟩;refine wpAny_pyIter_slot hty SF.slot_iter (wpAny_call_entry SF.slot_iter hty SF.entry_iter ?_ (SF.args_iter _));exact wpAny_pure ⟨_,rfl,"set_iterator",_,hty,SF.slot_next.lookup,h⟩
theorem walk_text {it a:Addr}{ep:Nat}{es:Array (Int×Value)}{tb:SetTable} (hh:A.handled=none) (hne:a≠it) (hb:byTx w=true) :
  Walks P w A it [it,a] [it] es.size (λi v=>((pickOrder (w.params.setOrder a ep) es).toList.map (·.2))[i]? = some v) (λi h=>h.get? it=some (sitO (.int 0 0) i a es.size ep)/\SAt h a es ep tb) where
 sub:=λb hb=>by simp_all
 frame:=λi h h' st k=>⟨k it (by simp) _ st.1,sat_keep st.2 λo e=>k a (by simp) o e⟩
 item:=λi s Q E hi st hQ=>by
  have hl:(pickOrder (w.params.setOrder a ep) es).size=es.size:=by
   have:=(pick_perm (w.params.setOrder a ep) es.size 0 es.toList #[] (by simp)).length_eq
   assumption
  have hi':i<(pickOrder (w.params.setOrder a ep) es).size:=by lia
  refine sit_some (slot:=0) (nx:=0) (x:=(pickOrder (w.params.setOrder a ep) es)[i].2) st.1 st.2 (λA E R hR=>setNext_text hb st.2 (by simp_all)) λh' sb hit=>?_;refine hQ _ h' s.toks ?_ ⟨hit,sat_keep st.2 λo e=>(sb.2 a hne).trans e⟩ λb o hb e=>(sb.2 b (by simpa using hb)).trans e
  simp_all
 done:=λs Q E st hQ=>by
  have hl:(pickOrder (w.params.setOrder a ep) es).size=es.size:=by
   have:=(pick_perm (w.params.setOrder a ep) es.size 0 es.toList #[] (by simp)).length_eq
   assumption
  refine sit_none (slot:=0) hh st.1 st.2 (λA E R hR=>setNext_text hb st.2 (by simp_all)) λh' k=>hQ h' s.toks λb o hb e=>k b o (by simpa using hb) e
 self:=λi s Q E st h=>sit_self st.1 h
theorem walk_drawn {it a T:Addr}{ep nT:Nat}{oT:Obj}{ps:List Nat}{es:Array (Int×Value)}{tb:SetTable} (hh:A.handled=none) (hne:a≠it) (hnT:T≠it) (hp:ps.Perm (List.range es.size)) (dT:oT.data = .seq (ps.map λ(j:Nat)=>rawInt j).toArray nT) :
  Walks P w A it [it,a,T] [it] es.size (λi v=>(ps.map λk=>(es.getD k (0,.none)).2)[i]? = some v) (λi h=>h.get? it=some (sitO (.ref T) i a es.size ep)/\SAt h a es ep tb/\h.get? T=some oT) where
 sub:=λb hb=>by simp_all
 frame:=λi h h' st k=>⟨k it (by simp) _ st.1,sat_keep st.2.1 λo e=>k a (by simp) o e,k T (by simp) _ st.2.2⟩
 item:=λi s Q E hi st hQ=>by
  have hl:ps.length=es.size:=by rw [hp.length_eq];simp
  have hi':i<ps.length:=by lia
  have hk:ps[i]<es.size:=by grind [List.getElem_mem]
  refine sit_someT (hx:=es[ps[i]].1) (x:=es[ps[i]].2) st.1 st.2.1 st.2.2 dT (List.getElem?_eq_getElem hi') (Array.getElem?_eq_getElem hk) λh' sb hit=>?_;refine hQ _ h' s.toks ?_ ⟨hit,sat_keep st.2.1 λo e=>(sb.2 a hne).trans e,(sb.2 T hnT).trans st.2.2⟩ λb o hb e=>(sb.2 b (by simpa using hb)).trans e
  simp_all
 done:=λs Q E st hQ=>by
  have hl:ps.length=es.size:=by rw [hp.length_eq];simp
  grind [sit_noneT,List.getElem?_eq_none]
 self:=λi s Q E st h=>sit_self st.1 h
theorem walk_one {it a:Addr}{ep:Nat}{es:Array (Int×Value)}{tb:SetTable} (hh:A.handled=none) (hne:a≠it) (hb:byTx w=false) (hl:tb.led=true) (h1:es.size<=1) (hf:tb.fits es.size=true) :
  Walks P w A it [it,a] [it] es.size (λi v=>(es.toList.map (·.2))[i]? = some v) (λi h=>h.get? it=some (sitO (.int (if i=0 then 0 else tb.place.getD 0 0+1:Nat) 0) i a es.size ep)/\SAt h a es ep tb) where
 sub:=λb hb=>by simp_all
 frame:=λi h h' st k=>⟨k it (by simp) _ st.1,sat_keep st.2 λo e=>k a (by simp) o e⟩
 item:=λi s Q E hi st hQ=>by
  obtain rfl:i=0:=by lia
  have hpl:tb.place.size=es.size:=by simp only [SetTable.fits,Bool.and_eq_true,beq_iff_eq] at hf;exact hf.1
  have hp0:0<tb.place.size:=by lia
  refine sit_some (slot:=0) (nx:=tb.place[0]+1) (x:=es[0].2) st.1 st.2 (λA E R hR=>setNext_one hb hl h1 st.2 (by grind [below_zero,Array.getElem?_eq_getElem])) λh' sb hit=>?_;refine hQ _ h' s.toks ?_ ⟨?_,sat_keep st.2 λo e=>(sb.2 a hne).trans e⟩ λb o hb e=>(sb.2 b (by simpa using hb)).trans e
  ·simp_all
  ·simp_all
 done:=λs Q E st hQ=>by
  have hpl:tb.place.size=es.size:=by simp only [SetTable.fits,Bool.and_eq_true,beq_iff_eq] at hf;exact hf.1
  refine sit_none hh st.1 st.2 (λA E R hR=>setNext_one hb hl h1 st.2 ?_) λh' k=>hQ h' s.toks λb o hb e=>k b o (by simpa using hb) e;rcases Nat.lt_or_ge 0 es.size with z | z
  ·have z1:es.size=1:=by lia
   obtain ⟨j,ej⟩:∃ j,tb.place = #[j]:=by
    match hq:tb.place,(show tb.place.size=1 by lia) with
    | ⟨[j]⟩,_=>exact ⟨j,rfl⟩
   rw [if_neg (by lia),ej];have:(#[j]:Array Nat).getD 0 0=j:=rfl
   rwa [this,below_next,Array.getElem?_eq_none (by lia)]
  ·simp_all
 self:=λi s Q E st h=>sit_self st.1 h
end
end L2
namespace L2
open PySem PySem.Spec PyProof.Rows PySem.W
section
variable {P:Program}{w:World}{A:Around}{E:Value->Shared->Prop}{s:Shared}
theorem setDrawn_of {a:Addr}{es:Array (Int×Value)}{ep:Nat}{tb:SetTable}{Q:Bool->Shared->Prop} (hs:SAt s.heap a es ep tb) (h:Q (!byTx w && (!tb.plain && decide (es.size > 1))) s):wpAny (model P w) A (setDrawn a) Q E s:=by
 obtain ⟨o,ho,_,hd⟩:=hs.ob;refine wpAny_bind (wpAny_setState_of ho hd hs.ft ?_);exact wpAny_bind (wpAny_bind (wpAny_askSetting (wpAny_pure (wpAny_pure h))))
theorem range_take {es:Array (Int×Value)}{ps:List Nat} (hp:ps.Perm (List.range es.size)):(ps.map λk=>(es.getD k (0,.none)).2).Perm (es.toList.map (·.2)):=by
 refine (hp.map _).trans ?_;have e:(List.range es.size).map (λk=>(es.getD k (0,.none)).2)=es.toList.map (·.2):=by
  apply List.ext_getElem?;intro i;rw [List.getElem?_map,List.getElem?_map];by_cases hi:i<es.size
  ·simp_all
  ·simp_all
 rw [e]
theorem set_iter {a:Addr}{us:List Str}{Q:Value->Shared->Prop} (hh:A.handled=none) (hS:SetX P w (byTx w) s.heap a us)
  (h:∀ (I:Addr) (vs:List Value) (h':Heap) (d:Drawn) (fp:List Addr) (St:Nat->Heap->Prop),(∀ b o,s.heap.get? b=some o->h'.get? b=some o)->(∀ b∈fp,b=a\/s.heap.objs.size<=b)->s.heap.objs.size<=I->vs.length=us.length->(∃ us':List Str,us'.Perm us/\Vals (us'.map V.str) vs) ->
   Walks P w A I fp [I] vs.length (λi v=>vs[i]? = some v) St->St 0 h'->Q (.ref I) { s with heap:=h',drawn:=d }) :
  wpAny (model P w) A (pyIter (.ref a)) Q E s:=by
 obtain ⟨o,es,ep,t,ho,hex,hd,hel,hb,hf,hl,hp,hs,hm⟩:=id hS;have sat:SAt s.heap a es ep t:=⟨⟨o,ho,hex,hd⟩,hf⟩;have hT:s.TypeIs (.ref a) "set" :=⟨o,ho,hex.1⟩;have hn:es.size=us.length:=by
  have:=hm.length_eq
  rwa [List.length_map,Array.length_toList] at this
 have vals:∀ vs:List Value,vs.Perm (es.toList.map (·.2))->vs.length=us.length/\∃ us':List Str,us'.Perm us/\Vals (us'.map V.str) vs:=λvs hv=>by
  refine ⟨by rw [hv.length_eq,List.length_map,Array.length_toList,hn],vs.map txtOf,((hv.map txtOf).trans (by rwa [List.map_map])),?_⟩;have hall:∀ v∈vs,∃ x tk,v = .str x tk:=λv hv'=>by
   grind
  clear hv
  induction vs with
  | nil=>exact .nil
  | cons v r ih=>
   obtain ⟨x,tk,rfl⟩:=hall v (.head _);exact .cons ⟨tk,rfl⟩ (ih λv hv=>hall v (.tail _ hv))
 refine wpAny_pyIter_slot hT PySem.F.slot_set_iter (wpAny_call_entry PySem.F.slot_set_iter hT SF.entry_set_iter ?_ (PySem.F.args_set_iter_1 _));refine wpAny_bind (wpAny_pure ?_);refine wpAny_bind (m:=Builtin.Frozenset.sizeOf a) (wpAny_bind (wpAny_entries sat (wpAny_pure ?_)));refine wpAny_bind (setDrawn_of sat ?_);have hla:=Heap.lt_size ho;by_cases hdr:(!byTx w && (!t.plain && decide (es.size > 1)))=true
 ·rw [if_pos hdr];refine wpAny_bind (wpAny_drawOrder es.size _ s (by simp) λps d hps=>?_);refine wpAny_bind (wpAny_newTuple ?_ (by rw [List.length_map,hps.length_eq,List.length_range,sizeLine_eq];unfold scanBound at hb;lia));have hoT:(s.heap.push { cls:=.type "tuple",data:=.seq (ps.map λ(i:Nat)=>rawInt i).toArray }).get? s.heap.objs.size=some { cls:=.type "tuple",data:=.seq (ps.map λ(i:Nat)=>rawInt i).toArray }:=Heap.get?_push_size _ rfl;generalize hh1:s.heap.push { cls:=.type "tuple",data:=.seq (ps.map λ(i:Nat)=>rawInt i).toArray }=h1 at hoT ⊢;have k1:∀ b o,s.heap.get? b=some o->h1.get? b=some o:=λb o e=>by rw [<-hh1];exact Heap.get?_push_of_some _ e
  have z1:h1.objs.size=s.heap.objs.size+1:=by rw [<-hh1,Heap.size_push]
  refine wpAny_bind (wpAny_setEpoch_of (s:={ s with heap:=h1,drawn:=d }) (k1 a o ho) hd hf ?_);refine wpAny_bind (wpAny_newObj_type ?_ (by size_fits));have hoI:(h1.push (sitO (.ref s.heap.objs.size) (0:Nat) a es.size ep)).get? h1.objs.size=some (sitO (.ref s.heap.objs.size) (0:Nat) a es.size ep):=Heap.get?_push_size _ rfl;have k2:∀ b o,h1.get? b=some o->(h1.push (sitO (.ref s.heap.objs.size) (0:Nat) a es.size ep)).get? b=some o:=λb o e=>Heap.get?_push_of_some _ e;obtain ⟨v1,v2⟩:=vals _ (range_take hps);have hvl:(ps.map λk=>(es.getD k (0,Value.none)).2).length=es.size:=by lia
  have W:=walk_drawn (P:=P) (w:=w) (A:=A) (it:=h1.objs.size) (a:=a) (T:=s.heap.objs.size) (ep:=ep) (tb:=t) hh (Nat.ne_of_lt (by lia)) (Nat.ne_of_lt (by lia)) hps (oT:={ cls:=.type "tuple",data:=.seq (ps.map λ(i:Nat)=>rawInt i).toArray }) rfl;rw [<-hvl] at W;refine wpAny_pure ⟨_,rfl,"set_iterator",_,⟨_,hoI,rfl⟩,SF.slot_next.lookup,?_⟩;refine h h1.objs.size _ _ d [h1.objs.size,a,s.heap.objs.size] _ (λb o e=>k2 b o (k1 b o e)) (λb hb=>?_) (by lia) v1 v2 W ⟨?_,sat_keep (sat_keep sat (k1 a)) (k2 a),k2 _ _ hoT⟩
  ·grind
  ·rwa [hvl]
 ·rw [if_neg hdr];refine wpAny_bind (wpAny_pure ?_);refine wpAny_bind (wpAny_setEpoch_of ho hd hf ?_);refine wpAny_bind (wpAny_newObj_type ?_ (by size_fits));have hoI:(s.heap.push (sitO (.int (0:Nat) 0) (0:Nat) a es.size ep)).get? s.heap.objs.size=some (sitO (.int (0:Nat) 0) (0:Nat) a es.size ep):=Heap.get?_push_size _ rfl;have k2:∀ b o,s.heap.get? b=some o->(s.heap.push (sitO (.int (0:Nat) 0) (0:Nat) a es.size ep)).get? b=some o:=λb o e=>Heap.get?_push_of_some _ e;refine wpAny_pure ⟨_,rfl,"set_iterator",_,⟨_,hoI,rfl⟩,SF.slot_next.lookup,?_⟩;have fpx:∀ b∈[s.heap.objs.size,a],b=a\/s.heap.objs.size<=b:=λb hb=>by
   grind
  cases hbt:byTx w with
  | true=>
   have hpp:(pickOrder (w.params.setOrder a ep) es).toList.Perm es.toList:=by
    grind [pick_perm,pickOrder]
   obtain ⟨v1,v2⟩:=vals _ (hpp.map (·.2))
   have hvl:((pickOrder (w.params.setOrder a ep) es).toList.map (·.2)).length=es.size:=by lia
   have W:=walk_text (P:=P) (w:=w) (A:=A) (it:=s.heap.objs.size) (a:=a) (ep:=ep) (es:=es) (tb:=t) hh (Nat.ne_of_lt hla) hbt;rw [<-hvl] at W;refine h s.heap.objs.size _ _ s.drawn [s.heap.objs.size,a] _ k2 fpx (Nat.le_refl _) v1 v2 W ⟨?_,sat_keep sat (k2 a)⟩
   rwa [hvl]
  | false=>
   have h1:es.size<=1:=by
    grind
   obtain ⟨v1,v2⟩:=vals _ (List.Perm.refl _);have hvl:(es.toList.map (·.2)).length=es.size:=by lia
   have W:=walk_one (P:=P) (w:=w) (A:=A) (it:=s.heap.objs.size) (a:=a) (ep:=ep) (es:=es) (tb:=t) hh (Nat.ne_of_lt hla) hbt (by lia) h1 hf;rw [<-hvl] at W;refine h s.heap.objs.size _ _ s.drawn [s.heap.objs.size,a] _ k2 fpx (Nat.le_refl _) v1 v2 W ⟨?_,sat_keep sat (k2 a)⟩
   rwa [hvl]
theorem hint_set {r:Addr}{Q:Bool->Shared->Prop} (hT:s.TypeIs (.ref r) "set") (h:Q false s):wpAny (model P w) A (Builtin.List.listLengthHint (.ref r)) Q E s:=by
 refine wpAny_bind (wpAny_specialOf hT PySem.F.slot_set_len.lookup ?_);generalize hid:("set.__len__" : String)=id0
 wp_delta
 have sp:splitId id0=some ("set","__len__"):=by subst hid;decide +kernel
 rw [sp];subst hid;refine wpAny_bind (wpAny_isInstance (T:= "set") (b:=true) hT (by rw [isSubtype_type];kernel_rfl) ?_);refine wpAny_ite_split (λz=>absurd z (by decide)) λ_=>?_;refine wpAny_ite_split (λ_=>?_) λz=>absurd (by decide +kernel) z;exact wpAny_bind (wpAny_typeOf hT (wpAny_pure h))
theorem set_collect {a:Addr}{us:List Str}{R:List Value->Shared->Prop} (hh:A.handled=none) (hS:SetX P w (byTx w) s.heap a us) (hn:us.length<=sizeLine)
  (h:∀ (h':Heap) (tk:Nat) (d:Drawn) (vs:List Value) (us':List Str),(∀ b o,s.heap.get? b=some o->h'.get? b=some o)->us'.Perm us->Vals (us'.map V.str) vs->R vs { s with heap:=h',toks:=tk,drawn:=d }) :
  wpAny (model P w) A (collect (.ref a)) R E s:=by
 obtain ⟨o,_,_,_,ho,hex,_⟩:=id hS;have hla:a<s.heap.objs.size:=Heap.lt_size ho;refine wpAny_bind (wpAny_runValue (codeAny_builtin entry_proto_collect' ?_));rw [Around.under_plainId PySem.F.plain_proto_collect _];refine wpAny_bind (m:=newList []) (wpAny_newList ?_ (Nat.zero_le _));have oS:(s.heap.push (seqObj "list" #[] 0)).get? s.heap.objs.size=some (seqObj "list" #[] 0):=Heap.get?_push_size _ rfl;have k1:∀ b o,s.heap.get? b=some o->(s.heap.push (seqObj "list" #[] 0)).get? b=some o:=λb o e=>Heap.get?_push_of_some _ e;have z1:(s.heap.push (seqObj "list" #[] 0)).objs.size=s.heap.objs.size+1:=Heap.size_push _ _;refine wpAny_pure ⟨plainId_quiet PySem.F.plain_list_iadd _,codeAny_builtin entry_list_iadd' ?_⟩;rw [Around.under_plainId PySem.F.plain_list_iadd _];show wpAny _ _ (Builtin.List.listExtendWith (.ref s.heap.objs.size) (.ref a) (.ref s.heap.objs.size)) _ _ { s with heap:=s.heap.push (seqObj "list" #[] 0) };generalize s.heap.push (seqObj "list" #[] 0)=h1 at oS k1 z1 ⊢;generalize hd1:s.heap.objs.size=S at oS z1 hla ⊢;have hSa:S≠a:=Nat.ne_of_gt hla;refine wpAny_bind (wpAny_typeOf ⟨o,k1 a o ho,hex.1⟩ ?_);have e1:Builtin.List.listSameRef (.ref S) (.ref a)=false:=by simp [Builtin.List.listSameRef,hSa]
 have e2:(Value.type "set" == Value.type "list")=false:=by decide
 have e3:(Value.type "set" == Value.type "tuple")=false:=by decide
 simp only [e1,e2,e3,Bool.or_false,Bool.false_eq_true,if_false];refine wpAny_bind (set_iter (s:={ s with heap:=h1 }) (show A.in1.handled=none from hh) (hS.keep (k1 a)) λI vs h2 d fp St k2 hfp hI hvl hvs W st=>?_);obtain ⟨us',hp',hv'⟩:=hvs;have hSf:S∉fp:=λz=>(hfp S z).elim hSa λz=>absurd z (by rw [z1];exact Nat.not_succ_le_self _);have oS2:=k2 S _ oS;have key:∀ (h3:Heap) (c tk:Nat),St 0 h3->(∀ b o,b≠S->h2.get? b=some o->h3.get? b=some o)->h3.get? S=some (seqObj "list" #[] c) ->
   codeAny (model P w) A (.builtin "list.extend.loop" ⟨[.ref S,.ref I,.ref S],[]⟩) (λq s'=>∃ (h':Heap) (tk:Nat) (acc:Array Value) (c':Nat),q = .ok (.ret (.ref S))/\s' = { s with heap:=h',toks:=tk,drawn:=d }/\(∀ b o,s.heap.get? b=some o->h'.get? b=some o)/\h'.get? S=some (seqObj "list" acc c')/\acc.toList=vs) { s with heap:=h3,toks:=tk,drawn:=d }:=λh3 c tk st3 k3 o3=>by
  refine codeAny_extend_loopS W.toS (by rwa [hvl]) S hSf (.ref S) vs.length 0 _ #[] c rfl (Nat.zero_le _) st3 o3 (ItemsOf.nil _) λs' acc c' hm oS' hacc=>?_;rw [Moved.eq_with hm];refine ⟨s'.heap,s'.toks,acc,c',rfl,rfl,λb o e=>?_,oS',?_⟩
  ·have hbl:b<S:=by rw [<-hd1];exact Heap.lt_size e
   refine hm.heap b o (λz=>?_) (k3 b o (Nat.ne_of_lt hbl) (k2 b o (k1 b o e)))
   grind
  ·apply List.ext_getElem?;intro i;rw [Array.getElem?_toList];cases q:acc[i]? with
   | none=>
    have:=Array.getElem?_eq_none_iff.mp q;rw [hacc.1] at this;exact (List.getElem?_eq_none this).symm
   | some v=>exact (hacc.2 i v q).symm
 refine wpAny_bind (wpAny_holding (hint_set ⟨o,k2 a o (k1 a o ho),hex.1⟩ ?_));rw [if_pos (by decide)];refine wpAny_bind (wpAny_rule ?_);have u1:=get?_update_seq oS2 λ(xs:Array Value)=>xs.push Value.none;refine wpAny_bind (m:=Builtin.List.listTouch _) ?_;refine wpAny_bind (listUpdate_at oS2 rfl ?_ (Nat.zero_le _) (by simp));refine listUpdate_at u1 rfl ?_ (by show 1<=_;rw [sizeLine_eq];lia) (Nat.zero_le _);have k3:∀ b o,b≠S->h2.get? b=some o->((h2.update S (Obj.mapSeq λxs=>xs.push Value.none)).update S (Obj.mapSeq λxs=>xs.pop)).get? b=some o:=λb o hb e=>(Heap.get?_update_other _ _ (Ne.symm hb)).trans ((Heap.get?_update_other _ _ (Ne.symm hb)).trans e);refine wpAny_pure ⟨plainId_quiet PySem.F.plain_extend_loop _,codeAny_mono (key _ _ s.toks (W.frame 0 _ _ st λb hb o e=>k3 b o (λz=>hSf (z ▸ hb)) e) k3 (get?_update_seq u1 λ(xs:Array Value)=>xs.pop)) λq s' hq=>?_⟩;obtain ⟨h',tk,acc,c',rfl,rfl,hk,hoS,hv⟩:=hq;refine wpAny_bind (wpAny_load hoS (wpAny_pure ?_));subst hv;exact h h' tk d acc.toList us' hk hp' hv'
end
def UpS (ms:List Str):Prop:=ms.Pairwise λx y=>ltv (.str y) (.str x)=false
def CallS (X:Cx) (f:Value) (r:List Str->Hp->VK->Prop):Prop:=
 ∀ (pins:List (Addr×Obj)) (s:Shared) (σ:St) (H:Hp) (D:Addr) (us:List Str) (Q:VK),Inv X pins σ H s->SetX X.prog X.w (byTx X.w) s.heap D us->r us H Q->wpAny (model X.prog X.w) X.A (call f [.ref D]) (EP X pins σ Q) X.xe s
def tFS (r:List Str->Hp->VK->Prop) (t:TA):TE:=λσ H Q=>t σ H λvs H1=>∃ a zs,vs=[.ref a]/\Rd H1 a (.lst (zs.map V.str))/\zs.length<4000/\r (dedS [] zs) H1 Q
section
variable {X:Cx}{x y:Str}{p q pos pos2:Pos}{e:Expr}{t:TA}{id:String}{r:List Str->Hp->VK->Prop}
theorem Inv.setd {pins:List (Addr×Obj)}{σ:St}{H:Hp}{s:Shared}{h':Heap}{tk:Nat}{d:Drawn} (I:Inv X pins σ H s) (k:∀ b o,s.heap.get? b=some o->h'.get? b=some o):Inv X pins σ H { s with heap:=h',toks:=tk,drawn:=d }:=by
 have J:=I.kept (t':=tk) k;exact ⟨J.ok,J.os,J.bare,J.base,J.loc,J.cell,J.free,J.freeC,J.pin,J.hok,J.len⟩
theorem pe_fset (hc:CallS X (.builtin id) r) (hh:X.calm=true) (hg:Gl X x) (hm:X.mg x=none) (hv:bootBuiltins x=some (.builtin id)) (hg2:Gl X y) (hm2:X.mg y=none) (hv2:bootBuiltins y=some (.type "set")) (ha:PA X [e] t)
  (hn:x ≠ "__name__" :=by decide) (hdb:(x == ("__debug__" : Str))=false:=by decide) (hn2:y ≠ "__name__" :=by decide) (hdb2:(y == ("__debug__" : Str))=false:=by decide)
  (he:starEach [Expr.Call (.Name y q) [e] [] pos2] X.env=(false,eval (Expr.Call (.Name y q) [e] [] pos2) X.env)::starEach [] X.env:=by rfl) (he2:starEach [e] X.env=(false,eval e X.env)::starEach [] X.env:=by rfl) :
  PE X (.Call (.Name x p) [.Call (.Name y q) [e] [] pos2] [] pos) (tFS r t):=by
 intro pins s σ H Q I h;refine wpAny_Call_Name_kw (ld_blt I hg hm hv ?_ hn hdb);refine PyProof.Rows.callWith_builtin1 ?_ he rfl;rw [he];refine Calls.spliced_cons (thn (Q:=λv s'=>∃ D us H1,v = .ref D/\Inv X pins σ H1 s'/\SetX X.prog X.w (byTx X.w) s'.heap D us/\r us H1 Q) ?_ λv s' ⟨D,us,H1,ev,I1,hS,q1⟩=>?_)
 ·refine wpAny_Call_Name_kw (ld_blt I hg2 hm2 hv2 ?_ hn2 hdb2);refine PyProof.Rows.callWith_type1 (thn (ha pos2 pins s σ H _ I h) λus s1 ⟨vs,H1,I1,r1,q1⟩=>?_) he2 rfl;obtain ⟨a,zs,rfl,hr,hl,q1⟩:=q1;obtain ⟨u,rfl,ru⟩:=r1.one;cases ru;obtain ⟨_,its,n,vv,ho⟩:=hr.ok I1.hok;have vl:=vv.length;rw [List.length_map] at vl;refine call_set_strs (I1.ok.hd hh) ⟨_,ho,rfl,n,rfl⟩ vv (by rw [List.size_toArray];unfold scanBound;lia) λh' tk hS k=>?_;exact ⟨_,_,H1,rfl,I1.setd k,hS,q1⟩
 ·subst ev;exact Calls.spliced_nil (hc pins s' σ H1 D us Q I1 hS q1)
end
theorem vals_strsV:∀ {ns:List Str}{us:List Value},Vals (ns.map V.str) us->∀ v∈us,∃ i t,v=Value.str i t
 | [],_,r,v,hv=>by rw [List.map_nil] at r;cases r;cases hv
 | n::ns,_,r,v,hv=>by
  rw [List.map_cons] at r;cases r with
  | cons h t=>
   obtain ⟨tk,rfl⟩:=h;rcases List.mem_cons.mp hv with e | e
   ·exact ⟨n,tk,e⟩
   ·exact vals_strsV t v e
theorem str_engine {P:Program}{w:World}{A:Around}{ns:List Str}{us:List Value} (hv:Vals (ns.map V.str) us) (s':Shared) (G:Array Nat->Shared->Prop) (h2:2<=us.length)
  (h:∀ p:Array Nat,p.toList.Perm (List.range us.length)->(∀ i j,i<=j->j<us.length->ltv ((ns.map PyData.str).getD (p.getD j 0) .none) ((ns.map PyData.str).getD (p.getD i 0) .none)=false)->G p s') :
  wpAny (model P w) A (keyKind' us.toArray) (λκ s''=>(kas_sort us.length).kasWp (kas_ask P w A κ us) G s'') (λ_ _=>False) s':=by
 refine kas_kind (T:=.type "str") h2 (λv hm=>?_) (by decide) (by decide) ?_
 ·obtain ⟨i,t,rfl⟩:=vals_strsV hv v hm;exact .of_pure rfl
 have l1:us.length=ns.length:=by rw [<-hv.length,List.length_map]
 have o:=Sh.ok .str;have hget:∀ i,i<us.length->(ns.map PyData.str).getD i .none = .str (ns.getD i Str.empty):=λi hi=>by
  simp_all
 have hgs:∀ i,i<us.length->Sh.str.has ((ns.map PyData.str).getD i .none):=λi hi=>⟨_,hget i hi⟩;refine sort_wp (n:=us.length) (lt:=λi j=>ltv ((ns.map PyData.str).getD i .none) ((ns.map PyData.str).getD j .none)) (P:=λs''=>s'' = s') ⟨λi hi=>o.irr _ (hgs i hi),λi j k hi hj hk q=>o.neg (hgs i hi) (hgs j hj) (hgs k hk) q,λi j hi hj q=>o.asymm (hgs i hi) (hgs j hj) q⟩
  (λi j C s'' hi hj e q=>?_) (by lia) rfl λp s'' e hp up=>by subst e;exact h p hp up
 subst e;show wpAny (model P w) A (keyLt' oneType' (us.getD i .none) (us.getD j .none)) C (λ_ _=>False) s'';have ri:=vals_getD hv i;have rj:=vals_getD hv j;have qq:=q s'' rfl;rw [hget i hi,hget j hj] at qq;have gi:∀ i,i<us.length->(ns.map V.str).getD i .non = .str (ns.getD i Str.empty):=λi hi=>by
  simp_all
 rw [gi i hi] at ri;rw [gi j hj] at rj;obtain ⟨ti,ei⟩:=ri;obtain ⟨tj,ej⟩:=rj;rw [ei,ej,keyLt'_oneType];exact oneLt_str qq
theorem perm_str {ns:List Str}{p:List Nat} (h:p.Perm (List.range ns.length)):(p.map λi=>ns.getD i Str.empty).Perm ns:=by
 exact (h.map λi=>ns.getD i Str.empty).trans (by rw [(range_picked ns Str.empty)])
def rSorS:List Str->Hp->VK->Prop:=λus H Q=>us.length<64/\∀ (D:Addr) (ms:List Str),H D=none->ms.Perm us->UpS ms->Q (.ref D) (upd H D (.lst (ms.map V.str)))
section
variable {X:Cx}
theorem call_sortedS {k:Nat} (hc:X.calm=true) (hr:Room k X.A):CallS X (.builtin "sorted") rSorS:=by
 intro pins s σ H S us Q I hS h;obtain ⟨h64,q⟩:=h
 (refine Calls.call_function_entry kind_sorted plain_sorted entry_sorted (args_sorted1 _) ?_)
 (refine wpAny_bind (m:=checkCount "sorted" 1 1 _) (wpAny_pure ?_))
 refine wpAny_bind (set_collect (A:=X.A.in1) (show X.A.in1.handled=none from I.ok.hd hc) hS (by rw [sizeLine_eq];lia) λh1 tk d acc us' hk hp hv=>?_);have hul:us'.length=us.length:=hp.length_eq;have hal:acc.length=us'.length:=by rw [<-hv.length,List.length_map]
 (refine wpAny_bind (wpAny_newList ?_ (by grind [sizeLine_eq])))
 have I1:Inv X pins σ H { s with heap:=h1,toks:=tk,drawn:=d }:=I.setd hk;have hoL:(h1.push (seqObj "list" acc.toArray 0)).get? h1.objs.size=some (seqObj "list" acc.toArray 0):=Heap.get?_push_size _ rfl;have keep:∀ b o,s.heap.get? b=some o->(h1.push (seqObj "list" acc.toArray 0)).get? b=some o:=λb o e=>Heap.get?_push_of_some _ (hk b o e);generalize h1.push (seqObj "list" acc.toArray 0)=h2 at hoL keep ⊢;have hDn:H h1.objs.size=none:=I1.hok.fresh (Nat.le_refl _);have fD:FpOk X pins H h1.objs.size:=I1.fpOk (Nat.le_refl _) hDn;generalize h1.objs.size=D at hoL hDn fD ⊢
 (refine wpAny_bind (wpAny_holding (wpAny_call_entry slot_list_sort ⟨_,hoL,rfl⟩ entry_list_sort ?body (args_list_sort _))))
 case body=>
  refine lsort_by (s:={ s with heap:=h2,toks:=tk,drawn:=d }) (ds:=us'.map PyData.str) (I.setd keep) hoL fD hv (λs' G _ h2 hG=>str_engine hv s' G h2 hG) (by lia) λp h' hp2 hord I'=>?_;refine ⟨_,rfl,wpAny_pure ⟨_,rfl,?_⟩⟩;rw [List.length_map] at hp2;have hlt:∀ i∈p,i<us'.length:=λi hi=>by grind
  have e1:picked (us'.map V.str) p=(p.map λi=>us'.getD i Str.empty).map V.str:=by
   rw [List.map_map];refine List.map_congr_left λi hi=>?_
   simp_all
  have e2:(p.map λi=>(us'.map PyData.str).getD i .none)=(p.map λi=>us'.getD i Str.empty).map PyData.str:=by
   simp_all
  have so:UpS (p.map λi=>us'.getD i Str.empty):=by
   unfold InOrd at hord
   rwa [e2,List.pairwise_map] at hord
  rw [e1] at I';exact ⟨.ref _,_,I',rfl,q _ _ hDn ((perm_str hp2).trans hp) so⟩
def rLenU:List Str->Hp->VK->Prop:=λus H Q=>Q (.int us.length) H
theorem call_lenU:CallS X (.builtin "len") rLenU:=by
 intro pins s σ H S us Q I hS h;obtain ⟨o,es,ep,t,ho,hex,hd,_,hb,hf,_,_,_,hm⟩:=id hS;have e:=hm.length_eq;rw [List.length_map,Array.length_toList] at e;exact call_len_set ho hex hd hf (by grind [scanBound]) ⟨.int us.length,H,I.tok _,⟨_,by rw [e]⟩,h⟩
end
end L2
namespace L2
open PySem PySem.Spec PyProof.Rows
section
variable {P:Program}{w:World}{A:Around}{E:Value->Shared->Prop}{s:Shared}{kf:Addr->Int×Str}
end
end L2
namespace L2
open PySem PySem.Spec PyProof.Rows PySem.W
section
variable {P:Program}{w:World}{A:Around}{E:Value->Shared->Prop}{s:Shared}
end
end L2
namespace L2
open PySem PySem.Spec PyProof.Rows
section
variable {X:Cx}{x y:Str}{p q pos pos2:Pos}{e:Expr}{t:TA}
end
end L2
namespace L2
open PySem PySem.Spec PyProof.Rows
def gallop':Bool->Keyed->Array Keyed->Nat->Nat->Nat->StateT SortSt Sem (Option Nat):=sortPriv% PySem.Builtin.gallop
def mergeLo':Array Keyed->Array Keyed->StateT SortSt Sem (Array Keyed):=sortPriv% PySem.Builtin.mergeLo
def mergeHi':Array Keyed->Array Keyed->StateT SortSt Sem (Array Keyed):=sortPriv% PySem.Builtin.mergeHi
section
variable {M:Model}{A:Around}{E:Value->Shared->Prop}{s:Shared}{σ:Type}
abbrev GalB:=Option (Option Nat)×Nat×Nat
theorem bin_loop {n:Nat}{g:Nat->Bool}{F:Nat->GalB->StateT σ Sem (ForInStep GalB)}{lo hi:Nat}{st:σ}{Q:GalB->σ->Prop}
  (h0:∀ x a b (R:ForInStep GalB->σ->Prop),a ≥ b->R (.done (none,a,b)) st->wpS M A E s (F x (none,a,b)) R st)
  (h1:∀ x a b (R:ForInStep GalB->σ->Prop),a<b->b<=n->(g (a+(b - a) / 2)=true->R (.yield (none,a+(b - a) / 2+1,b)) st)->(g (a+(b - a) / 2)=false->R (.yield (none,a,a+(b - a) / 2)) st)->wpS M A E s (F x (none,a,b)) R st)
  (hm:∀ i j,i<=j->j<n->g j=true->g i=true) (hl:lo<=hi) (hh:hi<=n) (gl:∀ i,i<lo->g i=true) (gh:∀ i,hi<=i->i<n->g i=false)
  (q:∀ a k,k<=n->(∀ i,i<k->g i=true)->(∀ i,k<=i->i<n->g i=false)->Q (none,a,k) st):wpS M A E s (forIn [0:n] ((none,lo,hi):GalB) F) Q st:=by
 refine wpS_forRange (λi c st'=>st' = st/\∃ a b,c=(none,a,b)/\a<=b/\b<=n/\(a=b\/b - a+i<=n)/\(∀ i,i<a->g i=true)/\∀ i,b<=i->i<n->g i=false) (λi c st' _ hi' p=>?_) (λc st' p=>?_) ⟨rfl,lo,hi,rfl,hl,hh,by lia,gl,gh⟩
 ·obtain ⟨rfl,a,b,rfl,ab,bn,d,ga,gb⟩:=p;by_cases e:a ≥ b
  ·refine h0 _ _ _ _ e (q _ _ bn (λj hj=>ga j (by lia)) gb)
  ·refine h1 _ _ _ _ (by lia) bn (λt=>?_) λt=>?_
   ·refine ⟨rfl,_,_,rfl,by lia,bn,by lia,λj hj=>hm j _ (Nat.le_of_lt_succ hj) (by lia) t,gb⟩
   ·refine ⟨rfl,_,_,rfl,by lia,by lia,by lia,ga,λj h2 h3=>?_⟩;cases z:g j with
    | false=>rfl
    | true=>rw [hm _ j h2 h3 z] at t;cases t
 ·obtain ⟨rfl,a,b,rfl,ab,bn,d,ga,gb⟩:=p;have:a=b:=by
   have:max 0 n=n:=by lia
   lia
  exact q _ _ bn (this ▸ ga) gb
theorem exp_loop {n m:Nat}{t:Nat->Bool}{F:Nat->GalB->StateT σ Sem (ForInStep GalB)}{st:σ}{Q:GalB->σ->Prop} (hm:m<=n) (hm1:1<=m)
  (h0:∀ x a b (R:ForInStep GalB->σ->Prop),b ≥ m->R (.done (none,a,b)) st->wpS M A E s (F x (none,a,b)) R st)
  (h1:∀ x a b (R:ForInStep GalB->σ->Prop),b<m->(t b=true->R (.done (none,a,b)) st)->(t b=false->R (.yield (none,b,2 * b+1)) st)->wpS M A E s (F x (none,a,b)) R st)
  (t0:t 0=false)
  (q:∀ a b,a<m->a<b->t a=false->(b<m->t b=true)->Q (none,a,b) st):wpS M A E s (forIn [0:n] ((none,0,1):GalB) F) Q st:=by
 refine wpS_forRange (λi c st'=>st' = st/\∃ a b,c=(none,a,b)/\a<m/\a<b/\i+1<=b/\t a=false) (λi c st' _ hi' p=>?_) (λc st' p=>?_) ⟨rfl,0,1,rfl,hm1,by lia,by lia,t0⟩
 ·obtain ⟨rfl,a,b,rfl,am,ab,ib,ta⟩:=p;by_cases e:b ≥ m
  ·exact h0 _ _ _ _ e (q _ _ am ab ta λz=>by lia)
  ·exact h1 _ _ _ _ (by lia) (λz=>q _ _ am ab ta λ_=>z) λz=>⟨rfl,_,_,rfl,by lia,by lia,by lia,z⟩
 ·obtain ⟨rfl,a,b,rfl,am,ab,ib,ta⟩:=p;exact q _ _ am ab ta λz=>by lia
end
section
variable {prog:Program}{w:World}{A:Around}{s:Shared}{κ:SortKind}{S:Keyed->Prop}{L:Keyed->Keyed->Bool}
def CmpS (prog:Program) (w:World) (A:Around) (s:Shared) (κ:SortKind) (S:Keyed->Prop) (L:Keyed->Keyed->Bool):Prop:=
 ∀ x y st (Q:Option Bool->SortSt->Prop),S x->S y->kindOf st=κ->Q (some (L x y)) st->wpS (model prog w) A (λ_ _=>False) s (lt' x y) Q st
theorem elem_wp {arr:Array Keyed}{i:Nat}{x:Keyed}{st:SortSt}{Q:Keyed->SortSt->Prop} (h:arr[i]? = some x) (q:Q x st):wpS (model prog w) A (λ_ _=>False) s (elem' arr i) Q st:=by
 rw [elem'_eq,h];exact wpS_pure q
theorem gallop_wp (hc:CmpS prog w A s κ S L) {left:Bool}{key:Keyed}{arr:Array Keyed}{base n hint:Nat}{st:SortSt}{Q:Option Nat->SortSt->Prop}{xs:Nat->Keyed}{g:Nat->Bool} (hk:kindOf st=κ) (hS:S key)
  (hx:∀ i,i<n->arr[base+i]? = some (xs i)/\S (xs i)) (hg:∀ i,i<n->g i=if left=true then L (xs i) key else !L key (xs i))
  (hm:∀ i j,i<=j->j<n->g j=true->g i=true) (hh:hint<n)
  (q:∀ k,k<=n->(∀ i,i<k->g i=true)->(∀ i,k<=i->i<n->g i=false)->Q (some k) st):wpS (model prog w) A (λ_ _=>False) s (gallop' left key arr base n hint) Q st:=by
 have bey:∀ i,i<n->∀ (Q:Option Bool->SortSt->Prop),Q (some (g i)) st->∀ f:Keyed->StateT SortSt Sem (Option Bool),(∀ Q',Q' (some (g i)) st->wpS (model prog w) A (λ_ _=>False) s (f (xs i)) Q' st)->wpS (model prog w) A (λ_ _=>False) s (elem' arr (base+i) >>= f) Q st:=
  λi hi Q hq f hf=>wpS_bind (elem_wp (hx i hi).1 (hf _ hq))
 have cm:∀ i,i<n->∀ (Q:Option Bool->SortSt->Prop) (m1 m2:StateT SortSt Sem (Option Bool)),Q (some (g i)) st->(left=true->(∀ Q',Q' (some (L (xs i) key)) st->wpS (model prog w) A (λ_ _=>False) s m1 Q' st))->(left=false->(∀ Q',Q' (some (!L key (xs i))) st->wpS (model prog w) A (λ_ _=>False) s m2 Q' st))->wpS (model prog w) A (λ_ _=>False) s (if left=true then m1 else m2) Q st:=λi hi Q m1 m2 hq a b=>by
  have e:=hg i hi;cases left with
  | true=>rw [if_pos rfl] at e ⊢;exact a rfl _ (e ▸ hq)
  | false=>rw [if_neg Bool.false_ne_true] at e ⊢;exact b rfl _ (e ▸ hq)
 have one:∀ i,i<n->∀ (Q:Option Bool->SortSt->Prop),Q (some (g i)) st->∀ m2:Keyed->StateT SortSt Sem (Option Bool),(∀ x,m2 x=(lt' key x >>= λr=>pure (r.map (!·))))->wpS (model prog w) A (λ_ _=>False) s (elem' arr (base+i) >>= λx=>if left=true then lt' x key else m2 x) Q st:=λi hi Q hq m2 e=>by
  refine bey i hi Q hq _ λQ' hq'=>cm i hi Q' _ _ hq' (λ_ Q2 h2=>hc _ _ _ _ (hx i hi).2 hS hk h2) λ_ Q2 h2=>?_;rw [e];exact wpS_bind (hc _ _ _ _ hS (hx i hi).2 hk (wpS_pure h2))
 unfold gallop';refine wpS_bind (one hint hh _ ?_ _ λ_=>rfl);dsimp only;cases hr:g hint with
 | true=>
  rw [if_pos rfl];refine wpS_bind (exp_loop (m:=n - hint) (t:=λo=>!g (hint+o)) (by lia) (by lia) (λx a b R h q=>?_) (λx a b R h q1 q2=>?_) (by simp [hr]) λa b h1 h2 h3 h4=>?_)
  ·dsimp only;rw [if_pos h];exact wpS_pure q
  ·dsimp only;rw [if_neg (by lia)];refine wpS_bind (one (hint+b) (by lia) _ ?_ _ λ_=>rfl);dsimp only;cases z:g (hint+b) with
   | true=>rw [if_neg (by simp)];exact wpS_pure (q2 (by simp [z]))
   | false=>rw [if_pos (by simp)];exact wpS_pure (q1 (by simp [z]))
  ·dsimp only;refine wpS_bind (bin_loop (g:=g) (λx a b R h q=>?_) (λx a b R h hb q1 q2=>?_) hm (by lia) (by lia) (λi hi=>?_) (λi hi h5=>?_) λa k h5 h6 h7=>?_)
   ·dsimp only;rw [if_pos h];exact wpS_pure q
   ·dsimp only;rw [if_neg (by lia)];refine wpS_bind (one _ (by lia) _ ?_ _ λ_=>rfl);dsimp only;cases z:g (a+(b - a) / 2) with
    | true=>rw [if_pos rfl];exact wpS_pure (q1 z)
    | false=>rw [if_neg Bool.false_ne_true];exact wpS_pure (q2 z)
   ·exact hm i (hint+a) (by lia) (by lia) (by simpa using h3)
   ·by_cases z:b<n - hint
    ·cases y:g i with
     | false=>rfl
     | true=>have:=h4 z;rw [hm (hint+b) i (by lia) h5 y] at this;cases this
    ·lia
   ·exact wpS_pure (q _ h5 h6 h7)
 | false=>
  rw [if_neg Bool.false_ne_true];refine wpS_bind (exp_loop (m:=hint+1) (t:=λo=>g (hint - o)) (by lia) (by lia) (λx a b R h q=>?_) (λx a b R h q1 q2=>?_) (by simp [hr]) λa b h1 h2 h3 h4=>?_)
  ·dsimp only;rw [if_pos h];exact wpS_pure q
  ·dsimp only;rw [if_neg (by lia)];refine wpS_bind (one (hint - b) (by lia) _ ?_ _ λ_=>rfl);dsimp only;cases z:g (hint - b) with
   | true=>rw [if_pos rfl];exact wpS_pure (q1 z)
   | false=>rw [if_neg Bool.false_ne_true];exact wpS_pure (q2 z)
  ·dsimp only;refine wpS_bind (bin_loop (g:=g) (λx a b R h q=>?_) (λx a b R h hb q1 q2=>?_) hm (by lia) (by lia) (λi hi=>?_) (λi hi h5=>?_) λa k h5 h6 h7=>?_)
   ·dsimp only;rw [if_pos h];exact wpS_pure q
   ·dsimp only;rw [if_neg (by lia)];refine wpS_bind (one _ (by lia) _ ?_ _ λ_=>rfl);dsimp only;cases z:g (a+(b - a) / 2) with
    | true=>rw [if_pos rfl];exact wpS_pure (q1 z)
    | false=>rw [if_neg Bool.false_ne_true];exact wpS_pure (q2 z)
   ·by_cases z:b<hint+1
    ·exact hm i (hint - b) (by lia) (by lia) (h4 z)
    ·lia
   ·cases y:g i with
    | false=>rfl
    | true=>have:=hm (hint - a) i (by lia) h5 y;rw [h3] at this;cases this
   ·exact wpS_pure (q _ h5 h6 h7)
end
end L2
namespace L2
open PySem PySem.Spec PyProof.Rows
structure LOrd (S:Keyed->Prop) (L:Keyed->Keyed->Bool):Prop where
 irr:∀ x,S x->L x x=false
 neg:∀ x y z,S x->S y->S z->L x z=true->L x y=true\/L y z=true
 asy:∀ x y,S x->S y->L x y=true->L y x=false
section
variable {S:Keyed->Prop}{L:Keyed->Keyed->Bool}
theorem LOrd.tr (o:LOrd S L) {x y z:Keyed} (hx:S x) (hy:S y) (hz:S z) (h1:L y x=false) (h2:L z y=false):L z x=false:=by
 cases q:L z x with
 | false=>rfl
 | true=>rcases o.neg z y x hz hy hx q with e | e <;> simp_all
abbrev UpK (L:Keyed->Keyed->Bool) (l:List Keyed):Prop:=l.Pairwise λx y=>L y x=false
structure Mg (S:Keyed->Prop) (L:Keyed->Keyed->Bool) (T out ra rb:List Keyed):Prop where
 pm:(out++(ra++rb)).Perm T
 so:UpK L out
 sa:UpK L ra
 sb:UpK L rb
 ol:∀ x∈out,∀ y∈ra++rb,L y x=false
theorem Mg.pushB {T out ra rb:List Keyed}{y:Keyed} (m:Mg S L T out ra (y::rb)) (h:∀ x∈ra,L x y=false):Mg S L T (out++[y]) ra rb:=by
 obtain ⟨pm,so,sa,sb,ol⟩:=m;rw [UpK,List.pairwise_cons] at sb;refine ⟨List.Perm.trans ?_ pm,List.pairwise_append.mpr ⟨so,List.pairwise_singleton ..,λx hx z hz=>?_⟩,sa,sb.2,λx hx z hz=>?_⟩
 ·rw [List.append_assoc];exact (List.perm_middle (l₁:=ra)).symm.append_left out
 ·rw [List.mem_singleton.mp hz];exact ol x hx _ (by simp)
 ·rcases List.mem_append.mp hx with hx | hx
  ·exact ol x hx z (by simp only [List.mem_append,List.mem_cons] at hz ⊢;rcases hz with e | e <;> simp [e])
  ·rw [List.mem_singleton.mp hx];rcases List.mem_append.mp hz with e | e
   ·exact h z e
   ·exact sb.1 z e
theorem Mg.pushA {T out ra rb:List Keyed}{x:Keyed} (m:Mg S L T out (x::ra) rb) (h:∀ y∈rb,L y x=false):Mg S L T (out++[x]) ra rb:=by
 obtain ⟨pm,so,sa,sb,ol⟩:=m;rw [UpK,List.pairwise_cons] at sa;refine ⟨List.Perm.trans ?_ pm,List.pairwise_append.mpr ⟨so,List.pairwise_singleton ..,λz hz y hy=>?_⟩,sa.2,sb,λz hz y hy=>?_⟩
 ·rw [List.append_assoc];exact .refl _
 ·rw [List.mem_singleton.mp hy];exact ol z hz _ (by simp)
 ·rcases List.mem_append.mp hz with hz | hz
  ·exact ol z hz y (by simp only [List.mem_append,List.cons_append,List.mem_cons] at hy ⊢;exact .inr hy)
  ·rw [List.mem_singleton.mp hz];rcases List.mem_append.mp hy with e | e
   ·exact sa.1 y e
   ·exact h y e
theorem Mg.runA {T rb:List Keyed}:∀ {c out ra:List Keyed},Mg S L T out (c++ra) rb->(∀ x∈c,∀ y∈rb,L y x=false)->Mg S L T (out++c) ra rb
 | [],_,_,m,_=>by rwa [List.append_nil]
 | x::c,out,ra,m,h=>by
  have:=(m.pushA (h x (List.mem_cons_self ..))).runA λz hz=>h z (List.mem_cons_of_mem _ hz)
  rwa [List.append_assoc] at this
theorem Mg.runB {T ra:List Keyed}:∀ {c out rb:List Keyed},Mg S L T out ra (c++rb)->(∀ y∈c,∀ x∈ra,L x y=false)->Mg S L T (out++c) ra rb
 | [],_,_,m,_=>by rwa [List.append_nil]
 | x::c,out,rb,m,h=>by
  have:=(m.pushB (h x (List.mem_cons_self ..))).runB λz hz=>h z (List.mem_cons_of_mem _ hz)
  rwa [List.append_assoc] at this
abbrev Mf (L:Keyed->Keyed->Bool) (T r:List Keyed):Prop:=r.Perm T/\UpK L r
theorem Mg.fin {T out ra rb:List Keyed} (m:Mg S L T out ra rb) (h:UpK L (ra++rb)):Mf L T (out++(ra++rb)):=⟨m.pm,List.pairwise_append.mpr ⟨m.so,h,m.ol⟩⟩
theorem Mg.finA {T out ra:List Keyed} (m:Mg S L T out ra []):Mf L T (out++(ra++[])):=m.fin (by rw [List.append_nil];exact m.sa)
theorem Mg.finB {T out rb:List Keyed} (m:Mg S L T out [] rb):Mf L T (out++([]++rb)):=m.fin m.sb
theorem Mg.finL {T out rb:List Keyed}{x:Keyed} (m:Mg S L T out [x] rb) (h:∀ y∈rb,L x y=false):Mf L T (out++(rb++[x])):=by
 refine ⟨List.Perm.trans (List.Perm.append_left _ List.perm_append_comm) m.pm,List.pairwise_append.mpr ⟨m.so,List.pairwise_append.mpr ⟨m.sb,List.pairwise_singleton ..,λy hy z hz=>?_⟩,λz hz y hy=>m.ol z hz y ?_⟩⟩
 ·rw [List.mem_singleton.mp hz];exact h y hy
 ·rcases List.mem_append.mp hy with e | e <;> simp [e] <;> simp_all
end
theorem arr_at {a:Array Keyed}{i:Nat} (h:i<a.size):∃ x,a[i]? = some x/\a.toList.drop i=x::a.toList.drop (i+1)/\x∈a.toList:=
 ⟨a[i],by simp [h],by rw [List.drop_eq_getElem_cons (by simpa using h)];simp,by simp⟩
theorem arr_drop (a:Array Keyed) (i:Nat):(a.extract i).toList=a.toList.drop i:=by
 rw [Array.toList_extract,List.extract_eq_take_drop];exact List.take_of_length_le (by simp)
theorem arr_cut {a:Array Keyed}{i k:Nat}:(a.extract i (i+k)).toList=(a.toList.drop i).take k:=by
 rw [Array.toList_extract,List.extract_eq_take_drop];congr 1;lia
end L2
namespace L2
open PySem PySem.Spec PyProof.Rows
section
variable {prog:Program}{w:World}{A:Around}{s:Shared}{κ:SortKind}{S:Keyed->Prop}{L:Keyed->Keyed->Bool}
structure SSt (st st':SortSt):Prop where
 kd:kindOf st' = kindOf st
 ar:arrOf st' = arrOf st
 pd:pendingOf st' = pendingOf st
 fl:failedOf st' = failedOf st
theorem SSt.rfl {st:SortSt}:SSt st st:=⟨.refl _,.refl _,.refl _,.refl _⟩
theorem SSt.trans {a b c:SortSt} (h:SSt a b) (k:SSt b c):SSt a c:=⟨k.kd.trans h.kd,k.ar.trans h.ar,k.pd.trans h.pd,k.fl.trans h.fl⟩
structure MJ (S:Keyed->Prop) (L:Keyed->Keyed->Bool) (a b out:Array Keyed) (ia ib:Nat):Prop where
 mg:Mg S L (a.toList++b.toList) out.toList (a.toList.drop ia) (b.toList.drop ib)
 sz:out.size=ia+ib
theorem MJ.b {a b out:Array Keyed}{ia ib:Nat}{y:Keyed} (m:MJ S L a b out ia ib) (hy:b[ib]? = some y) (h:∀ x∈a.toList.drop ia,L x y=false):MJ S L a b (out.push y) ia (ib+1):=by
 have hi:ib<b.size:=(Array.getElem?_eq_some_iff.mp hy).1;obtain ⟨y',e,d,_⟩:=arr_at hi;obtain rfl:y=y':=Option.some.inj (hy.symm.trans e);refine ⟨?_,by rw [Array.size_push,m.sz];lia⟩;have:=m.mg;rw [d] at this;rw [Array.toList_push];exact this.pushB h
theorem MJ.a {a b out:Array Keyed}{ia ib:Nat}{y:Keyed} (m:MJ S L a b out ia ib) (hy:a[ia]? = some y) (h:∀ x∈b.toList.drop ib,L x y=false):MJ S L a b (out.push y) (ia+1) ib:=by
 have hi:ia<a.size:=(Array.getElem?_eq_some_iff.mp hy).1;obtain ⟨y',e,d,_⟩:=arr_at hi;obtain rfl:y=y':=Option.some.inj (hy.symm.trans e);refine ⟨?_,by rw [Array.size_push,m.sz];lia⟩;have:=m.mg;rw [d] at this;rw [Array.toList_push];exact this.pushA h
theorem MJ.as {a b out:Array Keyed}{ia ib k:Nat} (m:MJ S L a b out ia ib) (hk:ia+k<=a.size) (h:∀ x∈(a.toList.drop ia).take k,∀ y∈b.toList.drop ib,L y x=false):MJ S L a b (out++a.extract ia (ia+k)) (ia+k) ib:=by
 refine ⟨?_,by rw [Array.size_append,m.sz,Array.size_extract];lia⟩;rw [Array.toList_append,arr_cut];refine Mg.runA ?_ h;rw [<-List.drop_drop,List.take_append_drop];exact m.mg
theorem MJ.bs {a b out:Array Keyed}{ia ib k:Nat} (m:MJ S L a b out ia ib) (hk:ib+k<=b.size) (h:∀ y∈(b.toList.drop ib).take k,∀ x∈a.toList.drop ia,L x y=false):MJ S L a b (out++b.extract ib (ib+k)) ia (ib+k):=by
 refine ⟨?_,by rw [Array.size_append,m.sz,Array.size_extract];lia⟩;rw [Array.toList_append,arr_cut];refine Mg.runB ?_ h;rw [<-List.drop_drop,List.take_append_drop];exact m.mg
theorem MJ.endB {a b out:Array Keyed}{ia ib:Nat} (m:MJ S L a b out ia ib) (h:ib=b.size):Mf L (a.toList++b.toList) (out++a.extract ia++b.extract ib).toList:=by
 have:=m.mg;rw [Array.toList_append,Array.toList_append,arr_drop,arr_drop,List.append_assoc];have e:b.toList.drop ib=[]:=List.drop_of_length_le (by simp [h]);rw [e] at this ⊢;exact this.finA
theorem MJ.endA {a b out:Array Keyed}{ia ib:Nat} (m:MJ S L a b out ia ib) (h:ia=a.size):Mf L (a.toList++b.toList) (out++a.extract ia++b.extract ib).toList:=by
 have:=m.mg;rw [Array.toList_append,Array.toList_append,arr_drop,arr_drop,List.append_assoc];have e:a.toList.drop ia=[]:=List.drop_of_length_le (by simp [h]);rw [e] at this ⊢;exact this.finB
theorem MJ.last {a b out:Array Keyed}{ia ib:Nat} (m:MJ S L a b out ia ib) (h:ia+1=a.size) (hl:∀ x,a[a.size - 1]? = some x->∀ y∈b.toList,L x y=false):Mf L (a.toList++b.toList) (out++b.extract ib++a.extract ia).toList:=by
 have:=m.mg;obtain ⟨x,e,d,_⟩:=arr_at (a:=a) (i:=ia) (by lia);rw [Array.toList_append,Array.toList_append,arr_drop,arr_drop,List.append_assoc];have e2:a.toList.drop (ia+1)=[]:=List.drop_of_length_le (by simp [h]);rw [e2] at d;rw [d] at this ⊢;exact this.finL λy hy=>hl x (by rw [<-h];exact e) y (List.mem_of_mem_drop hy)
structure MIn (S:Keyed->Prop) (L:Keyed->Keyed->Bool) (a b:Array Keyed):Prop where
 ord:LOrd S L
 inA:∀ x∈a.toList,S x
 inB:∀ x∈b.toList,S x
 sa:UpK L a.toList
 sb:UpK L b.toList
 na:1<=a.size
 nb:1<=b.size
 fst:∀ x y,a[0]? = some x->b[0]? = some y->L y x=true
 lst:∀ x,a[a.size - 1]? = some x->∀ y∈b.toList,L y x=true
theorem up_drop {l:List Keyed}{i:Nat} (h:UpK L l):UpK L (l.drop i):=h.sublist (List.drop_sublist _ _)
theorem up_head {l r:List Keyed}{x:Keyed} (o:LOrd S L) (h:UpK L (x::r)) (hs:S x):∀ y∈x::r,L y x=false:=λy hy=>by
 rcases List.mem_cons.mp hy with e | e
 ·rw [e];exact o.irr x hs
 ·exact (List.pairwise_cons.mp h).1 y e
theorem lt_rest (o:LOrd S L) {r:List Keyed}{x y:Keyed} (h:UpK L (x::r)) (hs:∀ z∈x::r,S z) (hy:S y) (hl:L x y=false):∀ z∈x::r,L z y=false:=λz hz=>
 o.tr hy (hs x (List.mem_cons_self ..)) (hs z hz) hl (up_head (l:=[]) o h (hs x (List.mem_cons_self ..)) z hz)
end
end L2
namespace L2
open PySem PySem.Spec PyProof.Rows
section
variable {prog:Program}{w:World}{A:Around}{s:Shared}{κ:SortKind}{S:Keyed->Prop}{L:Keyed->Keyed->Bool}
theorem gal_right (hc:CmpS prog w A s κ S L) (o:LOrd S L) {key:Keyed}{arr:Array Keyed}{base n hint:Nat}{st:SortSt}{Q:Option Nat->SortSt->Prop} (hk:kindOf st=κ) (hS:S key) (hn:base+n<=arr.size)
  (inS:∀ i x,i<n->arr[base+i]? = some x->S x) (up:∀ i j x z,i<=j->j<n->arr[base+i]? = some x->arr[base+j]? = some z->L z x=false) (hh:hint<n)
  (q:∀ k,k<=n->(∀ i x,i<k->arr[base+i]? = some x->L key x=false)->(∀ i x,k<=i->i<n->arr[base+i]? = some x->L key x=true)->Q (some k) st):wpS (model prog w) A (λ_ _=>False) s (gallop' false key arr base n hint) Q st:=by
 have get:∀ i,i<n->arr[base+i]? = some ((arr[base+i]?).getD key):=λi hi=>by rw [Array.getElem?_eq_getElem (by lia)];rfl
 refine gallop_wp hc (xs:=λi=>(arr[base+i]?).getD key) (g:=λi=>!L key ((arr[base+i]?).getD key)) hk hS (λi hi=>⟨get i hi,inS i _ hi (get i hi)⟩) (λi hi=>rfl) (λi j hij hj h=>?_) hh λk hk' h1 h2=>q k hk' (λi x hi hx=>?_) λi x hi h3 hx=>?_
 ·have:=o.tr (inS i _ (by lia) (get i (by lia))) (inS j _ hj (get j hj)) hS (up i j _ _ hij hj (get i (by lia)) (get j hj)) (by simpa using h);simp [this]
 ·have:=h1 i hi;rw [hx] at this;simpa using this
 ·have:=h2 i hi h3;rw [hx] at this;simpa using this
theorem gal_left (hc:CmpS prog w A s κ S L) (o:LOrd S L) {key:Keyed}{arr:Array Keyed}{base n hint:Nat}{st:SortSt}{Q:Option Nat->SortSt->Prop} (hk:kindOf st=κ) (hS:S key) (hn:base+n<=arr.size)
  (inS:∀ i x,i<n->arr[base+i]? = some x->S x) (up:∀ i j x z,i<=j->j<n->arr[base+i]? = some x->arr[base+j]? = some z->L z x=false) (hh:hint<n)
  (q:∀ k,k<=n->(∀ i x,i<k->arr[base+i]? = some x->L x key=true)->(∀ i x,k<=i->i<n->arr[base+i]? = some x->L x key=false)->Q (some k) st):wpS (model prog w) A (λ_ _=>False) s (gallop' true key arr base n hint) Q st:=by
 have get:∀ i,i<n->arr[base+i]? = some ((arr[base+i]?).getD key):=λi hi=>by rw [Array.getElem?_eq_getElem (by lia)];rfl
 refine gallop_wp hc (xs:=λi=>(arr[base+i]?).getD key) (g:=λi=>L ((arr[base+i]?).getD key) key) hk hS (λi hi=>⟨get i hi,inS i _ hi (get i hi)⟩) (λi hi=>rfl) (λi j hij hj h=>?_) hh λk hk' h1 h2=>q k hk' (λi x hi hx=>?_) λi x hi h3 hx=>?_
 ·rcases o.neg _ _ _ (inS j _ hj (get j hj)) (inS i _ (by lia) (get i (by lia))) hS h with e | e
  ·rw [up i j _ _ hij hj (get i (by lia)) (get j hj)] at e;cases e
  ·exact e
 ·have:=h1 i hi;rw [hx] at this;exact this
 ·have:=h2 i hi h3;rw [hx] at this;exact this
theorem up_at {a:Array Keyed}{base i j:Nat}{x z:Keyed} (o:LOrd S L) (hs:∀ x∈a.toList,S x) (h:UpK L a.toList) (hij:i<=j) (hx:a[base+i]? = some x) (hz:a[base+j]? = some z):L z x=false:=by
 obtain ⟨h1,e1⟩:=Array.getElem?_eq_some_iff.mp hx;obtain ⟨h2,e2⟩:=Array.getElem?_eq_some_iff.mp hz;rcases Nat.lt_or_ge i j with e | e
 ·have:=List.pairwise_iff_getElem.mp h (base+i) (base+j) (by simpa using h1) (by simpa using h2) (by lia);simpa [e1,e2] using this
 ·have:i=j:=by lia
  subst this;rw [hx] at hz;cases hz;exact o.irr x (hs x (by rw [<-e1];simp))
theorem mem_cutK {a:Array Keyed}{base k:Nat}{x:Keyed} (h:x∈(a.toList.drop base).take k):∃ i,i<k/\a[base+i]? = some x:=by
 obtain ⟨i,hi,e⟩:=List.mem_iff_getElem.mp h;rw [List.length_take] at hi;refine ⟨i,by lia,?_⟩;rw [List.getElem_take,List.getElem_drop] at e;rw [<-e];simp only [List.length_drop,Array.length_toList] at hi;rw [Array.getElem?_eq_getElem (by lia)];simp
theorem mem_restK {a:Array Keyed}{base:Nat}{x:Keyed} (h:x∈a.toList.drop base):∃ i,base+i<a.size/\a[base+i]? = some x:=by
 obtain ⟨i,hi,e⟩:=List.mem_iff_getElem.mp h;rw [List.getElem_drop] at e;simp only [List.length_drop,Array.length_toList] at hi;refine ⟨i,by lia,?_⟩;rw [<-e,Array.getElem?_eq_getElem (by lia)];simp
end
end L2
namespace L2
open PySem PySem.Spec PyProof.Rows
section
variable {prog:Program}{w:World}{A:Around}{s:Shared}{κ:SortKind}{S:Keyed->Prop}{L:Keyed->Keyed->Bool}
theorem mergeLo_wp (hc:CmpS prog w A s κ S L) {a b:Array Keyed} (I:MIn S L a b) {st:SortSt}{Q:Array Keyed->SortSt->Prop} (hk:kindOf st=κ)
  (q:∀ r st',SSt st st'->Mf L (a.toList++b.toList) r.toList->Q r st'):wpS (model prog w) A (λ_ _=>False) s (mergeLo' a b) Q st:=by
 have hl:∀ x,a[a.size - 1]? = some x->∀ y∈b.toList,L x y=false:=λx hx y hy=>by
  obtain ⟨z,e,_,m⟩:=arr_at (a:=a) (i:=a.size - 1) (by have:=I.na;lia);exact I.ord.asy _ _ (I.inB y hy) (by rw [hx] at e;cases e;exact I.inA _ m) (I.lst x hx y hy)
 unfold mergeLo';refine wpS_bind (wpS_lift (wpAny_rule ⟨.refl _,?_⟩));obtain ⟨y0,hy0,dy0,my0⟩:=arr_at (a:=b) (i:=0) I.nb;obtain ⟨x0,hx0,dx0,mx0⟩:=arr_at (a:=a) (i:=0) I.na;refine wpS_bind (elem_wp hy0 ?_);have m0:MJ S L a b #[] 0 0:=⟨⟨.refl _,.nil,I.sa,I.sb,λx hx=>nomatch hx⟩,rfl⟩
 have m1:MJ S L a b #[y0] 0 1:=m0.b hy0 λx hx=>by
  rw [dx0] at hx;have sa:=I.sa;rw [<-List.drop_zero (l:=a.toList),dx0] at sa;exact lt_rest I.ord sa (λz hz=>I.inA z (List.mem_of_mem_drop (dx0 ▸ hz))) (I.inB _ my0) (I.ord.asy _ _ (I.inB _ my0) (I.inA _ mx0) (I.fst _ _ hx0 hy0)) x hx
 generalize (#[y0]:Array Keyed)=o1 at m1 ⊢
 extract_lets -merge -underBinder z1 z2 z3
 dsimp -zeta only [z1,z2,z3];by_cases c1:1=b.size
 ·rw [if_pos (by simpa using c1)];exact wpS_pure (q _ _ .rfl (m1.endB c1))
 rw [if_neg (by simpa using c1)];by_cases c2:0+1=a.size
 ·rw [if_pos (by simpa using c2)];exact wpS_pure (q _ _ .rfl (m1.last c2 hl))
 rw [if_neg (by simpa using c2)];have nb:=I.nb;have na:=I.na;refine wpS_bind (wpS_get ?_);have SA:∀ {i:Nat}{z:Keyed},z∈a.toList.drop i->S z:=λh=>I.inA _ (List.mem_of_mem_drop h);have SB:∀ {i:Nat}{z:Keyed},z∈b.toList.drop i->S z:=λh=>I.inB _ (List.mem_of_mem_drop h);have ahB:∀ {ia ib:Nat}{x y:Keyed},a.toList.drop ia=x::a.toList.drop (ia+1)->S y->L x y=false->∀ z∈a.toList.drop ia,L z y=false:=λ{ia ib x y} d hy h=>by
  have sa:=up_drop (i:=ia) I.sa;have ss:∀ z∈a.toList.drop ia,S z:=λz hz=>SA hz;rw [d] at sa ss ⊢;exact lt_rest I.ord sa ss hy h
 have ahA:∀ {ib:Nat}{x y:Keyed},b.toList.drop ib=y::b.toList.drop (ib+1)->S x->L y x=false->∀ z∈b.toList.drop ib,L z x=false:=λ{ib x y} d hx h=>by
  have sb:=up_drop (i:=ib) I.sb;have ss:∀ z∈b.toList.drop ib,S z:=λz hz=>SB hz;rw [d] at sb ss ⊢;exact lt_rest I.ord sb ss hx h
 refine wpS_bind (wpS_mono (wpS_forRange (λi c st'=>SSt st st'/\∃ (o:Array Keyed) (ia ib mg:Nat),c=(none,o,ia,ib,mg)/\MJ S L a b o ia ib/\ia+1<a.size/\ib<b.size/\i<=o.size) (Q:=λc st'=>SSt st st'/\∃ r:Array Keyed,c.1=some r/\Mf L (a.toList++b.toList) r.toList) (λi c st' _ hi p=>?_) (λc st' p=>?_) ⟨.rfl,_,_,_,_,rfl,m1,by lia,by lia,Nat.zero_le _⟩) λc st' p=>?_);rotate_left
 ·obtain ⟨_,o,ia,ib,mg,_,m,h1,h2,h3⟩:=p;have:=m.sz;lia
 ·obtain ⟨ss,r,e,f⟩:=p;rw [e];exact wpS_pure (q _ _ ss f)
 obtain ⟨ss,o,ia,ib,mg,rfl,m,h1,h2,h3⟩:=p
 extract_lets -merge -underBinder z1 z2 z3 z4 z5 z6 z7 z8 z9
 dsimp -zeta only [z1,z2,z3,z4,z5,z6,z7,z8,z9];refine wpS_bind (wpS_mono (wpS_forRange (λj c st'=>SSt st st'/\∃ (o':Array Keyed) (ia ib ac bc:Nat),c=(none,o',ia,ib,ac,bc)/\MJ S L a b o' ia ib/\ia+1<a.size/\ib<b.size/\o.size+j<=o'.size)
  (Q:=λc st'=>SSt st st'/\((∃ (r o':Array Keyed) (d:Nat×Nat×Nat×Nat),c=(some r,o',d)/\Mf L (a.toList++b.toList) r.toList)\/∃ (o':Array Keyed) (ia ib ac bc:Nat),c=(none,o',ia,ib,ac,bc)/\MJ S L a b o' ia ib/\ia+1<a.size/\ib<b.size/\o.size+1<=o'.size)) (λj c st' _ hj p=>?_) (λc st' p=>?_) ⟨ss,_,_,_,_,_,rfl,m,h1,h2,by lia⟩) λc st' p=>?_)
 ·obtain ⟨ss,o',ia,ib,ac,bc,rfl,m,h1,h2,h3⟩:=p;obtain ⟨x,hx,dx,mx⟩:=arr_at (a:=a) (i:=ia) (by lia);obtain ⟨y,hy,dy,my⟩:=arr_at h2;have sx:=I.inA x mx;have sy:=I.inB y my;dsimp only;refine wpS_bind (elem_wp hy (wpS_bind (elem_wp hx (wpS_bind (hc _ _ _ _ sy sx (ss.kd.trans hk) ?_)))));dsimp only;cases hL:L y x with
  | true=>
   rw [if_pos rfl];refine wpS_bind (elem_wp hy ?_);have m':=m.b hy (ahB (ib:=0) dx sy (I.ord.asy _ _ sy sx hL));have es:(o'.push y).size=o'.size+1:=Array.size_push ..;by_cases c3:ib+1=b.size
   ·rw [if_pos (by simpa using c3)];exact wpS_pure ⟨ss,.inl ⟨_,_,_,rfl,m'.endB c3⟩⟩
   rw [if_neg (by simpa using c3)]
   split
   ·exact wpS_pure ⟨ss,.inr ⟨_,_,_,_,_,rfl,m',h1,by lia,by lia⟩⟩
   ·exact wpS_pure ⟨ss,_,_,_,_,_,rfl,m',h1,by lia,by lia⟩
  | false=>
   rw [if_neg Bool.false_ne_true];refine wpS_bind (elem_wp hx ?_);have m':=m.a hx (ahA dy sx hL);have es:(o'.push x).size=o'.size+1:=Array.size_push ..;by_cases c3:ia+1+1=a.size
   ·rw [if_pos (by simpa using c3)];exact wpS_pure ⟨ss,.inl ⟨_,_,_,rfl,m'.last c3 hl⟩⟩
   rw [if_neg (by simpa using c3)]
   split
   ·exact wpS_pure ⟨ss,.inr ⟨_,_,_,_,_,rfl,m',by lia,h2,by lia⟩⟩
   ·exact wpS_pure ⟨ss,_,_,_,_,_,rfl,m',by lia,h2,by lia⟩
 ·obtain ⟨_,o',ia,ib,ac,bc,_,m,h1,h2,h3⟩:=p;have:=m.sz;lia
 obtain ⟨ss,⟨r,o',d,rfl,f⟩ | ⟨o1,ia,ib,ac,bc,rfl,m,h1,h2,h4⟩⟩:=p
 ·dsimp only;exact wpS_pure ⟨ss,r,rfl,f⟩
 extract_lets -merge -underBinder z1 z2 z3 z4 z5 z6 z7 z8 z9 z10
 dsimp -zeta only [z1,z2,z3,z4,z5,z6,z7,z8,z9,z10];refine wpS_bind (wpS_lift (wpAny_rule ⟨.refl _,?_⟩));refine wpS_bind (wpS_mono (wpS_forRange (λj c st'=>SSt st st'/\∃ (o':Array Keyed) (ia ib mg ac bc:Nat),c=(none,o',ia,ib,mg,ac,bc)/\MJ S L a b o' ia ib/\ia+1<a.size/\ib<b.size/\o1.size+j<=o'.size)
  (Q:=λc st'=>SSt st st'/\((∃ (r o':Array Keyed) (d:Nat×Nat×Nat×Nat×Nat),c=(some r,o',d)/\Mf L (a.toList++b.toList) r.toList)\/∃ (o':Array Keyed) (ia ib mg ac bc:Nat),c=(none,o',ia,ib,mg,ac,bc)/\MJ S L a b o' ia ib/\ia+1<a.size/\ib<b.size/\o1.size<=o'.size)) (λj c st' _ hj p=>?_) (λc st' p=>?_) ⟨ss,_,_,_,_,_,_,rfl,m,h1,h2,by lia⟩) λc st' p=>?_)
 ·obtain ⟨ss,o',ia,ib,mg,ac,bc,rfl,m,h1,h2,h3⟩:=p;obtain ⟨R,hR⟩:∃ R:ForInStep (Option (Array Keyed)×Array Keyed×Nat×Nat×Nat×Nat×Nat)->SortSt->Prop,R=λr st'=>SSt st st'/\((∃ (r0 o':Array Keyed) (d:Nat×Nat×Nat×Nat×Nat),r = .done (some r0,o',d)/\Mf L (a.toList++b.toList) r0.toList)\/∃ (o':Array Keyed) (ia ib mg ac bc:Nat),(r = .done (none,o',ia,ib,mg,ac,bc)\/r = .yield (none,o',ia,ib,mg,ac,bc))/\MJ S L a b o' ia ib/\ia+1<a.size/\ib<b.size/\o1.size+j+1<=o'.size):=⟨_,rfl⟩;refine wpS_mono (Q:=R) ?_ λr st' p=>?_;rotate_left
  ·rw [hR] at p;obtain ⟨ss,⟨r,o',d,rfl,f⟩ | ⟨o',ia,ib,mg,ac,bc,rfl | rfl,m,h1,h2,h4⟩⟩:=p
   ·exact ⟨ss,.inl ⟨_,_,_,rfl,f⟩⟩
   ·exact ⟨ss,.inr ⟨_,_,_,_,_,_,rfl,m,h1,h2,by lia⟩⟩
   ·exact ⟨ss,_,_,_,_,_,_,rfl,m,h1,h2,by lia⟩
  have Rf:∀ {r0 o':Array Keyed} {d} {st'},SSt st st'->Mf L (a.toList++b.toList) r0.toList->R (.done (some r0,o',d)) st':=λh f=>by rw [hR];exact ⟨h,.inl ⟨_,_,_,rfl,f⟩⟩
  have Rd:∀ {o':Array Keyed} {ia ib mg ac bc st'},SSt st st'->MJ S L a b o' ia ib->ia+1<a.size->ib<b.size->o1.size+j+1<=o'.size->R (.done (none,o',ia,ib,mg,ac,bc)) st':=λh m a b c=>by rw [hR];exact ⟨h,.inr ⟨_,_,_,_,_,_,.inl rfl,m,a,b,c⟩⟩
  have Ry:∀ {o':Array Keyed} {ia ib mg ac bc st'},SSt st st'->MJ S L a b o' ia ib->ia+1<a.size->ib<b.size->o1.size+j+1<=o'.size->R (.yield (none,o',ia,ib,mg,ac,bc)) st':=λh m a b c=>by rw [hR];exact ⟨h,.inr ⟨_,_,_,_,_,_,.inr rfl,m,a,b,c⟩⟩
  clear hR
  extract_lets -merge -underBinder z1 z2 z3 z4 z5 z6 z7 z8 z9 z10 z11 jp
  dsimp -zeta only [z1,z2,z3,z4,z5,z6,z7,z8,z9,z10,z11];obtain ⟨y,hy,dy,my⟩:=arr_at h2;have sy:=I.inB y my;have hjp:∀ u g st2,SSt st st2->wpS (model prog w) A (λ_ _=>False) s (jp u g) R st2:=λu g st2 ss=>by
   dsimp -zeta only [jp,z1,z2,z3,z4,z5,z6,z7,z8,z9,z10,z11];refine wpS_bind (wpS_modify ?_);have ss2:SSt st (SortSt.mk' (kindOf st2) (arrOf st2) (pendingOf st2) g (failedOf st2)):=ss.trans ⟨.refl (kindOf st2),.refl (arrOf st2),.refl (pendingOf st2),.refl (failedOf st2)⟩;refine wpS_bind (elem_wp hy (wpS_bind (gal_right hc I.ord (ss2.kd.trans hk) sy (by lia) (λi x hi hx=>I.inA x (by obtain ⟨h,e⟩:=Array.getElem?_eq_some_iff.mp hx;rw [<-e];simp)) (λi j x z hij hj hx hz=>up_at I.ord I.inA I.sa hij hx hz) (by lia) λk hk1 hk2 hk3=>?_)));have nx:∀ {i:Nat}{x:Keyed},a[i]? = some x->S x:=λhx=>I.inA _ (by obtain ⟨h,e⟩:=Array.getElem?_eq_some_iff.mp hx;rw [<-e];simp);have ny:∀ {i:Nat}{x:Keyed},b[i]? = some x->S x:=λhx=>I.inB _ (by obtain ⟨h,e⟩:=Array.getElem?_eq_some_iff.mp hx;rw [<-e];simp);dsimp -zeta only
   extract_lets -merge -underBinder y1 jp2 w1 w2
   have hjp2:∀ u (o:Array Keyed) (ia':Nat),MJ S L a b o ia' ib->ia' + 1<a.size->(∀ z∈a.toList.drop ia',L z y=false)->o1.size+j<=o.size->∀ st3,SSt st st3->wpS (model prog w) A (λ_ _=>False) s (jp2 u o ia') R st3:=λu o ia' m' h1' hle hsz st3 ss2=>by
    dsimp -zeta only [jp2,y1];refine wpS_bind (elem_wp hy ?_)
    extract_lets -merge -underBinder x1 x2
    dsimp -zeta only [x1,x2];have m2:=m'.b hy hle;have es:(o.push y).size=o.size+1:=Array.size_push ..;by_cases c3:ib+1=b.size
    ·rw [if_pos (beq_iff_eq.mpr c3)];exact wpS_pure (Rf ss2 (m2.endB c3))
    rw [if_neg (λe=>c3 (beq_iff_eq.mp e))];obtain ⟨x,hx,dx,mx⟩:=arr_at (a:=a) (i:=ia') (by lia);have sx:=I.inA x mx;refine wpS_bind (elem_wp hx (wpS_bind (gal_left hc I.ord (ss2.kd.trans hk) sx (by lia) (λi x hi hx=>ny hx) (λi j x z hij hj hx hz=>up_at I.ord I.inB I.sb hij hx hz) (by lia) λk2 kk1 kk2 kk3=>?_)));dsimp -zeta only
    extract_lets -merge -underBinder y2 jp3 w3 w4
    have hjp3:∀ u (o':Array Keyed) (ib':Nat),MJ S L a b o' ia' ib'->ib' < b.size->(∀ z∈b.toList.drop ib',L z x=false)->o.size<=o'.size->wpS (model prog w) A (λ_ _=>False) s (jp3 u o' ib') R st3:=λu o' ib' m' h2' hle' hsz'=>by
     dsimp -zeta only [jp3,y2];refine wpS_bind (elem_wp hx ?_)
     extract_lets -merge -underBinder x1 x2
     dsimp -zeta only [x1,x2];have m3:=m'.a hx hle';have es:(o'.push x).size=o'.size+1:=Array.size_push ..;by_cases c4:ia' + 1+1=a.size
     ·rw [if_pos (beq_iff_eq.mpr c4)];exact wpS_pure (Rf ss2 (m3.last c4 hl))
     rw [if_neg (λe=>c4 (beq_iff_eq.mp e))]
     split
     ·exact wpS_pure (Rd ss2 m3 (by lia) h2' (by lia))
     ·exact wpS_pure (Ry ss2 m3 (by lia) h2' (by lia))
    have hle2:ib+1+k2<b.size->∀ z∈b.toList.drop (ib+1+k2),L z x=false:=λhlt=>by
     obtain ⟨y',hy',dy',my'⟩:=arr_at hlt;exact ahA dy' sx (kk3 k2 y' (Nat.le_refl _) (by lia) hy')
    by_cases c5:k2 > 0
    ·rw [if_pos c5];dsimp -zeta only [w3,w4];have m4:=m2.bs (k:=k2) (by lia) λz hz v hv=>by
      obtain ⟨i,hi,hz'⟩:=mem_cutK hz;exact ahB (ib:=0) dx (ny hz') (I.ord.asy _ _ (ny hz') sx (kk2 i z hi hz')) v hv
     have es2:(o.push y++b.extract (ib+1) (ib+1+k2)).size=o.size+1+(b.extract (ib+1) (ib+1+k2)).size:=by rw [Array.size_append,es]
     by_cases c6:ib+1+k2=b.size
     ·rw [if_pos (beq_iff_eq.mpr c6)];exact wpS_pure (Rf ss2 (m4.endB c6))
     rw [if_neg (λe=>c6 (beq_iff_eq.mp e))];exact hjp3 () _ _ m4 (by lia) (hle2 (by lia)) (by lia)
    ·rw [if_neg c5];have:k2=0:=by lia
     subst this;exact hjp3 () _ _ m2 (by lia) (hle2 (by lia)) (by lia)
   have hle:ia+k<a.size->∀ z∈a.toList.drop (ia+k),L z y=false:=λhlt=>by
    obtain ⟨x',hx',dx',mx'⟩:=arr_at hlt;exact ahB (ib:=0) dx' sy (I.ord.asy _ _ sy (I.inA _ mx') (hk3 k x' (Nat.le_refl _) (by lia) hx'))
   by_cases c5:k > 0
   ·rw [if_pos c5];dsimp -zeta only [w1,w2];have m4:=m.as (k:=k) (by lia) λz hz v hv=>by
     obtain ⟨i,hi,hz'⟩:=mem_cutK hz;exact ahA dy (nx hz') (hk2 i z hi hz') v hv
    have es2:(o'++a.extract ia (ia+k)).size=o'.size+(a.extract ia (ia+k)).size:=Array.size_append ..;by_cases c6:ia+k+1=a.size
    ·rw [if_pos (beq_iff_eq.mpr c6)];exact wpS_pure (Rf ss2 (m4.last c6 hl))
    rw [if_neg (λe=>c6 (beq_iff_eq.mp e))];by_cases c7:ia+k=a.size
    ·rw [if_pos (beq_iff_eq.mpr c7)];exact wpS_pure (Rf ss2 (m4.endA c7))
    rw [if_neg (λe=>c7 (beq_iff_eq.mp e))];exact hjp2 () _ _ m4 (by lia) (hle (by lia)) (by lia) _ ss2
   ·rw [if_neg c5];have:k=0:=by lia
    subst this;exact hjp2 () _ _ m h1 (hle (by lia)) (by lia) _ ss2
  split
  ·exact hjp () _ _ ss
  ·exact hjp () _ _ ss
 ·obtain ⟨_,o',ia,ib,mg,ac,bc,_,m,h1,h2,h3⟩:=p;have:=m.sz;lia
 obtain ⟨ss,⟨r,o',d,rfl,f⟩ | ⟨o2,ia,ib,mg,ac,bc,rfl,m,h1,h2,h5⟩⟩:=p
 ·dsimp only;exact wpS_pure ⟨ss,r,rfl,f⟩
 dsimp only;refine wpS_bind (wpS_modify ?_);exact wpS_pure ⟨ss.trans ⟨rfl,rfl,rfl,rfl⟩,_,_,_,_,rfl,m,h1,h2,by lia⟩
end
end L2
namespace L2
open PySem PySem.Spec PyProof.Rows
section
variable {prog:Program}{w:World}{A:Around}{s:Shared}{κ:SortKind}{S:Keyed->Prop}{L:Keyed->Keyed->Bool}
abbrev flipL (L:Keyed->Keyed->Bool):Keyed->Keyed->Bool:=λx y=>L y x
theorem arr_last {a:Array Keyed}{n:Nat} (h1:1<=n) (h:n<=a.size):∃ x,a[n - 1]? = some x/\(a.toList.take n).reverse=x::(a.toList.take (n - 1)).reverse/\x∈a.toList:=by
 refine ⟨a[n - 1],by rw [Array.getElem?_eq_getElem (by lia)],?_,by simp⟩;obtain ⟨m,rfl⟩:∃ m,n=m+1:=⟨n - 1,by lia⟩;rw [List.take_succ_eq_append_getElem (by rw [Array.length_toList];lia),List.reverse_append];simp
theorem take_cut {a:Array Keyed}{n m:Nat} (h:m<=n):(a.toList.take n).reverse=((a.extract m n).reverse).toList++(a.toList.take m).reverse:=by
 rw [Array.toList_reverse,Array.toList_extract,List.extract_eq_take_drop,<-List.reverse_append]
 congr 1
 obtain ⟨k,rfl⟩:∃ k,n=m+k:=⟨n - m,by lia⟩;rw [Nat.add_sub_cancel_left,List.take_add]
theorem take_all {a:Array Keyed}{n:Nat}:(a.extract 0 n).toList=a.toList.take n:=by
 rw [Array.toList_extract,List.extract_eq_take_drop];simp
structure MK (S:Keyed->Prop) (L:Keyed->Keyed->Bool) (a b out:Array Keyed) (na nb:Nat):Prop where
 mg:Mg S (flipL L) (a.toList++b.toList) out.toList (b.toList.take nb).reverse (a.toList.take na).reverse
 sz:out.size+na+nb=a.size+b.size
theorem MK.a {a b out:Array Keyed}{na nb:Nat}{y:Keyed} (m:MK S L a b out na nb) (h1:1<=na) (hn:na<=a.size) (hy:a[na - 1]? = some y) (h:∀ x∈b.toList.take nb,L y x=false):MK S L a b (out.push y) (na - 1) nb:=by
 obtain ⟨y',e,d,_⟩:=arr_last h1 hn;obtain rfl:y=y':=Option.some.inj (hy.symm.trans e);have:=m.sz;refine ⟨?_,by rw [Array.size_push];lia⟩;have:=m.mg;rw [d] at this;rw [Array.toList_push];exact this.pushB λx hx=>h x (List.mem_reverse.mp hx)
theorem MK.b {a b out:Array Keyed}{na nb:Nat}{y:Keyed} (m:MK S L a b out na nb) (h1:1<=nb) (hn:nb<=b.size) (hy:b[nb - 1]? = some y) (h:∀ x∈a.toList.take na,L y x=false):MK S L a b (out.push y) na (nb - 1):=by
 obtain ⟨y',e,d,_⟩:=arr_last h1 hn;obtain rfl:y=y':=Option.some.inj (hy.symm.trans e);have:=m.sz;refine ⟨?_,by rw [Array.size_push];lia⟩;have:=m.mg;rw [d] at this;rw [Array.toList_push];exact this.pushA λx hx=>h x (List.mem_reverse.mp hx)
theorem MK.as {a b out:Array Keyed}{na nb k:Nat} (m:MK S L a b out na nb) (hk:k<=na) (hn:na<=a.size) (h:∀ i x,k<=i->i<na->a[i]? = some x->∀ y∈b.toList.take nb,L x y=false):MK S L a b (out++(a.extract k na).reverse) k nb:=by
 have:=m.sz;refine ⟨?_,by rw [Array.size_append,Array.size_reverse,Array.size_extract];lia⟩;rw [Array.toList_append];refine Mg.runB ?_ λy hy x hx=>?_
 ·rw [<-take_cut hk];exact m.mg
 ·rw [Array.toList_reverse,List.mem_reverse,Array.mem_toList_iff] at hy;obtain ⟨i,hi,e⟩:=Array.mem_iff_getElem.mp hy;rw [Array.size_extract] at hi;refine h (k+i) y (by lia) (by lia) ?_ x (List.mem_reverse.mp hx);rw [<-e,Array.getElem_extract,Array.getElem?_eq_getElem (by lia)]
theorem MK.bs {a b out:Array Keyed}{na nb k:Nat} (m:MK S L a b out na nb) (hk:k<=nb) (hn:nb<=b.size) (h:∀ i x,k<=i->i<nb->b[i]? = some x->∀ y∈a.toList.take na,L x y=false):MK S L a b (out++(b.extract k nb).reverse) na k:=by
 have:=m.sz;refine ⟨?_,by rw [Array.size_append,Array.size_reverse,Array.size_extract];lia⟩;rw [Array.toList_append];refine Mg.runA ?_ λy hy x hx=>?_
 ·rw [<-take_cut hk];exact m.mg
 ·rw [Array.toList_reverse,List.mem_reverse,Array.mem_toList_iff] at hy;obtain ⟨i,hi,e⟩:=Array.mem_iff_getElem.mp hy;rw [Array.size_extract] at hi;refine h (k+i) y (by lia) (by lia) ?_ x (List.mem_reverse.mp hx);rw [<-e,Array.getElem_extract,Array.getElem?_eq_getElem (by lia)]
theorem mf_rev {T r:List Keyed} (h:Mf (flipL L) T r):Mf L T r.reverse:=⟨(List.reverse_perm _).trans h.1,List.pairwise_reverse.mpr h.2⟩
theorem MK.endA {a b out:Array Keyed}{na nb:Nat} (m:MK S L a b out na nb) (h:na=0):Mf L (a.toList++b.toList) (a.extract 0 na++b.extract 0 nb++out.reverse).toList:=by
 subst h;have:=m.mg;rw [List.take_zero,List.reverse_nil] at this;have:=mf_rev this.finA;rw [Array.toList_append,Array.toList_append,take_all,take_all,Array.toList_reverse];simpa using this
theorem MK.endB {a b out:Array Keyed}{na nb:Nat} (m:MK S L a b out na nb) (h:nb=0):Mf L (a.toList++b.toList) (a.extract 0 na++b.extract 0 nb++out.reverse).toList:=by
 subst h;have:=m.mg;rw [List.take_zero,List.reverse_nil] at this;have:=mf_rev this.finB;rw [Array.toList_append,Array.toList_append,take_all,take_all,Array.toList_reverse];simpa using this
theorem MK.first {a b out:Array Keyed}{na nb:Nat} (m:MK S L a b out na nb) (h:nb=1) (hb:1<=b.size) (hf:∀ y,b[0]? = some y->∀ x∈a.toList,L x y=false):Mf L (a.toList++b.toList) (b.extract 0 nb++a.extract 0 na++out.reverse).toList:=by
 subst h;have:=m.mg;obtain ⟨y,e,d,_⟩:=arr_last (a:=b) (n:=1) (Nat.le_refl _) hb;have d':b.toList.take 1=[y]:=by simpa using congrArg List.reverse d
 rw [d,Nat.sub_self,List.take_zero,List.reverse_nil] at this;have:=mf_rev (this.finL λx hx=>hf y e x (List.mem_of_mem_take (List.mem_reverse.mp hx)));rw [Array.toList_append,Array.toList_append,take_all,take_all,Array.toList_reverse,d'];simpa using this
end
end L2
namespace L2
open PySem PySem.Spec PyProof.Rows
section
variable {prog:Program}{w:World}{A:Around}{s:Shared}{κ:SortKind}{S:Keyed->Prop}{L:Keyed->Keyed->Bool}
theorem mem_takeK {a:Array Keyed}{n:Nat}{x:Keyed} (h:x∈a.toList.take n):∃ i,i<n/\a[i]? = some x:=by
 have:=mem_cutK (a:=a) (base:=0) (k:=n) (x:=x) (by rwa [List.drop_zero]);simpa using this
theorem mergeHi_wp (hc:CmpS prog w A s κ S L) {a b:Array Keyed} (I:MIn S L a b) {st:SortSt}{Q:Array Keyed->SortSt->Prop} (hk:kindOf st=κ)
  (q:∀ r st',SSt st st'->Mf L (a.toList++b.toList) r.toList->Q r st'):wpS (model prog w) A (λ_ _=>False) s (mergeHi' a b) Q st:=by
 have nx:∀ {i:Nat}{x:Keyed},a[i]? = some x->S x:=λhx=>I.inA _ (by obtain ⟨h,e⟩:=Array.getElem?_eq_some_iff.mp hx;rw [<-e];simp);have ny:∀ {i:Nat}{x:Keyed},b[i]? = some x->S x:=λhx=>I.inB _ (by obtain ⟨h,e⟩:=Array.getElem?_eq_some_iff.mp hx;rw [<-e];simp);have upA:∀ {i j:Nat}{x z:Keyed},i<=j->a[i]? = some x->a[j]? = some z->L z x=false:=λ{i j x z} hij hx hz=>up_at (base:=0) I.ord I.inA I.sa hij (by simpa using hx) (by simpa using hz);have upB:∀ {i j:Nat}{x z:Keyed},i<=j->b[i]? = some x->b[j]? = some z->L z x=false:=λ{i j x z} hij hx hz=>up_at (base:=0) I.ord I.inB I.sb hij (by simpa using hx) (by simpa using hz);have leA:∀ {n:Nat}{x z y:Keyed},a[n - 1]? = some z->S y->L y z=false->x∈a.toList.take n->L y x=false:=λ{n x z y} hz sy h hx=>by
  obtain ⟨i,hi,e⟩:=mem_takeK hx;exact I.ord.tr (nx e) (nx hz) sy (upA (by lia) e hz) h
 have leB:∀ {n:Nat}{x z y:Keyed},b[n - 1]? = some z->S y->L y z=false->x∈b.toList.take n->L y x=false:=λ{n x z y} hz sy h hx=>by
  obtain ⟨i,hi,e⟩:=mem_takeK hx;exact I.ord.tr (ny e) (ny hz) sy (upB (by lia) e hz) h
 have na:=I.na;have nb:=I.nb;have hf:∀ y,b[0]? = some y->∀ x∈a.toList,L x y=false:=λy hy x hx=>by
  obtain ⟨x0,hx0,dx0,mx0⟩:=arr_at (a:=a) (i:=0) na;have:=I.ord.asy _ _ (ny hy) (I.inA _ mx0) (I.fst _ _ hx0 hy);have hx':x∈a.toList.take a.size:=by rw [List.take_of_length_le (by simp)];exact hx
  obtain ⟨i,hi,e⟩:=mem_takeK hx';exact I.ord.tr (ny hy) (nx hx0) (I.inA x hx) this (upA (Nat.zero_le i) hx0 e)
 unfold mergeHi';refine wpS_bind (wpS_lift (wpAny_rule ⟨.refl _,?_⟩));obtain ⟨xl,hxl,_,mxl⟩:=arr_last (a:=a) na (Nat.le_refl _);refine wpS_bind (elem_wp hxl ?_);have m0:MK S L a b #[] a.size b.size:=⟨⟨by
  rw [List.take_of_length_le (by simp),List.take_of_length_le (by simp)];exact ((List.reverse_perm _).append (List.reverse_perm _)).trans List.perm_append_comm,.nil,by
  rw [List.take_of_length_le (by simp)];exact List.pairwise_reverse.mpr I.sb,by
  rw [List.take_of_length_le (by simp)];exact List.pairwise_reverse.mpr I.sa,λx hx=>nomatch hx⟩,by simp⟩
 have m1:MK S L a b #[xl] (a.size - 1) b.size:=m0.a na (Nat.le_refl _) hxl λx hx=>by
  exact I.ord.asy _ _ (I.inB x (List.mem_of_mem_take hx)) (I.inA _ mxl) (I.lst _ hxl x (List.mem_of_mem_take hx))
 generalize (#[xl]:Array Keyed)=o1 at m1 ⊢
 extract_lets -merge -underBinder z1
 dsimp -zeta only [z1];by_cases c1:a.size - 1=0
 ·rw [if_pos (beq_iff_eq.mpr c1)];exact wpS_pure (q _ _ .rfl (m1.endA c1))
 rw [if_neg (λe=>c1 (beq_iff_eq.mp e))];by_cases c2:b.size=1
 ·rw [if_pos (beq_iff_eq.mpr c2)];exact wpS_pure (q _ _ .rfl (m1.first c2 nb hf))
 rw [if_neg (λe=>c2 (beq_iff_eq.mp e))];refine wpS_bind (wpS_get ?_);refine wpS_bind (wpS_mono (wpS_forRange (λi c st'=>SSt st st'/\∃ (o:Array Keyed) (na nb mg:Nat),c=(none,na,nb,o,mg)/\MK S L a b o na nb/\1<=na/\na<=a.size/\2<=nb/\nb<=b.size/\i<=o.size) (Q:=λc st'=>SSt st st'/\∃ r:Array Keyed,c.1=some r/\Mf L (a.toList++b.toList) r.toList) (λi c st' _ hi p=>?_) (λc st' p=>?_) ⟨.rfl,_,_,_,_,rfl,m1,by lia,by lia,by lia,by lia,Nat.zero_le _⟩) λc st' p=>?_);rotate_left
 ·obtain ⟨_,o,na,nb,mg,_,m,h1,h2,h3,h4,h5⟩:=p;have:=m.sz;lia
 ·obtain ⟨ss,r,e,f⟩:=p;dsimp only;rw [e];exact wpS_pure (q _ _ ss f)
 obtain ⟨ss,o,na,nb,mg,rfl,m,h1,h2,h3,h4,h5⟩:=p
 extract_lets -merge -underBinder z1 z2 z3 z4 z5 z6 z7 z8 z9
 dsimp -zeta only [z1,z2,z3,z4,z5,z6,z7,z8,z9];refine wpS_bind (wpS_mono (wpS_forRange (λj c st'=>SSt st st'/\∃ (o':Array Keyed) (na nb ac bc:Nat),c=(none,na,nb,o',ac,bc)/\MK S L a b o' na nb/\1<=na/\na<=a.size/\2<=nb/\nb<=b.size/\o.size+j<=o'.size)
  (Q:=λc st'=>SSt st st'/\((∃ (r:Array Keyed) (na nb:Nat) (d:Array Keyed×Nat×Nat),c=(some r,na,nb,d)/\Mf L (a.toList++b.toList) r.toList)\/∃ (o':Array Keyed) (na nb ac bc:Nat),c=(none,na,nb,o',ac,bc)/\MK S L a b o' na nb/\1<=na/\na<=a.size/\2<=nb/\nb<=b.size/\o.size+1<=o'.size)) (λj c st' _ hj p=>?_) (λc st' p=>?_) ⟨ss,_,_,_,_,_,rfl,m,h1,h2,h3,h4,by lia⟩) λc st' p=>?_)
 ·obtain ⟨ss,o',na,nb,ac,bc,rfl,m,h1,h2,h3,h4,h5⟩:=p;obtain ⟨x,hx,dx,mx⟩:=arr_last (a:=a) h1 h2;obtain ⟨y,hy,dy,my⟩:=arr_last (a:=b) (n:=nb) (by lia) h4;have sx:=I.inA x mx;have sy:=I.inB y my;dsimp only;refine wpS_bind (elem_wp hy (wpS_bind (elem_wp hx (wpS_bind (hc _ _ _ _ sy sx (ss.kd.trans hk) ?_)))));dsimp only;cases hL:L y x with
  | true=>
   rw [if_pos rfl];refine wpS_bind (elem_wp hx ?_);have m':=m.a h1 h2 hx λz hz=>leB hy sx (I.ord.asy _ _ sy sx hL) hz;have es:(o'.push x).size=o'.size+1:=Array.size_push ..;by_cases c3:na - 1=0
   ·rw [if_pos (by simpa using c3)];exact wpS_pure ⟨ss,.inl ⟨_,_,_,_,rfl,m'.endA c3⟩⟩
   rw [if_neg (by simpa using c3)]
   split
   ·exact wpS_pure ⟨ss,.inr ⟨_,_,_,_,_,rfl,m',by lia,by lia,h3,h4,by lia⟩⟩
   ·exact wpS_pure ⟨ss,_,_,_,_,_,rfl,m',by lia,by lia,h3,h4,by lia⟩
  | false=>
   rw [if_neg Bool.false_ne_true];refine wpS_bind (elem_wp hy ?_);have m':=m.b (by lia) h4 hy λz hz=>leA hx sy hL hz;have es:(o'.push y).size=o'.size+1:=Array.size_push ..;by_cases c3:nb - 1=1
   ·rw [if_pos (by simpa using c3)];exact wpS_pure ⟨ss,.inl ⟨_,_,_,_,rfl,m'.first c3 (by lia) hf⟩⟩
   rw [if_neg (by simpa using c3)]
   split
   ·exact wpS_pure ⟨ss,.inr ⟨_,_,_,_,_,rfl,m',h1,h2,by lia,by lia,by lia⟩⟩
   ·exact wpS_pure ⟨ss,_,_,_,_,_,rfl,m',h1,h2,by lia,by lia,by lia⟩
 ·obtain ⟨_,o',na,nb,ac,bc,_,m,h1,h2,h3,h4,h5⟩:=p;have:=m.sz;lia
 obtain ⟨ss,⟨r,na,nb,d,rfl,f⟩ | ⟨o1,na,nb,ac,bc,rfl,m,h1,h2,h3,h4,h6⟩⟩:=p
 ·exact wpS_pure ⟨ss,r,rfl,f⟩
 extract_lets -merge -underBinder z1 z2 z3 z4 z5 z6 z7 z8 z9 z10
 dsimp -zeta only [z1,z2,z3,z4,z5,z6,z7,z8,z9,z10];refine wpS_bind (wpS_lift (wpAny_rule ⟨.refl _,?_⟩));refine wpS_bind (wpS_mono (wpS_forRange (λj c st'=>SSt st st'/\∃ (o':Array Keyed) (na nb mg ac bc:Nat),c=(none,na,nb,o',mg,ac,bc)/\MK S L a b o' na nb/\1<=na/\na<=a.size/\2<=nb/\nb<=b.size/\o1.size+j<=o'.size)
  (Q:=λc st'=>SSt st st'/\((∃ (r:Array Keyed) (na nb:Nat) (d:Array Keyed×Nat×Nat×Nat),c=(some r,na,nb,d)/\Mf L (a.toList++b.toList) r.toList)\/∃ (o':Array Keyed) (na nb mg ac bc:Nat),c=(none,na,nb,o',mg,ac,bc)/\MK S L a b o' na nb/\1<=na/\na<=a.size/\2<=nb/\nb<=b.size/\o1.size<=o'.size)) (λj c st' _ hj p=>?_) (λc st' p=>?_) ⟨ss,_,_,_,_,_,_,rfl,m,h1,h2,h3,h4,by lia⟩) λc st' p=>?_)
 ·obtain ⟨ss,o',na,nb,mg,ac,bc,rfl,m,h1,h2,h3,h4,h5⟩:=p;obtain ⟨R,hR⟩:∃ R:ForInStep (Option (Array Keyed)×Nat×Nat×Array Keyed×Nat×Nat×Nat)->SortSt->Prop,R=λr st'=>SSt st st'/\((∃ (r0:Array Keyed) (na nb:Nat) (d:Array Keyed×Nat×Nat×Nat),r = .done (some r0,na,nb,d)/\Mf L (a.toList++b.toList) r0.toList)\/∃ (o':Array Keyed) (na nb mg ac bc:Nat),(r = .done (none,na,nb,o',mg,ac,bc)\/r = .yield (none,na,nb,o',mg,ac,bc))/\MK S L a b o' na nb/\1<=na/\na<=a.size/\2<=nb/\nb<=b.size/\o1.size+j+1<=o'.size):=⟨_,rfl⟩;refine wpS_mono (Q:=R) ?_ λr st' p=>?_;rotate_left
  ·rw [hR] at p;obtain ⟨ss,⟨r,na,nb,d,rfl,f⟩ | ⟨o',na,nb,mg,ac,bc,rfl | rfl,m,h1,h2,h3,h4,h5⟩⟩:=p
   ·exact ⟨ss,.inl ⟨_,_,_,_,rfl,f⟩⟩
   ·exact ⟨ss,.inr ⟨_,_,_,_,_,_,rfl,m,h1,h2,h3,h4,by lia⟩⟩
   ·exact ⟨ss,_,_,_,_,_,_,rfl,m,h1,h2,h3,h4,by lia⟩
  have Rf:∀ {r0:Array Keyed} {na nb d} {st'},SSt st st'->Mf L (a.toList++b.toList) r0.toList->R (.done (some r0,na,nb,d)) st':=λh f=>by rw [hR];exact ⟨h,.inl ⟨_,_,_,_,rfl,f⟩⟩
  have Rd:∀ {o':Array Keyed} {na nb mg ac bc st'},SSt st st'->MK S L a b o' na nb->1<=na->na<=a.size->2<=nb->nb<=b.size->o1.size+j+1<=o'.size->R (.done (none,na,nb,o',mg,ac,bc)) st':=λh m a b c d e=>by rw [hR];exact ⟨h,.inr ⟨_,_,_,_,_,_,.inl rfl,m,a,b,c,d,e⟩⟩
  have Ry:∀ {o':Array Keyed} {na nb mg ac bc st'},SSt st st'->MK S L a b o' na nb->1<=na->na<=a.size->2<=nb->nb<=b.size->o1.size+j+1<=o'.size->R (.yield (none,na,nb,o',mg,ac,bc)) st':=λh m a b c d e=>by rw [hR];exact ⟨h,.inr ⟨_,_,_,_,_,_,.inr rfl,m,a,b,c,d,e⟩⟩
  clear hR
  extract_lets -merge -underBinder z1 z2 z3 z4 z5 z6 z7 z8 z9 z10 z11 jp
  dsimp -zeta only [z1,z2,z3,z4,z5,z6,z7,z8,z9,z10,z11];obtain ⟨y,hy,dy,my⟩:=arr_last (a:=b) (n:=nb) (by lia) h4;have sy:=I.inB y my;have hjp:∀ u g st2,SSt st st2->wpS (model prog w) A (λ_ _=>False) s (jp u g) R st2:=λu g st2 ss=>by
   dsimp -zeta only [jp,z1,z2,z3,z4,z5,z6,z7,z8,z9,z10,z11];refine wpS_bind (wpS_modify ?_);have ss2:SSt st (SortSt.mk' (kindOf st2) (arrOf st2) (pendingOf st2) g (failedOf st2)):=ss.trans ⟨.refl (kindOf st2),.refl (arrOf st2),.refl (pendingOf st2),.refl (failedOf st2)⟩;refine wpS_bind (elem_wp hy (wpS_bind (gal_right hc I.ord (ss2.kd.trans hk) sy (by lia) (λi x hi hx=>nx hx) (λi j x z hij hj hx hz=>upA (by lia) hx hz) (by lia) λk hk1 hk2 hk3=>?_)));simp only [Nat.zero_add] at hk2 hk3;dsimp -zeta only
   extract_lets -merge -underBinder y0 y1 jp2 w1 w2
   have hjp2:∀ u (na':Nat) (o:Array Keyed),MK S L a b o na' nb->1<=na'->na'<=a.size->(∀ z∈a.toList.take na',L y z=false)->o1.size+j<=o.size->∀ st3,SSt st st3->wpS (model prog w) A (λ_ _=>False) s (jp2 u na' o) R st3:=λu na' o m' h1' h2' hle hsz st3 ss2=>by
    dsimp -zeta only [jp2,y0,y1]
    extract_lets -merge -underBinder x1
    dsimp -zeta only [x1];refine wpS_bind (elem_wp hy ?_)
    extract_lets -merge -underBinder x2
    dsimp -zeta only [x2];have m2:=m'.b (by lia) h4 hy hle;have es:(o.push y).size=o.size+1:=Array.size_push ..;by_cases c3:nb - 1=1
    ·rw [if_pos (beq_iff_eq.mpr c3)];exact wpS_pure (Rf ss2 (m2.first c3 (by lia) hf))
    rw [if_neg (λe=>c3 (beq_iff_eq.mp e))];obtain ⟨x,hx,dx,mx⟩:=arr_last (a:=a) h1' h2';have sx:=I.inA x mx;refine wpS_bind (elem_wp hx (wpS_bind (gal_left hc I.ord (ss2.kd.trans hk) sx (by lia) (λi x hi hx=>ny hx) (λi j x z hij hj hx hz=>upB (by lia) hx hz) (by lia) λk2 kk1 kk2 kk3=>?_)));simp only [Nat.zero_add] at kk2 kk3;dsimp -zeta only
    extract_lets -merge -underBinder y2 y3 jp3 w3 w4
    have hjp3:∀ u (nb':Nat) (o':Array Keyed),MK S L a b o' na' nb'->2<=nb'->nb'<=b.size->(∀ z∈b.toList.take nb',L x z=false)->o.size<=o'.size->wpS (model prog w) A (λ_ _=>False) s (jp3 u nb' o') R st3:=λu nb' o' m' h3' h4' hle' hsz'=>by
     dsimp -zeta only [jp3,y2,y3]
     extract_lets -merge -underBinder x1
     dsimp -zeta only [x1];refine wpS_bind (elem_wp hx ?_)
     extract_lets -merge -underBinder x2
     dsimp -zeta only [x2];have m3:=m'.a h1' h2' hx hle';have es:(o'.push x).size=o'.size+1:=Array.size_push ..;by_cases c4:na' - 1=0
     ·rw [if_pos (beq_iff_eq.mpr c4)];exact wpS_pure (Rf ss2 (m3.endA c4))
     rw [if_neg (λe=>c4 (beq_iff_eq.mp e))]
     split
     ·exact wpS_pure (Rd ss2 m3 (by lia) (by lia) h3' h4' (by lia))
     ·exact wpS_pure (Ry ss2 m3 (by lia) (by lia) h3' h4' (by lia))
    have hle2:∀ z∈b.toList.take k2,L x z=false:=λz hz=>by
     obtain ⟨i,hi,e⟩:=mem_takeK hz;exact I.ord.asy _ _ (ny e) sx (kk2 i z hi e)
    by_cases c5:nb - 1 - k2 > 0
    ·rw [if_pos c5];dsimp -zeta only [w3,w4];have m4:=m2.bs kk1 (by lia) λi z h5 h6 e v hv=>leA hx (ny e) (kk3 i z h5 h6 e) hv;have es2:(o.push y++(b.extract k2 (nb - 1)).reverse).size=o.size+1+(b.extract k2 (nb - 1)).reverse.size:=by rw [Array.size_append,es]
     by_cases c6:k2=1
     ·rw [if_pos (beq_iff_eq.mpr c6)];exact wpS_pure (Rf ss2 (m4.first c6 (by lia) hf))
     rw [if_neg (λe=>c6 (beq_iff_eq.mp e))];by_cases c7:k2=0
     ·rw [if_pos (beq_iff_eq.mpr c7)];exact wpS_pure (Rf ss2 (m4.endB c7))
     rw [if_neg (λe=>c7 (beq_iff_eq.mp e))];exact hjp3 () _ _ m4 (by lia) (by lia) hle2 (by lia)
    ·rw [if_neg c5];have e:k2=nb - 1:=by lia
     rw [e] at hle2;exact hjp3 () _ _ m2 (by lia) (by lia) hle2 (by lia)
   have hle:∀ z∈a.toList.take k,L y z=false:=λz hz=>by
    obtain ⟨i,hi,e⟩:=mem_takeK hz;exact hk2 i z hi e
   by_cases c5:na - k > 0
   ·rw [if_pos c5];dsimp -zeta only [w1,w2];have m4:=m.as hk1 h2 λi z h5 h6 e v hv=>leB hy (nx e) (I.ord.asy _ _ sy (nx e) (hk3 i z h5 h6 e)) hv;have es2:(o'++(a.extract k na).reverse).size=o'.size+(a.extract k na).reverse.size:=Array.size_append ..;by_cases c6:k=0
    ·rw [if_pos (beq_iff_eq.mpr c6)];exact wpS_pure (Rf ss2 (m4.endA c6))
    rw [if_neg (λe=>c6 (beq_iff_eq.mp e))];exact hjp2 () _ _ m4 (by lia) (by lia) hle (by lia) _ ss2
   ·rw [if_neg c5];have e:k=na:=by lia
    rw [e] at hle;exact hjp2 () _ _ m h1 h2 hle (by lia) _ ss2
  split
  ·exact hjp () _ _ ss
  ·exact hjp () _ _ ss
 ·obtain ⟨_,o',na,nb,mg,ac,bc,_,m,h1,h2,h3,h4,h5⟩:=p;have:=m.sz;lia
 obtain ⟨ss,⟨r,na,nb,d,rfl,f⟩ | ⟨o2,na,nb,mg,ac,bc,rfl,m,h1,h2,h3,h4,h7⟩⟩:=p
 ·exact wpS_pure ⟨ss,r,rfl,f⟩
 dsimp only;refine wpS_bind (wpS_modify ?_);exact wpS_pure ⟨ss.trans ⟨.refl _,.refl _,.refl _,.refl _⟩,_,_,_,_,rfl,m,h1,h2,h3,h4,by lia⟩
end
end L2
namespace L2
open PySem PySem.Spec PyProof.Rows
theorem fold_put (off:Nat):∀ (l:List Keyed) (m:Nat) (arr:Array Keyed),off+m+l.length<=arr.size->((l.zipIdx m).foldl (λa x=>a.setIfInBounds (off+x.2) x.1) arr).toList=arr.toList.take (off+m)++l++arr.toList.drop (off+m+l.length)
 | [],m,arr,_=>by simp
 | p::l,m,arr,h=>by
  rw [List.length_cons] at h;rw [List.zipIdx_cons,List.foldl_cons,fold_put off l (m+1) _ (by rw [Array.size_setIfInBounds];lia)];have e:(arr.setIfInBounds (off+m) p).toList=arr.toList.set (off+m) p:=Array.toList_setIfInBounds ..;have hlt:off+m<arr.toList.length:=by rw [Array.length_toList];lia
  rw [e,List.drop_set_of_lt (by lia),<-Nat.add_assoc,List.take_succ_eq_append_getElem (by rw [List.length_set];exact hlt),List.getElem_set_self,List.take_set_of_le (Nat.le_refl _)];simp [List.append_assoc,Nat.add_assoc,Nat.add_comm 1]
section
variable {prog:Program}{w:World}{A:Around}{s:Shared}{κ:SortKind}{S:Keyed->Prop}{L:Keyed->Keyed->Bool}
theorem glueK {T r:List Keyed}{k n nb:Nat} (up1:UpK L (T.take n)) (up2:UpK L (T.drop n)) (hk:k<=n) (hr:Mf L ((T.drop k).take (n - k)++(T.drop n).take nb) r)
  (h1:∀ x∈T.take k,∀ y∈T.drop n,L y x=false) (h2:∀ x∈(T.drop k).take (n - k),∀ z∈T.drop (n+nb),L z x=false):Mf L T (T.take k++r++T.drop (n+nb)):=by
 have e1:T.take n=T.take k++(T.drop k).take (n - k):=by
  obtain ⟨j,rfl⟩:∃ j,n=k+j:=⟨n - k,by lia⟩;rw [Nat.add_sub_cancel_left,List.take_add]
 have e2:T.drop n=(T.drop n).take nb++T.drop (n+nb):=by
  rw [<-List.drop_drop];exact (List.take_append_drop _ _).symm
 have e3:T=T.take k++((T.drop k).take (n - k)++(T.drop n).take nb)++T.drop (n+nb):=by
  have:T=T.take n++T.drop n:=(List.take_append_drop _ _).symm;rw [e1] at this;rw [List.append_assoc,List.append_assoc,<-e2,<-List.append_assoc];exact this
 rw [e1] at up1;rw [e2] at up2;obtain ⟨a1,a2,a3⟩:=List.pairwise_append.mp up1;obtain ⟨b1,b2,b3⟩:=List.pairwise_append.mp up2;have hm:∀ y,y∈r->y∈(T.drop k).take (n - k)\/y∈(T.drop n).take nb:=λy hy=>List.mem_append.mp (hr.1.mem_iff.mp hy);refine ⟨?_,List.pairwise_append.mpr ⟨List.pairwise_append.mpr ⟨a1,hr.2,λx hx y hy=>?_⟩,b2,λx hx z hz=>?_⟩⟩
 ·have:=((hr.1.append_left (T.take k)).append_right (T.drop (n+nb)));rw [<-e3] at this;exact this
 ·rcases hm y hy with h | h
  ·exact a3 x hx y h
  ·exact h1 x hx y (List.mem_of_mem_take h)
 ·rcases List.mem_append.mp hx with h | h
  ·exact h1 x h z (by rw [e2];exact List.mem_append_right _ hz)
  ·rcases hm x h with h | h
   ·exact h2 x h z hz
   ·exact b3 x h z hz
theorem wpS_set' {M:Model}{E:Value->Shared->Prop}{σ:Type}{x st:σ}{Q:PUnit->σ->Prop} (h:Q ⟨⟩ x):wpS M A E s (set x:StateT σ Sem PUnit) Q st:=by
 unfold wpS;rw [StateT.run_set];exact wpAny_pure ⟨rfl,h⟩
theorem mergeAt_wp (hc:CmpS prog w A s κ S L) (o:LOrd S L) {st:SortSt}{Q:Bool->SortSt->Prop}{n1 n2 p1 p2:Nat} (hk:kindOf st=κ) (hp:pendingOf st = #[(0,n1,p1),(n1,n2,p2)]) (hf:failedOf st=none)
  (hS:∀ x∈(arrOf st).toList,S x) (hn1:1<=n1) (hn2:1<=n2) (hz:(arrOf st).size=n1+n2) (up1:UpK L ((arrOf st).toList.take n1)) (up2:UpK L ((arrOf st).toList.drop n1))
  (q:∀ st',kindOf st' = κ->failedOf st' = none->(pendingOf st').size<=1->Mf L (arrOf st).toList (arrOf st').toList->Q true st'):wpS (model prog w) A (λ_ _=>False) s (mergeAt' 0) Q st:=by
 unfold mergeAt';refine wpS_bind (wpS_get ?_);dsimp -zeta only;have e0:(pendingOf st)[0]? = some (0,n1,p1):=by rw [hp];rfl
 have e1:(pendingOf st)[0+1]? = some (n1,n2,p2):=by rw [hp];rfl
 rw [e0,e1];dsimp -zeta only;have ps:(((pendingOf st).setIfInBounds 0 (0,n1+n2,p1)).eraseIdxIfInBounds (0+1)).size<=1:=by rw [hp];simp [Array.eraseIdxIfInBounds]
 refine wpS_bind (wpS_set' ?_);obtain ⟨st1,e2⟩:∃ st1,st1=SortSt.mk' (kindOf st) (arrOf st) (((pendingOf st).setIfInBounds 0 (0,n1+n2,p1)).eraseIdxIfInBounds (0+1)) (gallopOf st) (failedOf st):=⟨_,rfl⟩;have k1:kindOf st1=κ:=by rw [e2];exact hk
 have f1:failedOf st1=none:=by rw [e2];exact hf
 have d1:(pendingOf st1).size<=1:=by rw [e2];exact ps
 have r1:arrOf st1=arrOf st:=by rw [e2]
 show wpS _ _ _ _ _ _ (SortSt.mk' (kindOf st) (arrOf st) (((pendingOf st).setIfInBounds 0 (0,n1+n2,p1)).eraseIdxIfInBounds (0+1)) (gallopOf st) (failedOf st));rw [<-e2];clear e2 ps
 let a:Array Keyed:=arrOf st
 replace hz:a.size=n1+n2:=hz;replace hS:∀ x∈a.toList,S x:=hS;replace up1:UpK L (a.toList.take n1):=up1;replace up2:UpK L (a.toList.drop n1):=up2;replace r1:arrOf st1=a:=r1;replace q:∀ st',kindOf st' = κ->failedOf st' = none->(pendingOf st').size<=1->Mf L a.toList (arrOf st').toList->Q true st':=q;have nx:∀ {i:Nat}{x:Keyed},a[i]? = some x->S x:=λhx=>hS _ (by obtain ⟨h,e⟩:=Array.getElem?_eq_some_iff.mp hx;rw [<-e];simp);have lo:∀ {i j:Nat}{x z:Keyed},i<=j->j<n1->a[i]? = some x->a[j]? = some z->L z x=false:=λ{i j x z} hij hj hx hz=>by
  obtain ⟨h1,e1⟩:=Array.getElem?_eq_some_iff.mp hx;obtain ⟨h2,e2⟩:=Array.getElem?_eq_some_iff.mp hz;rcases Nat.lt_or_ge i j with e | e
  ·have:=List.pairwise_iff_getElem.mp up1 i j (by simp;lia) (by simp;lia) e;simpa [e1,e2] using this
  ·have:i=j:=by lia
   subst this;rw [hx] at hz;cases hz;exact o.irr x (nx hx)
 have hi:∀ {i j:Nat}{x z:Keyed},i<=j->a[n1+i]? = some x->a[n1+j]? = some z->L z x=false:=λ{i j x z} hij hx hz=>by
  obtain ⟨h1,e1⟩:=Array.getElem?_eq_some_iff.mp hx;obtain ⟨h2,e2⟩:=Array.getElem?_eq_some_iff.mp hz;rcases Nat.lt_or_ge i j with e | e
  ·have:=List.pairwise_iff_getElem.mp up2 i j (by simp;lia) (by simp;lia) e;simpa [e1,e2] using this
  ·have:i=j:=by lia
   subst this;rw [hx] at hz;cases hz;exact o.irr x (nx hx)
 obtain ⟨y0,hy0,_,my0⟩:=arr_at (a:=a) (i:=n1) (by lia);have sy0:=nx hy0;refine wpS_bind (elem_wp hy0 (wpS_bind (gal_right hc o k1 sy0 (show 0+n1<=a.size by lia) (λi x hi hx=>nx hx) (λi j x z hij hj hx hz=>lo hij hj (by simpa using hx) (by simpa using hz)) (by lia) λk hk1 hk2 hk3=>?_)));simp only [Nat.zero_add] at hk2 hk3;dsimp -zeta only;have b0:∀ z∈a.toList.drop n1,L z y0=false:=λz hz=>by
  obtain ⟨i,h,e⟩:=mem_restK hz;exact hi (Nat.zero_le i) (by simpa using hy0) e
 have g1:∀ x∈a.toList.take k,∀ y∈a.toList.drop n1,L y x=false:=λx hx y hy=>by
  obtain ⟨i,h,e⟩:=mem_takeK hx;exact o.tr (nx e) sy0 (hS y (List.mem_of_mem_drop hy)) (hk2 i x h e) (b0 y hy)
 by_cases c1:n1 - k=0
 ·rw [if_pos (beq_iff_eq.mpr c1)];have:k=n1:=by lia
  subst this;refine wpS_pure (q _ k1 f1 d1 ?_);rw [r1];refine ⟨.refl _,?_⟩;rw [<-List.take_append_drop k a.toList];exact List.pairwise_append.mpr ⟨up1,up2,g1⟩
 rw [if_neg (λe=>c1 (beq_iff_eq.mp e))];have en:0+k+(n1 - k) - 1=n1 - 1:=by lia
 rw [en];obtain ⟨xl,hxl,_,mxl⟩:=arr_at (a:=a) (i:=n1 - 1) (by lia);have sxl:=nx hxl;refine wpS_bind (elem_wp hxl (wpS_bind (gal_left hc o k1 sxl (show n1+n2<=a.size by lia) (λi x hi hx=>nx hx) (λi j x z hij hj hx hz=>hi hij hx hz) (by lia) λnb kk1 kk2 kk3=>?_)));dsimp -zeta only;by_cases c2:nb=0
 ·exfalso;subst c2;have x1:=kk3 0 y0 (Nat.le_refl _) (by lia) (by simpa using hy0);have x2:=hk3 (n1 - 1) xl (by lia) (by lia) hxl;rw [x1] at x2;cases x2
 rw [if_neg (λe=>c2 (beq_iff_eq.mp e))]
 extract_lets -merge -underBinder x y jp
 obtain ⟨xk,hxk,_,mxk⟩:=arr_at (a:=a) (i:=k) (by lia);have tx:x.toList=(a.toList.drop k).take (n1 - k):=by
  show (a.extract (0+k) n1).toList=_;rw [Array.toList_extract,List.extract_eq_take_drop,Nat.zero_add]
 have ty:y.toList=(a.toList.drop n1).take nb:=by
  show (a.extract n1 (n1+nb)).toList=_;exact arr_cut
 have sx:x.size=n1 - k:=by show (a.extract (0+k) n1).size=_;rw [Array.size_extract];lia
 have sy:y.size=nb:=by show (a.extract n1 (n1+nb)).size=_;rw [Array.size_extract];lia
 have gx:∀ i,i<n1 - k->x[i]? = a[k+i]?:=λi h=>by
  show (a.extract (0+k) n1)[i]? = _;rw [Array.getElem?_extract,if_pos (by lia),Nat.zero_add]
 have gy:∀ i,i<nb->y[i]? = a[n1+i]?:=λi h=>by
  show (a.extract n1 (n1+nb))[i]? = _;rw [Array.getElem?_extract,if_pos (by lia)]
 have ee:a.toList.take n1=a.toList.take k++(a.toList.drop k).take (n1 - k):=by
  obtain ⟨j,rfl⟩:∃ j,n1=k+j:=⟨n1 - k,by lia⟩;rw [Nat.add_sub_cancel_left,List.take_add]
 have I:MIn S L x y:=⟨o,λz hz=>hS z (List.mem_of_mem_drop (List.mem_of_mem_take (tx ▸ hz))),λz hz=>hS z (List.mem_of_mem_drop (List.mem_of_mem_take (ty ▸ hz))),by
  rw [tx];rw [ee] at up1;exact (List.pairwise_append.mp up1).2.1,by
  rw [ty];exact up2.sublist (List.take_sublist _ _),by lia,by lia,λu v hu hv=>by
  rw [gx 0 (by lia)] at hu;rw [gy 0 (by lia)] at hv;have:v=y0:=by rw [Nat.add_zero,hy0] at hv;exact (Option.some.inj hv).symm
  rw [this];exact hk3 k u (Nat.le_refl _) (by lia) hu,λu hu v hv=>by
  rw [sx,gx _ (by lia),show k+(n1 - k - 1)=n1 - 1 by lia,hxl] at hu;cases hu;rw [ty] at hv;obtain ⟨i,h,e⟩:=mem_cutK hv;exact kk2 i v h e⟩
 have fin:∀ r st2,SSt st1 st2->Mf L (x.toList++y.toList) r.toList->wpS (model prog w) A (λ_ _=>False) s (jp r) Q st2:=λr st2 ss hr=>by
  dsimp -zeta only [jp];refine wpS_bind (wpS_modify (wpS_bind (wpS_get ?_)));have hl:r.size=n1 - k+nb:=by
   have:=hr.1.length_eq;rw [List.length_append,Array.length_toList,Array.length_toList,Array.length_toList] at this;lia
  have e3:=fold_put k r.toList 0 a (by rw [Array.length_toList];lia);rw [Array.length_toList,hl] at e3;rw [tx,ty] at hr;have e4:=glueK up1 up2 (by lia) hr g1 λx hx z hz=>by
   obtain ⟨i,h,e⟩:=mem_cutK hx;obtain ⟨j,h2,e5⟩:=mem_restK hz;have w1:L xl x=false:=lo (by lia) (by lia) e hxl;have w2:L z xl=false:=kk3 (nb+j) z (by lia) (by lia) (by rw [<-Nat.add_assoc];exact e5);exact o.tr (nx e) sxl (nx e5) w1 w2
  have e6:failedOf st2=none:=ss.fl.trans f1;show wpS _ _ _ _ (pure (failedOf st2).isNone) _ _;rw [e6];refine wpS_pure (q _ (ss.kd.trans k1) e6 (by show (pendingOf st2).size<=1;rw [ss.pd];exact d1) ?_);show Mf L a.toList ((r.toList.zipIdx.foldl (λa x=>a.setIfInBounds (0+k+x.2) x.1) (arrOf st2)).toList);rw [ss.ar,r1,Nat.zero_add,e3,Nat.add_zero,show k+(n1 - k+nb)=n1+nb by lia];exact e4
 split
 ·exact wpS_bind (mergeLo_wp hc I k1 λr st2 ss h=>fin r st2 ss h)
 ·exact wpS_bind (mergeHi_wp hc I k1 λr st2 ss h=>fin r st2 ss h)
end
end L2
namespace L2
open PySem PySem.Spec PyProof.Rows
def UpW (L:Keyed->Keyed->Bool) (a:Array Keyed) (lo m:Nat):Prop:=∀ i j x z,i<=j->j<m->a[lo+i]? = some x->a[lo+j]? = some z->L z x=false
structure Rw (κ:SortKind) (pd:Array (Nat×Nat×Nat)) (lo:Nat) (a₀:Array Keyed) (st:SortSt):Prop where
 kd:kindOf st=κ
 fl:failedOf st=none
 pd:pendingOf st=pd
 pm:(arrOf st).Perm a₀
 fr:∀ i,i<lo->(arrOf st)[i]? = a₀[i]?
structure RwIn (S:Keyed->Prop) (L:Keyed->Keyed->Bool) (a₀:Array Keyed):Prop where
 ord:LOrd S L
 all:∀ x∈a₀.toList,S x
 dis:a₀.toList.Pairwise λx y=>L x y=true\/L y x=true
section
variable {prog:Program}{w:World}{A:Around}{s:Shared}{κ:SortKind}{S:Keyed->Prop}{L:Keyed->Keyed->Bool}{pd:Array (Nat×Nat×Nat)}{lo:Nat}{a₀:Array Keyed}{st:SortSt}
theorem Rw.size (h:Rw κ pd lo a₀ st):(arrOf st).size=a₀.size:=h.pm.size_eq
theorem Rw.inS (h:Rw κ pd lo a₀ st) (I:RwIn S L a₀) {i:Nat}{x:Keyed} (e:(arrOf st)[i]? = some x):S x:=I.all x (by
 obtain ⟨h1,e1⟩:=Array.getElem?_eq_some_iff.mp e;exact (Array.perm_iff_toList_perm.mp h.pm).mem_iff.mp (by rw [<-e1];simp))
theorem Rw.ne (h:Rw κ pd lo a₀ st) (I:RwIn S L a₀) {i j:Nat}{x z:Keyed} (hij:i<j) (e:(arrOf st)[i]? = some x) (e':(arrOf st)[j]? = some z):L x z=true\/L z x=true:=by
 have d:(arrOf st).toList.Pairwise λx y=>L x y=true\/L y x=true:=((Array.perm_iff_toList_perm.mp h.pm).pairwise_iff λh=>h.symm).mpr I.dis;obtain ⟨h1,e1⟩:=Array.getElem?_eq_some_iff.mp e;obtain ⟨h2,e2⟩:=Array.getElem?_eq_some_iff.mp e';have:=List.pairwise_iff_getElem.mp d i j (by simpa using h1) (by simpa using h2) hij;simpa [e1,e2] using this
theorem Rw.at (h:Rw κ pd lo a₀ st) {i:Nat} (hi:i<a₀.size):∃ x,(arrOf st)[i]? = some x:=⟨(arrOf st)[i]'(by rw [h.size];exact hi),by simp⟩
theorem Rw.set (h:Rw κ pd lo a₀ st) {a:Array Keyed} (hp:a.Perm (arrOf st)) (hf:∀ i,i<lo->a[i]? = (arrOf st)[i]?):Rw κ pd lo a₀ (setArr st a):=⟨h.kd,h.fl,h.pd,hp.trans h.pm,λi hi=>(hf i hi).trans (h.fr i hi)⟩
theorem ltAt_wp (hc:CmpS prog w A s κ S L) (I:RwIn S L a₀) (h:Rw κ pd lo a₀ st) {i j:Nat}{x z:Keyed}{Q:Option Bool->SortSt->Prop} (hx:(arrOf st)[i]? = some x) (hz:(arrOf st)[j]? = some z) (q:Q (some (L x z)) st):wpS (model prog w) A (λ_ _=>False) s (ltAt' i j) Q st:=by
 rw [ltAt'_eq];exact wpS_bind (wpS_get (wpS_bind (elem_wp hx (wpS_bind (elem_wp hz (hc x z st _ (h.inS I hx) (h.inS I hz) h.kd q))))))
theorem UpW.step (I:RwIn S L a₀) (h:Rw κ pd lo a₀ st) {l k m:Nat} (hl:l+m<=a₀.size) (u:UpW L (arrOf st) l k) (hk:1<=k) (hs:∀ i x z,k<=i->i<m->(arrOf st)[l+i - 1]? = some x->(arrOf st)[l+i]? = some z->L z x=false):UpW L (arrOf st) l m:=by
 have key:∀ d i j x z,j=i+d->j<m->(arrOf st)[l+i]? = some x->(arrOf st)[l+j]? = some z->L z x=false:=by
  intro d
  induction d with
  | zero=>intro i j x z e hj hx hz;rw [e,Nat.add_zero,hx] at hz;cases hz;exact I.ord.irr x (h.inS I hx)
  | succ d ih=>
   intro i j x z e hj hx hz;by_cases hjk:j<k
   ·exact u i j x z (by lia) hjk hx hz
   ·obtain ⟨y,hy⟩:=h.at (i:=l+(j - 1)) (by lia);exact I.ord.tr (h.inS I hx) (h.inS I hy) (h.inS I hz) (ih i (j - 1) x y (by lia) (by lia) hx hy) (hs j y z (by lia) hj (by rw [show l+j - 1=l+(j - 1) by lia];exact hy) hz)
 exact λi j x z hij hj hx hz=>key (j - i) i j x z (by lia) hj hx hz
theorem UpW.one (I:RwIn S L a₀) (h:Rw κ pd lo a₀ st) {l:Nat}:UpW L (arrOf st) l 1:=λi j x z hij hj hx hz=>by
 have:i=0:=by lia
 have:j=0:=by lia
 subst_vars
 rw [hx] at hz;cases hz;exact I.ord.irr x (h.inS I hx)
theorem binS_wp (hc:CmpS prog w A s κ S L) (I:RwIn S L a₀) {n ok:Nat}{Q:Bool->SortSt->Prop} (hn:lo+n<=a₀.size) (hok:ok<=n) (h1:1<=ok) (h:Rw κ pd lo a₀ st) (u:UpW L (arrOf st) lo ok)
  (q:∀ st',Rw κ pd lo a₀ st'->UpW L (arrOf st') lo n->Q true st'):wpS (model prog w) A (λ_ _=>False) s (binarySort' lo n ok) Q st:=by
 rw [binarySort'_eq];refine wpS_bind (wpS_mono (wpS_forRange (λk c st'=>c=(none,())/\Rw κ pd lo a₀ st'/\UpW L (arrOf st') lo k) (Q:=λc st'=>c=(none,())/\Rw κ pd lo a₀ st'/\UpW L (arrOf st') lo n) (λk c st' hak hkn p=>?_) (λc st' p=>?_) ⟨rfl,h,by rw [show max ok 1=ok by lia];exact u⟩) λc st' p=>?_)
 ·obtain ⟨rfl,h,u⟩:=p;obtain ⟨y,hy⟩:=h.at (i:=lo+k) (by lia);have sy:=h.inS I hy;refine wpS_bind (wpS_mono (wpS_forRange (λx c st''=>st'' = st'/\∃ l r,c=(none,l,r)/\l<=r/\r<=k/\r - l<=k - x/\(∀ i z,i<l->(arrOf st')[lo+i]? = some z->L y z=false)/\(∀ i z,r<=i->i<k->(arrOf st')[lo+i]? = some z->L y z=true))
   (Q:=λc st''=>st'' = st'/\∃ l r,c=(none,l,r)/\l<=k/\(∀ i z,i<l->(arrOf st')[lo+i]? = some z->L y z=false)/\(∀ i z,l<=i->i<k->(arrOf st')[lo+i]? = some z->L y z=true)) (λx c st'' _ hxk p=>?_) (λc st'' p=>?_) ⟨rfl,0,k,rfl,by lia,by lia,by lia,λi z hi=>by lia,λi z h1 h2=>by lia⟩) λc st'' p=>?_)
  ·obtain ⟨rfl,l,r,rfl,hlr,hrk,hm,hlo,hhi⟩:=p;dsimp only;by_cases hge:l ≥ r
   ·rw [if_pos hge];have:l=r:=by lia
    subst this;exact wpS_pure ⟨rfl,l,l,rfl,hrk,hlo,hhi⟩
   ·rw [if_neg hge];obtain ⟨z,hz⟩:=h.at (i:=lo+(l+r) / 2) (by lia);have sz:=h.inS I hz;refine wpS_bind (ltAt_wp hc I h hy hz ?_);dsimp only;cases hL:L y z with
    | true=>
     rw [if_pos rfl];refine wpS_pure ⟨rfl,l,(l+r) / 2,rfl,by lia,by lia,by lia,hlo,λi v h1 h2 hv=>?_⟩;rcases I.ord.neg y v z sy (h.inS I hv) sz hL with e | e
     ·exact e
     ·rw [u _ _ _ _ h1 h2 hz hv] at e;cases e
    | false=>
     rw [if_neg Bool.false_ne_true];exact wpS_pure ⟨rfl,(l+r) / 2+1,r,rfl,by lia,by lia,by lia,λi v h1 hv=>I.ord.tr (h.inS I hv) sz sy (u _ _ _ _ (by lia) (by lia) hv hz) hL,hhi⟩
  ·obtain ⟨rfl,l,r,rfl,hlr,hrk,hm,hlo,hhi⟩:=p;have:l=r:=by lia
   subst this;exact ⟨rfl,l,l,rfl,hrk,hlo,hhi⟩
  ·obtain ⟨rfl,l,r,rfl,hlk,hlo,hhi⟩:=p;dsimp only;rw [moveDown'_eq];have e0:lo+k - (lo+l)=k - l:=by lia
   rw [e0];have gb:∀ i,(bubble (arrOf st'') (lo+k) (k - l))[i]? = if i<lo+l then (arrOf st'')[i]? else if i=lo+l then (arrOf st'')[lo+k]? else if i<=lo+k then (arrOf st'')[i - 1]? else (arrOf st'')[i]?:=λi=>by
    have:=getElem?_bubble (xs:=arrOf st'') (src:=lo+k) (by rw [h.size];lia) (k - l) (by lia) i;rw [this,show lo+k - (k - l)=lo+l by lia]
    repeat' split
    all_goals first | rfl | (exfalso;lia)
   refine wpS_bind (wpS_modify (wpS_pure ⟨rfl,h.set (bubble_perm _ _ _) λi hi=>by rw [gb,if_pos (by lia)],?_⟩));intro i j x z hij hj hx hz;replace hx:(bubble (arrOf st'') (lo+k) (k - l))[lo+i]? = some x:=hx;replace hz:(bubble (arrOf st'') (lo+k) (k - l))[lo+j]? = some z:=hz;rw [gb] at hx hz;by_cases i1:i<l
   ·rw [if_pos (by lia)] at hx;by_cases j1:j<l
    ·rw [if_pos (by lia)] at hz;exact u i j x z hij (by lia) hx hz
    ·rw [if_neg (by lia)] at hz;by_cases j2:j=l
     ·rw [if_pos (by lia),hy] at hz;cases hz;exact hlo i x i1 hx
     ·rw [if_neg (by lia),if_pos (by lia),show lo+j - 1=lo+(j - 1) by lia] at hz;exact u i (j - 1) x z (by lia) (by lia) hx hz
   ·rw [if_neg (by lia)] at hx hz;by_cases i2:i=l
    ·rw [if_pos (by lia),hy] at hx;cases hx;by_cases j2:j=l
     ·rw [if_pos (by lia),hy] at hz;cases hz;exact I.ord.irr _ sy
     ·rw [if_neg (by lia),if_pos (by lia),show lo+j - 1=lo+(j - 1) by lia] at hz;exact I.ord.asy _ _ sy (h.inS I hz) (hhi (j - 1) z (by lia) (by lia) hz)
    ·rw [if_neg (by lia),if_pos (by lia),show lo+i - 1=lo+(i - 1) by lia] at hx;rw [if_neg (by lia),if_pos (by lia),show lo+j - 1=lo+(j - 1) by lia] at hz;exact u (i - 1) (j - 1) x z (by lia) (by lia) hx hz
 ·obtain ⟨rfl,h,u⟩:=p;rw [show max (max ok 1) n=n by lia] at u;exact ⟨rfl,h,u⟩
 ·obtain ⟨rfl,h,u⟩:=p;exact wpS_pure (q _ h u)
end
end L2
namespace L2
open PySem PySem.Spec PyProof.Rows
section
variable {prog:Program}{w:World}{A:Around}{s:Shared}{κ:SortKind}{S:Keyed->Prop}{L:Keyed->Keyed->Bool}{pd:Array (Nat×Nat×Nat)}{lo:Nat}{a₀:Array Keyed}{st:SortSt}
theorem asc_loop (hc:CmpS prog w A s κ S L) (I:RwIn S L a₀) (h:Rw κ pd lo a₀ st) {k m:Nat}{Q:AscSt->SortSt->Prop}{F:Nat->AscSt->StateT SortSt Sem (ForInStep AscSt)} (hn:lo+m<=a₀.size) (hk:1<=k) (hkm:k<=m) (u:UpW L (arrOf st) lo k)
  (hF:∀ i n (R:ForInStep AscSt->SortSt->Prop),1<=n->n<m->(∀ x z,(arrOf st)[lo+n - 1]? = some x->(arrOf st)[lo+n]? = some z->(L z x=true->R (.done (none,n)) st)/\(L z x=false->R (.yield (none,n+1)) st))->wpS (model prog w) A (λ_ _=>False) s (F i (none,n)) R st)
  (q:∀ n,k<=n->n<=m->UpW L (arrOf st) lo n->(n<m->∀ x z,(arrOf st)[lo+n - 1]? = some x->(arrOf st)[lo+n]? = some z->L z x=true)->Q (none,n) st):wpS (model prog w) A (λ_ _=>False) s (forIn [k:m] ((none,k):AscSt) F) Q st:=by
 refine wpS_forRange (λi c st'=>st' = st/\i<=m/\k<=i/\c=(none,i)/\UpW L (arrOf st) lo i) (λi c st' _ hi p=>?_) (λc st' p=>?_) ⟨rfl,hkm,Nat.le_refl _,rfl,u⟩
 ·obtain ⟨rfl,im,ki,rfl,u⟩:=p;refine hF i i _ (by lia) hi λx z hx hz=>⟨λe=>q i ki im u λ_ x' z' hx' hz'=>?_,λe=>⟨rfl,by lia,by lia,rfl,u.step I h (by lia) (by lia) λj x' z' h1 h2 hx' hz'=>?_⟩⟩
  ·rw [hx] at hx';rw [hz] at hz';cases hx';cases hz';exact e
  ·have:j=i:=by lia
   subst this;rw [hx] at hx';rw [hz] at hz';cases hx';cases hz';exact e
 ·obtain ⟨rfl,im,ki,rfl,u⟩:=p;rw [show max k m=m by lia] at u ⊢;exact q m (by lia) (Nat.le_refl _) u λh=>by lia
theorem count_wpK (hc:CmpS prog w A s κ S L) (I:RwIn S L a₀) (h:Rw κ pd lo a₀ st) {m:Nat}{Q:Option Nat->SortSt->Prop} (hn:lo+m<=a₀.size) (hm:1<=m)
  (q:∀ n st',1<=n->n<=m->Rw κ pd lo a₀ st'->UpW L (arrOf st') lo n->Q (some n) st'):wpS (model prog w) A (λ_ _=>False) s (countRun' lo m) Q st:=by
 unfold countRun';refine wpS_bind (asc_loop hc I h hn (Nat.le_refl _) hm (UpW.one I h) (λi n R h1 h2 hr=>?_) λn h1 h2 u hd=>?_)
 ·dsimp only;obtain ⟨x,hx⟩:=h.at (i:=lo+n - 1) (by lia);obtain ⟨z,hz⟩:=h.at (i:=lo+n) (by lia);refine wpS_bind (ltAt_wp hc I h hz hx ?_);obtain ⟨r1,r2⟩:=hr x z hx hz;dsimp only;cases e:L z x with
  | true=>rw [if_pos rfl];exact wpS_pure (r1 e)
  | false=>rw [if_neg Bool.false_ne_true];exact wpS_pure (r2 e)
 dsimp only;by_cases c1:n=m
 ·rw [if_pos (beq_iff_eq.mpr c1)];exact wpS_pure (q n st h1 h2 h u)
 rw [if_neg (λe=>c1 (beq_iff_eq.mp e))];by_cases c2:n > 1
 ·rw [if_pos c2];obtain ⟨x,hx⟩:=h.at (i:=lo) (by lia);obtain ⟨z,hz⟩:=h.at (i:=lo+n - 1) (by lia);refine wpS_bind (ltAt_wp hc I h hx hz ?_);have e:L x z=true:=by
   rcases h.ne I (by lia) hx hz with e | e
   ·exact e
   ·rw [u 0 (n - 1) x z (by lia) (by lia) (by simpa using hx) (by rw [<-Nat.add_sub_assoc (by lia)];exact hz)] at e;cases e
  dsimp only;rw [e,if_pos rfl];exact wpS_pure (q n st h1 h2 h u)
 rw [if_neg c2];have:n=1:=by lia
 subst this;refine wpS_bind (wpS_lift (wpAny_rule ⟨.refl _,?_⟩));refine wpS_bind (wpS_mono (wpS_forRange (λi c st'=>st' = st/\i<=m/\2<=i/\c=(none,i,0)/\∀ j x z,1<=j->j<i->(arrOf st)[lo+j - 1]? = some x->(arrOf st)[lo+j]? = some z->L z x=true)
  (Q:=λc st'=>st' = st/\∃ i,i<=m/\2<=i/\c=(none,i,0)/\∀ j x z,1<=j->j<i->(arrOf st)[lo+j - 1]? = some x->(arrOf st)[lo+j]? = some z->L z x=true) (λi c st' _ hi p=>?_) (λc st' p=>?_) ⟨rfl,by lia,by lia,rfl,λj x z a b hx hz=>?_⟩) λc st' p=>?_)
 ·obtain ⟨rfl,im,i2,rfl,dn⟩:=p;dsimp only;obtain ⟨x,hx⟩:=h.at (i:=lo+i - 1) (by lia);obtain ⟨z,hz⟩:=h.at (i:=lo+i) (by lia);refine wpS_bind (ltAt_wp hc I h hz hx ?_);dsimp only;cases e:L z x with
  | true=>
   rw [if_pos rfl,if_neg (by lia)];refine wpS_pure ⟨rfl,by lia,by lia,rfl,λj x' z' a b hx' hz'=>?_⟩;by_cases ej:j=i
   ·subst ej;rw [hx] at hx';rw [hz] at hz';cases hx';cases hz';exact e
   ·exact dn j x' z' a (by lia) hx' hz'
  | false=>
   rw [if_neg Bool.false_ne_true];refine wpS_bind (ltAt_wp hc I h hx hz ?_);have e2:L x z=true:=by
    rcases h.ne I (by lia) hx hz with e2 | e2
    ·exact e2
    ·rw [e] at e2;cases e2
   dsimp only;rw [e2,if_pos rfl];exact wpS_pure ⟨rfl,i,im,i2,rfl,dn⟩
 ·obtain ⟨rfl,im,i2,rfl,dn⟩:=p;exact ⟨rfl,_,im,i2,rfl,dn⟩
 ·have:j=1:=by lia
  subst this;exact hd (by lia) x z hx hz
 obtain ⟨rfl,i,im,i2,rfl,dn⟩:=p;dsimp only;rw [if_neg (by lia)];have gm:∀ k,(mirror (arrOf st') lo (lo+i) ((lo+i - lo) / 2))[k]? = if lo<=k/\k<lo+i then (arrOf st')[lo+(lo+i) - 1 - k]? else (arrOf st')[k]?:=λk=>getElem?_mirror_all (by rw [h.size];lia) k;have h':Rw κ pd lo a₀ (setArr st' (mirror (arrOf st') lo (lo+i) ((lo+i - lo) / 2))):=h.set (mirror_perm _ _ _ _) λk hk=>by rw [gm,if_neg (by lia)]
 have u1:UpW L (arrOf (setArr st' (mirror (arrOf st') lo (lo+i) ((lo+i - lo) / 2)))) lo i:=(UpW.one I h').step I h' (by lia) (Nat.le_refl _) λj x z a b hx hz=>by
  replace hx:(mirror (arrOf st') lo (lo+i) ((lo+i - lo) / 2))[lo+j - 1]? = some x:=hx;replace hz:(mirror (arrOf st') lo (lo+i) ((lo+i - lo) / 2))[lo+j]? = some z:=hz;rw [gm,if_pos (by lia)] at hx hz;have e:=dn (i - j) z x (by lia) (by lia) (by rw [<-hz];congr 1;lia) (by rw [<-hx];congr 1;lia);exact I.ord.asy _ _ (h.inS I hx) (h.inS I hz) e
 refine wpS_bind (wpS_modify ?_);refine wpS_bind (asc_loop hc I h' hn (by lia) im u1 (λi n R h1 h2 hr=>?_) λn h1 h2 u hd=>?_)
 ·dsimp only;obtain ⟨x,hx⟩:=h'.at (i:=lo+n - 1) (by lia);obtain ⟨z,hz⟩:=h'.at (i:=lo+n) (by lia);refine wpS_bind (ltAt_wp hc I h' hz hx ?_);obtain ⟨r1,r2⟩:=hr x z hx hz;dsimp only;cases e:L z x with
  | true=>rw [if_pos rfl];exact wpS_pure (r1 e)
  | false=>rw [if_neg Bool.false_ne_true];exact wpS_pure (r2 e)
 ·exact wpS_pure (q n _ (by lia) h2 h' u)
end
end L2
namespace L2
open PySem PySem.Spec PyProof.Rows
section
variable {prog:Program}{w:World}{A:Around}{s:Shared}{κ:SortKind}{S:Keyed->Prop}{L:Keyed->Keyed->Bool}{pd:Array (Nat×Nat×Nat)}{lo:Nat}{a₀:Array Keyed}{st:SortSt}
theorem RwIn.perm {a:Array Keyed} (I:RwIn S L a₀) (h:a.Perm a₀):RwIn S L a:=⟨I.ord,λx hx=>I.all x ((Array.perm_iff_toList_perm.mp h).mem_iff.mp hx),((Array.perm_iff_toList_perm.mp h).pairwise_iff λh=>h.symm).mpr I.dis⟩
theorem UpW.frame {a b:Array Keyed}{n:Nat} (u:UpW L a 0 n) (h:∀ i,i<n->b[i]? = a[i]?):UpW L b 0 n:=λi j x z hij hj hx hz=>by
 rw [Nat.zero_add] at hx hz;rw [h i (by lia)] at hx;rw [h j hj] at hz;exact u i j x z hij hj (by rwa [Nat.zero_add]) (by rwa [Nat.zero_add])
theorem UpW.list {a:Array Keyed}{lo n:Nat} (u:UpW L a lo n):UpK L ((a.toList.drop lo).take n):=by
 refine List.pairwise_iff_getElem.mpr λi j hi hj hij=>?_;rw [List.length_take] at hi hj;rw [List.getElem_take,List.getElem_take,List.getElem_drop,List.getElem_drop];have l1:lo+i<a.size:=by rw [List.length_drop,Array.length_toList] at hi;lia
 have l2:lo+j<a.size:=by rw [List.length_drop,Array.length_toList] at hj;lia
 refine u i j _ _ (by lia) (by lia) ?_ ?_
 ·rw [Array.getElem?_eq_getElem l1];simp
 ·rw [Array.getElem?_eq_getElem l2];simp
theorem minRun_two {n:Nat} (h1:64<=n) (h2:n<128):minRun' n n 0=n / 2+n % 2:=by
 obtain ⟨f,hf⟩:∃ f,n=f+2:=⟨n - 2,by lia⟩;have e:minRun' (f+2) n 0=n / 2+n % 2:=by
  rw [minRun'_succ,if_neg (by lia),minRun'_succ,if_pos (by lia),Nat.zero_max]
 rwa [<-hf] at e
def RunsE (κ:SortKind) (L:Keyed->Keyed->Bool) (a₀:Array Keyed) (st:SortSt):Prop:=
 (Rw κ #[(0,a₀.size,0)] 0 a₀ st/\UpW L (arrOf st) 0 a₀.size)\/∃ n1 n2 p1 p2,1<=n1/\1<=n2/\n1+n2=a₀.size/\Rw κ #[(0,n1,p1),(n1,n2,p2)] 0 a₀ st/\UpW L (arrOf st) 0 n1/\UpW L (arrOf st) n1 n2
def RunsI (κ:SortKind) (L:Keyed->Keyed->Bool) (a₀:Array Keyed) (x:Nat) (c:Option Unit×Nat) (st:SortSt):Prop:=
 (x=0/\c=(none,0)/\Rw κ #[] 0 a₀ st)\/(x=1/\∃ n1,c=(none,n1)/\n1<a₀.size/\a₀.size / 2+a₀.size % 2<=n1/\Rw κ #[(0,n1,0)] 0 a₀ st/\UpW L (arrOf st) 0 n1)\/(1<=x/\c=(none,a₀.size)/\RunsE κ L a₀ st)
theorem Rw.push (h:Rw κ pd lo a₀ st) (p:Array (Nat×Nat×Nat)):Rw κ p lo a₀ (setPending st p):=⟨h.kd,h.fl,rfl,h.pm,h.fr⟩
theorem sortRuns_wp (hc:CmpS prog w A s κ S L) (I:RwIn S L a₀) (h:Rw κ #[] 0 a₀ st) (h64:64<=a₀.size) (h128:a₀.size<128) {Q:Unit->SortSt->Prop}
  (q:∀ st',failedOf st' = none->Mf L a₀.toList (arrOf st').toList->Q () st'):wpS (model prog w) A (λ_ _=>False) s sortRuns' Q st:=by
 unfold sortRuns';refine wpS_bind (wpS_get ?_);dsimp -zeta only;have hN:(arrOf st).size=a₀.size:=h.size;have hm:minRun' (arrOf st).size (arrOf st).size 0=a₀.size / 2+a₀.size % 2:=by rw [hN];exact minRun_two h64 h128
 have stop:∀ {c:Option Unit×Unit}{st':SortSt}{Q:Option Unit×Unit->SortSt->Prop}{N:Nat}{F:Nat->Option Unit×Unit->StateT SortSt Sem (ForInStep (Option Unit×Unit))},c=(none,())->(∀ x (R:ForInStep (Option Unit×Unit)->SortSt->Prop),R (.done (none,())) st'->wpS (model prog w) A (λ_ _=>False) s (F x (none,())) R st')->Q (none,()) st'->wpS (model prog w) A (λ_ _=>False) s (forIn [0:N] c F) Q st':=λ{c st' Q N F} e hF hq=>by
  subst e;exact wpS_forRange (λ_ c st''=>st'' = st'/\c=(none,())) (λx c st'' _ _ p=>by obtain ⟨rfl,rfl⟩:=p;exact hF x _ hq) (λc st'' p=>by obtain ⟨rfl,rfl⟩:=p;exact hq) ⟨rfl,rfl⟩
 refine wpS_bind (wpS_mono (wpS_forRange (RunsI κ L a₀) (Q:=λc st'=>c=(none,a₀.size)/\RunsE κ L a₀ st') (λx c st' _ hx p=>?_) (λc st' p=>?_) (.inl ⟨rfl,rfl,h⟩)) λc st' p=>?_)
 ·obtain ⟨R,hR⟩:∃ R:ForInStep (Option Unit×Nat)->SortSt->Prop,R=λr st'=>match r with | .done c'=>c' = (none,a₀.size)/\RunsE κ L a₀ st' | .yield c'=>RunsI κ L a₀ (x+1) c' st':=⟨_,rfl⟩
  refine wpS_mono (Q:=R) ?_ λr st' p=>by rw [hR] at p;cases r <;> exact p
  have Ry:∀ {c st'},RunsI κ L a₀ (x+1) c st'->R (.yield c) st':=λp=>by rw [hR];exact p
  have Rd:∀ {st'},RunsE κ L a₀ st'->R (.done (none,a₀.size)) st':=λp=>by rw [hR];exact ⟨rfl,p⟩
  clear hR;rcases p with ⟨rfl,rfl,h⟩ | ⟨rfl,n1,rfl,h1,h2,h,u⟩ | ⟨h1,rfl,hE⟩
  ·extract_lets -merge -underBinder z1
   dsimp -zeta only [z1];rw [if_neg (show ¬ 0 ≥ (arrOf st).size by lia)];refine wpS_bind (count_wpK hc I h (by show 0+((arrOf st).size - 0)<=_;lia) (by show 1<=(arrOf st).size - 0;lia) λn st2 a1 a2 hs2 u2=>?_);replace a2:n<=(arrOf st).size - 0:=a2;dsimp -zeta only
   extract_lets -merge -underBinder z2 jp
   have hjp:∀ u n st2,1<=n->n<=a₀.size->a₀.size / 2+a₀.size % 2<=n->Rw κ #[] 0 a₀ st2->UpW L (arrOf st2) 0 n->wpS (model prog w) A (λ_ _=>False) s (jp u n) R st2:=λu n st2 b1 b2 b3 hs2 u2=>by
    dsimp -zeta only [jp,z1];refine wpS_bind (wpS_get ?_)
    extract_lets -merge -underBinder jp2
    have e:(pendingOf st2).back? = none:=by rw [hs2.pd];rfl
    rw [e];dsimp only [jp2];refine wpS_bind (wpS_modify (wpS_pure (Ry ?_)));have h':Rw κ #[(0,n,0)] 0 a₀ (setPending st2 ((pendingOf st2).push (0,n,0))):=by
     have:=hs2.push ((pendingOf st2).push (0,n,0));have e2:(pendingOf st2).push (0,n,0) = #[(0,n,0)]:=by rw [hs2.pd];rfl
     rw [e2] at this ⊢;exact this
    rw [Nat.zero_add n];by_cases c1:n=a₀.size
    ·subst c1;exact .inr (.inr ⟨by lia,rfl,.inl ⟨h',u2⟩⟩)
    ·exact .inr (.inl ⟨rfl,n,rfl,by lia,b3,h',u2⟩)
   split
   ·rename_i hlt;replace hlt:n<minRun' (arrOf st).size (arrOf st).size 0:=hlt;rw [hm] at hlt;refine wpS_bind (wpS_lift (wpAny_rule ⟨.refl _,?_⟩))
    extract_lets -merge -underBinder z3
    have e3:z3=a₀.size / 2+a₀.size % 2:=by
     show min ((arrOf st).size - 0) (minRun' (arrOf st).size (arrOf st).size 0)=_;rw [hm];lia
    refine wpS_bind (binS_wp hc I (n:=z3) (by lia) (by lia) a1 hs2 u2 λst3 hs3 u3=>?_);rw [if_neg (by simp)];exact hjp () _ _ (by lia) (by lia) (by lia) hs3 u3
   ·rename_i hlt;replace hlt:¬ n<minRun' (arrOf st).size (arrOf st).size 0:=hlt;rw [hm] at hlt;exact hjp () _ _ a1 (by lia) (by lia) hs2 u2
  ·extract_lets -merge -underBinder z1
   dsimp -zeta only [z1];rw [if_neg (show ¬ n1 ≥ (arrOf st).size by lia)];have I2:=I.perm h.pm;have h0:Rw κ #[(0,n1,0)] n1 (arrOf st') st':=⟨h.kd,h.fl,h.pd,.refl _,λ_ _=>rfl⟩;have hN2:=h.size;have em:(arrOf st).size - n1=a₀.size - n1:=by lia
   refine wpS_bind (count_wpK hc I2 h0 (m:=(arrOf st).size - n1) (by lia) (by lia) λn st2 a1 a2 hs2 u2=>?_);dsimp -zeta only
   extract_lets -merge -underBinder z2 jp
   have hjp:∀ u n st2,n=a₀.size - n1->Rw κ #[(0,n1,0)] n1 (arrOf st') st2->UpW L (arrOf st2) n1 n->wpS (model prog w) A (λ_ _=>False) s (jp u n) R st2:=λv n st2 b1 hs2 u2=>by
    dsimp -zeta only [jp,z1];refine wpS_bind (wpS_get ?_)
    extract_lets -merge -underBinder jp2
    have e:(pendingOf st2).back? = some (0,n1,0):=by rw [hs2.pd];rfl
    rw [e];dsimp -zeta only
    extract_lets -merge -underBinder pw
    refine wpS_bind (stop rfl (λx R hr=>?_) ?_)
    ·refine wpS_bind (wpS_get ?_);dsimp only;have e4:(if (pendingOf st2).size > 1 then (pendingOf st2)[(pendingOf st2).size - 2]? else none)=none:=by rw [hs2.pd];rfl
     rw [e4];exact wpS_pure hr
    refine wpS_bind (wpS_modify ?_);dsimp only [jp2];refine wpS_bind (wpS_modify (wpS_pure (Ry ?_)));have e5:((pendingOf st2).modify ((pendingOf st2).size - 1) λx=>(x.1,x.2.1,pw)).push (n1,n,0) = #[(0,n1,pw),(n1,n,0)]:=by rw [hs2.pd];rfl
    have h':Rw κ #[(0,n1,pw),(n1,n,0)] 0 a₀ (setPending st2 (((pendingOf st2).modify ((pendingOf st2).size - 1) λx=>(x.1,x.2.1,pw)).push (n1,n,0))):=by
     rw [e5];exact ⟨hs2.kd,hs2.fl,rfl,hs2.pm.trans h.pm,λi hi=>by lia⟩
    rw [show n1+n=a₀.size by lia];exact .inr (.inr ⟨by lia,rfl,.inr ⟨n1,n,pw,0,by lia,by lia,by lia,h',u.frame hs2.fr,u2⟩⟩)
   split
   ·rename_i hlt;replace hlt:n<minRun' (arrOf st).size (arrOf st).size 0:=hlt;rw [hm] at hlt;refine wpS_bind (wpS_lift (wpAny_rule ⟨.refl _,?_⟩))
    extract_lets -merge -underBinder z3
    have e3:z3=a₀.size - n1:=by
     show min ((arrOf st).size - n1) (minRun' (arrOf st).size (arrOf st).size 0)=_;rw [hm];lia
    refine wpS_bind (binS_wp hc I2 (n:=z3) (by lia) (by lia) a1 hs2 u2 λst3 hs3 u3=>?_);rw [if_neg (by simp)];exact hjp () _ _ e3 hs3 u3
   ·rename_i hlt;replace hlt:¬ n<minRun' (arrOf st).size (arrOf st).size 0:=hlt;rw [hm] at hlt;exact hjp () _ _ (by show n=_;lia) hs2 u2
  ·extract_lets -merge -underBinder z1
   dsimp -zeta only [z1];rw [if_pos (show a₀.size ≥ (arrOf st).size by lia)];exact wpS_pure (Rd hE)
 ·rcases p with ⟨h1,_⟩ | ⟨h1,_⟩ | ⟨_,rfl,hE⟩
  ·replace h1:max 0 (arrOf st).size=0:=h1;lia
  ·replace h1:max 0 (arrOf st).size=1:=h1;lia
  ·exact ⟨rfl,hE⟩
 obtain ⟨rfl,hE⟩:=p;dsimp -zeta only
 extract_lets -merge -underBinder z1
 dsimp -zeta only [z1];have whole:∀ st2,Rw κ #[(0,a₀.size,0)] 0 a₀ st2->UpW L (arrOf st2) 0 a₀.size->Mf L a₀.toList (arrOf st2).toList:=λst2 h u=>by
  have:=u.list;rw [List.drop_zero,List.take_of_length_le (by rw [Array.length_toList,h.size];exact Nat.le_refl _)] at this;exact ⟨Array.perm_iff_toList_perm.mp h.pm,this⟩
 refine wpS_bind (wpS_mono (wpS_forRange (λx c st2=>c=(none,())/\((x=0/\st2=st')\/(1<=x/\(pendingOf st2).size<=1/\failedOf st2=none/\Mf L a₀.toList (arrOf st2).toList)))
  (Q:=λc st2=>c=(none,())/\failedOf st2=none/\Mf L a₀.toList (arrOf st2).toList) (λx c st2 _ hx p=>?_) (λc st2 p=>?_) ⟨rfl,.inl ⟨rfl,rfl⟩⟩) λc st2 p=>?_)
 ·obtain ⟨rfl,⟨rfl,rfl⟩ | ⟨_,g1,g2,g3⟩⟩:=p
  ·refine wpS_bind (wpS_get ?_);rcases hE with ⟨h,u⟩ | ⟨n1,n2,p1,p2,b1,b2,b3,h,u1,u2⟩
   ·dsimp only;rw [if_pos (show (pendingOf st2).size<=1 by rw [h.pd];exact Nat.le_refl 1)];exact wpS_pure ⟨rfl,h.fl,whole _ h u⟩
   ·have I2:=I.perm h.pm;have hsz:=h.size;dsimp only;rw [if_neg (show ¬ (pendingOf st2).size<=1 by rw [h.pd];simp)];have ep:=h.pd;have ep2:=ep;dsimp only [pendingOf] at ep2;rw [ep2];refine wpS_bind (mergeAt_wp hc I2.ord h.kd ep h.fl I2.all b1 b2 (by lia) ?_ ?_ λst3 _ f3 g3 m3=>?_)
    ·have:=u1.list
     rwa [List.drop_zero] at this
    ·have:=u2.list
     rwa [List.take_of_length_le (by rw [List.length_drop,Array.length_toList];lia)] at this
    ·rw [if_neg (by simp)];exact wpS_pure ⟨rfl,.inr ⟨Nat.le_refl _,g3,f3,m3.1.trans (Array.perm_iff_toList_perm.mp h.pm),m3.2⟩⟩
  ·refine wpS_bind (wpS_get ?_);dsimp only;rw [if_pos (show (pendingOf st2).size<=1 from g1)];exact wpS_pure ⟨rfl,g2,g3⟩
 ·obtain ⟨rfl,⟨h1,_⟩ | ⟨_,_,g2,g3⟩⟩:=p
  ·replace h1:max 0 (arrOf st).size=0:=h1;lia
  ·exact ⟨rfl,g2,g3⟩
 obtain ⟨rfl,g2,g3⟩:=p;exact wpS_pure (q _ g2 g3)
end
end L2
namespace L2
open PySem PySem.Spec PyProof.Rows PySem.W
def txK (p:Keyed):Str:=match p.1 with
 | .str x _=>x
 | _=>Str.empty
def TxS (p:Keyed):Prop:=∃ x t,p=(Value.str x t,Value.str x t)
def TxL (p q:Keyed):Bool:=ltv (.str (txK p)) (.str (txK q))
theorem tx_ord:LOrd TxS TxL:=by
 have o:=Sh.ok .str;exact ⟨λx _=>o.irr _ ⟨_,rfl⟩,λx y z _ _ _ h=>o.neg ⟨_,rfl⟩ ⟨_,rfl⟩ ⟨_,rfl⟩ h,λx y _ _ h=>o.asymm ⟨_,rfl⟩ ⟨_,rfl⟩ h⟩
theorem tx_cmp {P:Program}{w:World}{A:Around}{s:Shared}:CmpS P w A s oneType' TxS TxL:=λx y st Q hx hy hk q=>by
 obtain ⟨a,t,rfl⟩:=hx;obtain ⟨b,u,rfl⟩:=hy;rw [lt'_eq];refine wpS_bind (wpS_get ?_);rw [hk,keyLt'_oneType];exact wpS_bind (wpS_lift (wpAny_attempt (oneLt_str ⟨rfl,wpS_pure q⟩)))
theorem tx_zip:∀ {ns:List Str}{vs:List Value},Vals (ns.map V.str) vs->(∀ p∈vs.zip vs,TxS p)/\(vs.zip vs).map txK=ns
 | [],_,r=>by rw [List.map_nil] at r;cases r;exact ⟨(λp hp=>nomatch hp),rfl⟩
 | n::ns,_,r=>by
  rw [List.map_cons] at r;cases r with
  | cons h t=>
   obtain ⟨tk,rfl⟩:=h;obtain ⟨a,b⟩:=tx_zip t;refine ⟨λp hp=>?_,?_⟩
   ·rcases List.mem_cons.mp hp with e | e
    ·exact ⟨_,_,e⟩
    ·exact a p e
   ·rw [List.zip_cons_cons,List.map_cons,b];rfl
theorem tx_vals:∀ {l:List Keyed},(∀ p∈l,TxS p)->Vals ((l.map txK).map V.str) (l.map (·.2))
 | [],_=>.nil
 | p::l,h=>by
  obtain ⟨x,t,e⟩:=h p (List.mem_cons_self ..);subst e;exact .cons ⟨t,rfl⟩ (tx_vals λq hq=>h q (List.mem_cons_of_mem _ hq))
section
variable {X:Cx}{pins:List (Addr×Obj)}{σ:St}{H:Hp}{s:Shared}
theorem lsort_big {A:Around}{D:Addr}{n0:Nat}{ns:List Str}{vs:List Value}{P:PySem.Fin->Shared->Prop}{E:Value->Shared->Prop} (I:Inv X pins σ H s) (ho:s.heap.get? D=some (seqObj "list" vs.toArray n0)) (fD:FpOk X pins H D)
  (hv:Vals (ns.map V.str) vs) (hnd:ns.Nodup) (h64:64<=vs.length) (h128:vs.length<128)
  (h:∀ (ms:List Str) (h':Heap),ms.Perm ns->UpS ms->Inv X pins σ (upd H D (.lst (ms.map V.str))) { s with heap:=h' }->P (.done (.ret .none)) { s with heap:=h' }) :
  wpAny (model X.prog X.w) A (Builtin.«list.sort» ⟨[.ref D],[]⟩) P E s:=by
 have hlen:=hv.length;rw [List.length_map] at hlen;obtain ⟨e1,ho1,at3⟩:=sort_opened I ho fD;rw [list_sort_plain];refine wpAny_bind (listItems_at ho rfl (wpAny_bind (listUpdate_at ho rfl (wpAny_bind (seqEpoch_at ho1 rfl (wpAny_bind (wpAny_newTuple (wpAny_bind (wpAny_newList (wpAny_holding ?main) (Nat.zero_le _))) ?short)))) ?few (Nat.zero_le _))))
 case short=>show vs.length<=_;rw [sizeLine_eq];lia
 case few=>rw [List.size_toArray,sizeLine_eq];lia
 case main=>
 generalize hh3:((s.heap.update D (Obj.mapSeq λ_=>(#[]:Array Value))).push (seqObj "tuple" vs.toArray 0)).push (seqObj "list" #[] 0)=h3;obtain ⟨hD3,I3⟩:=at3 h3 hh3.symm;rw [if_neg (by rw [List.size_toArray];lia),if_neg (by rw [List.size_toArray];lia)];refine wpAny_bind (kas_kind (T:=.type "str") (by lia) (λv hm=>?_) (by decide) (by decide) ?_)
 ·obtain ⟨i,t,rfl⟩:=vals_strsV hv v hm;exact .of_pure rfl
 obtain ⟨z1,z2⟩:=tx_zip hv;have ez:(vs.toArray.zip vs.toArray).toList=vs.zip vs:=by simp
 have hz:(vs.toArray.zip vs.toArray).size=vs.length:=by simp
 have IR:RwIn TxS TxL (vs.toArray.zip vs.toArray):=⟨tx_ord,λx hx=>z1 x (ez ▸ hx),by
  rw [ez];have:(vs.zip vs).Pairwise λx y=>txK x≠txK y:=by
   have:=hnd;rw [<-z2] at this;exact List.pairwise_map.mp this
  refine this.imp λ{x y} ne=>?_;cases a:TxL x y with
  | true=>exact .inl rfl
  | false=>cases b:TxL y x with
   | true=>exact .inr rfl
   | false=>exact absurd (str_lt_tri a b) ne⟩
 have w1:wpS (model X.prog X.w) A (λ_ _=>False) { s with heap:=h3 } sortRuns' (λ_ st'=>failedOf st' = none/\Mf TxL (vs.toArray.zip vs.toArray).toList (arrOf st').toList) (SortSt.mk' oneType' (vs.toArray.zip vs.toArray) #[] 7 none):=
  sortRuns_wp tx_cmp IR ⟨rfl,rfl,rfl,.refl _,λ_ _=>rfl⟩ (by rw [hz];exact h64) (by rw [hz];exact h128) λst' a b=>⟨a,b⟩
 refine wpAny_bind (wpAny_mono w1 ?_ λ_ _ e=>e.elim);rintro ⟨⟨⟩,st'⟩ s' ⟨rfl,hfl,hp,hu⟩;dsimp only at hfl hp hu ⊢;rw [ez] at hp;have hall:∀ p∈(arrOf st').toList,TxS p:=λp hq=>z1 p (hp.mem_iff.mp hq);have hsz:(arrOf st').size=vs.length:=by
  have:=hp.length_eq;simpa using this
 refine wpAny_bind (seqEpoch_at hD3 rfl ?_);refine wpAny_bind (listUpdate_at hD3 rfl ?_ (Nat.zero_le _) (by rw [Array.size_map,hsz,sizeLine_eq];lia));rw [hfl]
 (simp only [bne_self_eq_false,Bool.false_eq_true,if_false])
 have pm:((arrOf st').toList.map txK).Perm ns:=by rw [<-z2];exact hp.map _
 refine wpAny_pure (h ((arrOf st').toList.map txK) _ pm (List.pairwise_map.mpr hu) ?_);obtain ⟨c2,hc2⟩:∃ c2,(h3.update D (Obj.mapSeq λ_=>(arrOf st').map (·.2))).get? D=some (seqObj "list" ((arrOf st').map (·.2)) c2):=⟨_,get?_update_seq hD3 λ_=>(arrOf st').map (·.2)⟩
 refine I3.adopt (t':=s.toks) (wr:=[D]) (a:=D) (λc hc=>by rwa [show c=D by simpa using hc]) (by simp) (λc o hc e=>((Heap.SameBut.update h3 D (Obj.mapSeq λ_=>(arrOf st').map (·.2))).2 c (by simpa using hc)).trans e) ?_
 refine ⟨by rw [List.length_map,pm.length_eq,sizeLine_eq];lia,(arrOf st').toList.map (·.2),c2,tx_vals hall,?_⟩
 have e9:((arrOf st').toList.map (·.2)).toArray=(arrOf st').map (·.2):=by
  apply Array.toList_inj.mp;rw [Array.toList_map]
 rw [hc2,e9]
def rSorB:List Str->Hp->VK->Prop:=λus H Q=>us.length<128/\us.Nodup/\∀ (D:Addr) (ms:List Str),H D=none->ms.Perm us->UpS ms->Q (.ref D) (upd H D (.lst (ms.map V.str)))
theorem call_sortedB {k:Nat} (hc:X.calm=true) (hr:Room k X.A):CallS X (.builtin "sorted") rSorB:=by
 intro pins s σ H S us Q I hS h;obtain ⟨h128,hnd,q⟩:=h;by_cases h64:us.length<64
 ·exact call_sortedS hc hr pins s σ H S us Q I hS ⟨h64,q⟩
 (refine Calls.call_function_entry kind_sorted plain_sorted entry_sorted (args_sorted1 _) ?_)
 (refine wpAny_bind (m:=checkCount "sorted" 1 1 _) (wpAny_pure ?_))
 refine wpAny_bind (set_collect (A:=X.A.in1) (show X.A.in1.handled=none from I.ok.hd hc) hS (by rw [sizeLine_eq];lia) λh1 tk d acc us' hk hp hv=>?_);have hul:us'.length=us.length:=hp.length_eq;have hal:acc.length=us'.length:=by rw [<-hv.length,List.length_map]
 (refine wpAny_bind (wpAny_newList ?_ (by rw [hal,hul,sizeLine_eq];lia)))
 have I1:Inv X pins σ H { s with heap:=h1,toks:=tk,drawn:=d }:=I.setd hk;have hoL:(h1.push (seqObj "list" acc.toArray 0)).get? h1.objs.size=some (seqObj "list" acc.toArray 0):=Heap.get?_push_size _ rfl;have keep:∀ b o,s.heap.get? b=some o->(h1.push (seqObj "list" acc.toArray 0)).get? b=some o:=λb o e=>Heap.get?_push_of_some _ (hk b o e);generalize h1.push (seqObj "list" acc.toArray 0)=h2 at hoL keep ⊢;have hDn:H h1.objs.size=none:=I1.hok.fresh (Nat.le_refl _);have fD:FpOk X pins H h1.objs.size:=I1.fpOk (Nat.le_refl _) hDn;generalize h1.objs.size=D at hoL hDn fD ⊢
 (refine wpAny_bind (wpAny_holding (wpAny_call_entry slot_list_sort ⟨_,hoL,rfl⟩ entry_list_sort ?body (args_list_sort _))))
 case body=>
  refine lsort_big (s:={ s with heap:=h2,toks:=tk,drawn:=d }) (I.setd keep) hoL fD hv (hp.nodup_iff.mpr hnd) (by lia) (by lia) λms h' hp2 so I'=>?_;refine ⟨_,rfl,wpAny_pure ⟨_,rfl,?_⟩⟩;exact ⟨.ref _,_,I',rfl,q _ _ hDn (hp2.trans hp) so⟩
end
end L2
namespace L2
open PySem
section
variable {X:Cx}
end
structure NeT (K:PySem.W.Frag) (C:Addr):Prop where
 ne:PySem.W.findIn K (.ref C) "__ne__" = some (some (.builtin "object.__ne__"))
 hm:PySem.W.mroIn K C (.type "object")=some true
section
variable {X:Cx}{C f:Addr}{fd:FuncData}{k:Nat}{sp:Sp}
end
end L2
namespace L2
open PySem
end L2
namespace L2
open PySem PySem.Spec PyProof.Rows
section
variable {X:Cx}
end
end L2
namespace L2
open PySem PySem.Spec PyProof.Rows
section
variable {prog:Program}{w:World}{A:Around}{E:Value->Shared->Prop}{s:Shared}
end
section
variable {X:Cx}{pins:List (Addr×Obj)}{σ:St}
end
end L2
namespace L2
open PySem PySem.Spec PyProof.Rows PySem.W
section
variable {X:Cx}{pins:List (Addr×Obj)}{σ:St}{H:Hp}{s:Shared}
end
end L2
namespace L2
open PySem PySem.Spec PyProof.Rows
section
variable {prog:Program}{w:World}{A:Around}{E:Value->Shared->Prop}{s:Shared}
end
section
variable {X:Cx}{pos:Pos}
end
end L2
namespace L2
open PySem PySem.Spec PyProof.Rows PySem.W
section
variable {X:Cx}
end
end L2
namespace L2
open PySem PySem.Spec PyProof.Rows PySem.W
def ilD (ns:List Int):PyData:=.list (ns.map PyData.int)
def ilS:Sh:=.list .int
theorem il_has (ns:List Int):ilS.has (ilD ns):=⟨_,rfl,λx hx=>by
 obtain ⟨i,_,rfl⟩:=List.mem_map.mp hx;exact ⟨i,rfl⟩⟩
section
variable {X:Cx}{pins:List (Addr×Obj)}{σ:St}{H:Hp}{s:Shared}
theorem il_lay:∀ ns:List Int,PyData.canLayAll0 (ns.map PyData.int)=true
 | []=>rfl
 | _::ns=>by rw [List.map_cons,PyData.canLayAll0,il_lay ns];rfl
theorem il_depth:∀ ns:List Int,PyData.depthAll (ns.map PyData.int)=0
 | []=>rfl
 | _::ns=>by rw [List.map_cons,PyData.depthAll,il_depth ns];rfl
theorem il_engine {A:Around}{xs:List V}{us:List Value}{nss:List (List Int)} (I:Inv X pins σ H s) (hv:Vals xs us) (hd:Dens X.K H xs (nss.map ilD)) (hu:A.units+101<cLine) (G:Array Nat->Shared->Prop) (h2:2<=us.length)
  (h:∀ p:Array Nat,p.toList.Perm (List.range us.length)->(∀ i j,i<=j->j<us.length->ltv ((nss.map ilD).getD (p.getD j 0) .none) ((nss.map ilD).getD (p.getD i 0) .none)=false)->G p s) :
  wpAny (model X.prog X.w) A (keyKind' us.toArray) (λκ s''=>(kas_sort us.length).kasWp (kas_ask X.prog X.w A κ us) G s'') (λ_ _=>False) s:=by
 have l1:us.length=nss.length:=by rw [<-hv.length,hd.length,List.length_map]
 have at1:∀ i,i<us.length->∃ (a:Addr) (ns:List Int) (its:Array Value) (o:Obj) (n:Nat) (as:List Addr),us.getD i .none = .ref a/\(nss.map ilD).getD i .none=ilD ns/\s.heap.get? a=some o/\o.cls = .type "list" /\ o.data = .seq its n/\ReadsAll s.heap its.toList (ns.map PyData.int) as:=λi hi=>by
  have di:=hd.getD' i (by rw [List.length_map];lia);have ri:=vals_getD hv i;have e:(nss.map ilD).getD i .none=ilD (nss.getD i []):=by simp [List.getD_eq_getElem?_getD,show i<nss.length by lia]
  rw [e] at di ⊢;revert di ri;generalize xs.getD i .non=x;generalize us.getD i .none=u;intro di ri;cases di with
  | lst q t=>
   cases ri;obtain ⟨its,rv,pl,_⟩:=I.list q;obtain ⟨o,eo,c,n,dt⟩:=pl.isList;obtain ⟨as,ra⟩:=I.readsAll t rv;exact ⟨_,_,_,o,n,as,rfl,rfl,eo,c,dt,by simpa using ra⟩
 refine kas_kind (T:=.type "list") h2 (λv hm=>?_) (by decide) (by decide) ?_
 ·obtain ⟨i,hi,e⟩:=List.mem_iff_getElem.mp hm;obtain ⟨a,ns,its,o,n,as,e1,_,eo,c,_⟩:=at1 i hi;have e2:v = .ref a:=by rw [<-e1,<-e];simp [List.getD_eq_getElem?_getD,hi]
  subst e2;rw [<-c];exact (Looks.ld eo).andThen .now
 have o:=Sh.ok ilS;have hgs:∀ i,i<us.length->ilS.has ((nss.map ilD).getD i .none):=λi hi=>by
  obtain ⟨_,ns,_,_,_,_,_,e,_⟩:=at1 i hi;rw [e];exact il_has ns
 refine sort_wp (n:=us.length) (lt:=λi j=>ltv ((nss.map ilD).getD i .none) ((nss.map ilD).getD j .none)) (P:=λs''=>s'' = s) ⟨λi hi=>o.irr _ (hgs i hi),λi j k hi hj hk q=>o.neg (hgs i hi) (hgs j hj) (hgs k hk) q,λi j hi hj q=>o.asymm (hgs i hi) (hgs j hj) q⟩
  (λi j C s'' hi hj e q=>?_) (by lia) rfl λp s'' e hp up=>by subst e;exact h p hp up
 subst e;show wpAny (model X.prog X.w) A (keyLt' oneType' (us.getD i .none) (us.getD j .none)) C (λ_ _=>False) s'';have qq:=q s'' rfl;obtain ⟨a,ns,its,oa,n,as,e1,e2,ea,ca,da,ra⟩:=at1 i hi;obtain ⟨b,ms,jts,ob,m,bs,f1,f2,eb,cb,db,rb⟩:=at1 j hj;rw [e2,f2] at qq;rw [e1,f1,keyLt'_oneType,oneLt'_eq];simp only [if_true];refine wpAny_bind (wpAny_cRoomFor (by lia) ?_);obtain ⟨cls,dd,data,sl⟩:=oa;obtain ⟨cls2,dd2,data2,sl2⟩:=ob;subst ca da cb db;refine wpAny_bind (wpAny_callSpecialIfBound?_slot ⟨_,ea,rfl⟩ F.slot_list_lt (call_meets F.slot_list_lt ⟨_,ea,rfl⟩ F.entry_list_lt (F.args_list_lt_2 _ _) (list_lt_data a b its jts (ns.map PyData.int) (ms.map PyData.int)
  (λx y hx hy _ A' s' u v as' bs' r1 r2 _ _ _=>by
   obtain ⟨i,_,rfl⟩:=List.mem_map.mp hx;obtain ⟨j,_,rfl⟩:=List.mem_map.mp hy;exact ltAt_int r1 r2) ?_ (il_lay ns) (il_lay ms)) ?_))
 ·have:=o.cmp _ _ (il_has ns) (il_has ms);simpa [ilD,cmpb] using this
 ·refine ⟨⟨_,_,_,ea⟩,⟨_,_,_,eb⟩,⟨Nat.zero_le _,Nat.zero_le _,⟨_,by simpa using ra⟩,⟨_,by simpa using rb⟩⟩,by rw [il_depth];show A.in1.units+0<cLine;show A.units+1+0<cLine;lia,?_⟩;exact wpAny_truthy_bool (by simpa [ilD,ltv] using qq)
def rSorLL (K:PySem.W.Frag):List V->Hp->VK->Prop:=λvs H Q=>∃ l xs,∃ nss:List (List Int),vs=[.ref l]/\SqL K H l xs/\Dens K H xs (nss.map ilD)/\nss.length<64 /\
 ∀ (D:Addr) (ys:List V) (mss:List (List Int)),H D=none->Dens K H ys (mss.map ilD)->mss.Perm nss->mss.Pairwise (λa b=>ltv (ilD b) (ilD a)=false)->Q (.ref D) (upd H D (.lst ys))
theorem call_sortedLL {k:Nat} (hr:Room k X.A):CallR X (.builtin "sorted") (rSorLL X.K):=by
 intro pins s σ H xs us Q I rv h;obtain ⟨l,xs,nss,rfl,hq,hd,h64,q⟩:=h;obtain ⟨u,rfl,ru⟩:=rv.one;cases ru;obtain ⟨vs,hv,pl,_⟩:=I.list hq;have hlen:nss.length=vs.length:=by rw [<-hv.length,hd.length,List.length_map]
 (refine Calls.call_function_entry kind_sorted plain_sorted entry_sorted (args_sorted1 _) ?_)
 unfold Builtin.«sorted»
 (refine wpAny_bind (m:=checkCount "sorted" 1 1 _) (wpAny_pure ?_))
 refine wpAny_bind (collect_list pl.isList ?_ (by rw [sizeLine_eq];lia))
 (refine wpAny_bind (wpAny_newList ?_ (by rw [sizeLine_eq];lia)))
 have hsz:=copied_size s.heap vs;have hoL:=copied_at s.heap vs;have keep:=copied_keep s.heap vs;show wpAny _ _ (_ >>= λ_=>_) _ _ { s with heap:=(copied s.heap vs).push (seqObj "list" vs.toArray 0) };rw [show ((s.heap.push (seqObj "list" #[] 0)).update s.heap.objs.size (Obj.mapSeq (· ++ vs.toArray))).objs.size=s.heap.objs.size+1 from hsz]
 generalize (copied s.heap vs).push (seqObj "list" vs.toArray 0)=h2 at hoL keep ⊢;have I2:=I.kept (t':=s.toks) keep;have hDn:=I.hok.fresh (Nat.le_succ _);have fD:=I.fpOk (Nat.le_succ _) hDn
 (refine wpAny_bind (wpAny_holding (wpAny_call_entry slot_list_sort ⟨_,hoL,rfl⟩ entry_list_sort ?body (args_list_sort _))))
 case body=>
  refine lsort_by (s:={ s with heap:=h2 }) (ds:=nss.map ilD) I2 hoL fD hv (λs' G I' h2 hG=>il_engine I' hv hd (by show X.A.units+1+1+101<cLine;have:=hr.un;lia) G h2 hG) (by lia) λp h' hp2 hord I'=>?_;refine ⟨_,rfl,wpAny_pure ⟨_,rfl,?_⟩⟩;have hxl:xs.length=nss.length:=by rw [hd.length,List.length_map]
  rw [hxl] at hp2;have hlt:∀ i∈p,i<nss.length:=λi hi=>by have:=hp2.mem_iff.mp hi;simpa using this
  have eg:∀ i,i<nss.length->(nss.map ilD).getD i .none=ilD (nss.getD i []):=λi hi=>by simp [List.getD_eq_getElem?_getD,hi]
  have pm:(p.map λi=>nss.getD i []).Perm nss:=by
   exact (hp2.map λi=>nss.getD i []).trans (by rw [(range_picked nss [])])
  have dn:Dens X.K H (picked xs p) ((p.map λi=>nss.getD i []).map ilD):=by
   rw [List.map_map];unfold picked;clear hord hp2 pm I'
   induction p with
   | nil=>exact .nil
   | cons i p ih=>
    have hi:=hlt i (List.mem_cons_self ..);refine .cons ?_ (ih λj hj=>hlt j (List.mem_cons_of_mem _ hj));have:=hd.getD' i (by rw [List.length_map];exact hi)
    rwa [eg i hi] at this
  have so:(p.map λi=>nss.getD i []).Pairwise (λa b=>ltv (ilD b) (ilD a)=false):=by
   unfold InOrd at hord;have e2:(p.map λi=>(nss.map ilD).getD i .none)=(p.map λi=>nss.getD i []).map ilD:=by
    rw [List.map_map];exact List.map_congr_left λi hi=>eg i (hlt i hi)
   rwa [e2,List.pairwise_map] at hord
  exact ⟨.ref _,_,I',rfl,q _ _ _ hDn dn pm so⟩
theorem il_unique {a b:List (List Int)} (h:a.Perm b) (ha:a.Pairwise (λa b=>ltv (ilD b) (ilD a)=false)) (hb:b.Pairwise (λa b=>ltv (ilD b) (ilD a)=false)):a=b:=
 List.Perm.eq_of_pairwise (λx y _ _ h1 h2=>by
  have o:=Sh.ok ilS;have e:=o.tot _ _ (il_has x) (il_has y) h2 h1;have e2:x.map PyData.int=y.map PyData.int:=by injection e
  exact (List.map_inj_right λi j h=>by injection h).mp e2) ha hb h
end
end L2
namespace L2
open PySem PySem.Spec PyProof.Rows PySem.W
def OnlyT (T:Addr) (H:Hp):Prop:=∀ b,H b=none\/(∃ o xs,H b=some (.frz o (.lst xs)))\/(b=T/\H b=some (.tbl #[]))
theorem law_callT {P:Program}{w:World}{K:PySem.W.Frag}{mg mb:Str->Option Value}{k:Nat}{fa a c T:Addr}{fd:FuncData}{x:Str}{sp:Sp}{s₁:Shared}{vs:List Value}{ns:List Int}
  (KX:K.In s₁.heap) (hT:s₁.heap.get? T=some (tabObj #[])) (hc:CodeHd s₁.heap c T) (hKT:K.lookup T=none)
  (hns:s₁.heap.Ns mainGlobals mg) (hb:s₁.heap.Ns builtinsNs mb) (hbb:∀ x:Str,x ≠ "__name__" -> mb x=bootBuiltins x) (hlim:s₁.heap.NoLimit) (hg:s₁.gens = #[])
  (ha:s₁.heap.get? a=some { cls:=.type "list",data:=.seq vs.toArray }) (hi:IntsAre vs ns) (hl:ns.length<=sizeLine) (hr:Room k callerA)
  (F:∀ base:Heap,FnOk P w K mg base CX0 k fa fd [x] sp) (hbind:∀ (s:Shared) (u:Value),BindsTo s fd ⟨[u],[]⟩ [(x,u)])
  (hsp:∀ H:Hp,H T=some (.tbl #[])->SqL K H a (ns.map V.int)->sp [.ref a] H (λv _=>v = .bl true) λ_ _ _=>False) :
  codeAny (model P w) callerA (.call (.ref fa) ⟨[.ref a],[]⟩) (λr s'=>r = .ok (.ret (.bool true))/\OldK s₁.heap s'.heap/\s'.os=s₁.os/\AllBare s'.gens) s₁:=by
 have rv:=vals_ints hi;have haT:a≠T:=λe=>by rw [e,hT] at ha;cases ha
 have core:∀ H:Hp,OnlyT T H->H T=some (.tbl #[])->SqL K H a (ns.map V.int)->HOk P w H s₁.heap->(∀ b,H b≠none->b=a\/b=T)->(H a≠none->K.lookup a=none) ->
   codeAny (model P w) callerA (.call (.ref fa) ⟨[.ref a],[]⟩) (λr s'=>r = .ok (.ret (.bool true))/\OldK s₁.heap s'.heap/\s'.os=s₁.os/\AllBare s'.gens) s₁:=by
  intro H hO hHT hS hok hA hK;have nsK:∀ {b:Addr}{m:Str->Option Value},s₁.heap.Ns b m->(hidT s₁.heap H).Ns b m:=λ{b m} ⟨o,es,ep,e,d,r⟩=>⟨o,es,ep,hidT_get e (by
   cases q:H b with
   | none=>rfl
   | some u=>
    rcases hA b (by rw [q];simp) with rfl | rfl
    ·rw [ha] at e;cases e;cases d
    ·rw [hT] at e;cases e;cases d),d,r⟩
  have hKb:K.In (hidT s₁.heap H):=λb o e=>hidT_get (KX b o e) (by
   cases q:H b with
   | none=>rfl
   | some u=>
    rcases hA b (by rw [q];simp) with rfl | rfl
    ·rw [hK (by rw [q];simp)] at e;cases e
    ·rw [hKT] at e;cases e)
  refine codeAny_mono ((F _).run callerA [] s₁ H ⟨[.ref a],[]⟩ [.ref a] [.ref a] _ _ hr ⟨rfl,⟨hKb,nsK hns,⟨mb,nsK hb,hbb⟩,let ⟨mc,h1,h2⟩:=hlim;⟨mc,nsK h1,h2⟩⟩,λb o e=>of_hidT e,Nat.le_of_eq (hidT_size _ _),trivial,λb hb=>absurd (show b∈([]:List Addr) from hb) (by simp),hok,.of_eq hg⟩ (hbind s₁ (.ref a)) (.cons rfl .nil) (hsp H hHT hS)) λr s' h=>?_;cases r with
  | error e=>exact False.elim h
  | ok fl=>
   cases fl with
   | next=>exact False.elim h
   | brk=>exact False.elim h
   | cont=>exact False.elim h
   | ret u=>
    obtain ⟨v,H',os,bare,un,hok',r',q⟩:=h;subst q;obtain rfl:u=Value.bool true:=r';refine ⟨rfl,⟨λb o e=>?_,λb o e=>un.there b o e (by simp)⟩,os,bare⟩;rcases hO b with z | ⟨ob,xs,z⟩ | ⟨rfl,z⟩
    ·exact .inl (un.keep b o e z (by intro z;exact absurd (show b∈([]:List Addr) from z) (by simp)) (by simp))
    ·have z2:=un.frzs b ob _ z;obtain ⟨e1,_⟩:=hok b _ z;obtain ⟨e2,_⟩:=hok' b _ z2;rw [e] at e1;cases e1;exact .inl e2
    ·obtain ⟨more,z2⟩:=un.tbls b _ z;rw [hT] at e;cases e;obtain ⟨oc,fs,file,tf,flags,tg,inF,text,tt,c1,c2,c3,c4,_⟩:=hc;have ht:s₁.heap.TableAt c b #[]:=⟨⟨oc,fs,c1,c2,c3,c4⟩,hT⟩;exact .inr (.inl ⟨ht.isCodeTable,rfl,#[],more,rfl,(hok' b _ z2)⟩)
 cases hk:K.lookup a with
 | some o=>
  have e:=KX a o hk;rw [ha] at e;cases e;refine core (λb=>if b=T then some (.tbl #[]) else none) (λb=>?_) (if_pos rfl) (.inr ⟨_,vs.toArray,_,hk,rfl,rfl,rfl,by rwa [List.size_toArray,hi.length],by simpa using rv⟩) (λb u z=>?_) (λb z=>?_) λz=>absurd (if_neg haT) z
  ·by_cases hb:b=T
   ·exact .inr (.inr ⟨hb,if_pos hb⟩)
   ·exact .inl (if_neg hb)
  ·by_cases hb:b=T
   ·have z':=(if_pos hb).symm.trans z;cases z';subst hb;exact hT
   ·have z':=(if_neg hb).symm.trans z;cases z'
  ·by_cases hb:b=T
   ·exact .inr hb
   ·exact absurd (if_neg hb) z
 | none=>
  refine core (λb=>if b=T then some (.tbl #[]) else if b=a then some (.frz { cls:=.type "list",data:=.seq vs.toArray } (.lst (ns.map V.int))) else none) (λb=>?_) (if_pos rfl)
   (.inl (.inr ⟨{ cls:=.type "list",data:=.seq vs.toArray },(if_neg haT).trans (if_pos rfl)⟩)) (λb u z=>?_) (λb z=>?_) λ_=>hk
  ·by_cases hb:b=T
   ·exact .inr (.inr ⟨hb,if_pos hb⟩)
   ·by_cases hb2:b=a
    ·exact .inr (.inl ⟨_,_,(if_neg hb).trans (if_pos hb2)⟩)
    ·exact .inl ((if_neg hb).trans (if_neg hb2))
  ·by_cases hb:b=T
   ·have z':=(if_pos hb).symm.trans z;cases z';subst hb;exact hT
   ·by_cases hb2:b=a
    ·have z':=((if_neg hb).trans (if_pos hb2)).symm.trans z;cases z';subst hb2;exact ⟨ha,by rwa [List.length_map],vs,_,rv,ha⟩
    ·have z':=((if_neg hb).trans (if_neg hb2)).symm.trans z;cases z'
  ·by_cases hb:b=T
   ·exact .inr hb
   ·by_cases hb2:b=a
    ·exact .inl hb2
    ·exact absurd ((if_neg hb).trans (if_neg hb2)) z
theorem walk_ofT {l:PySem.W.OpenLaw}{n k:Nat}{q:Program}{loose:List Str}{XP:(Str->Option Value)->Heap->Prop}{YP:World->Heap->Prop}{d:DefRec}{K:Params->PySem.W.Frag}{sp:World->Sp}{x:Str}{c T:Addr}
  (hn:l.most=some n) (hn2:n<=sizeLine) (hdf:d.params.defaults=[]) (hr:Room k callerA)
  (hY:∀ (w:World) (h:Heap),YP w h->(K w.params).In h/\h.get? T=some (tabObj #[])) (hc:∀ (w:World) (h:Heap),(K w.params).In h->CodeHd h c T) (hKT:∀ w:World,(K w.params).lookup T=none)
  (F:∀ (w:World) (mg:Str->Option Value) (fa:Addr) (h:Heap),(K w.params).In h->h.Ns mainGlobals mg->mg d.name=some (.ref fa) ->
   ∃ fd:FuncData,(∀ (s:Shared) (u:Value),BindsTo s fd ⟨[u],[]⟩ [(x,u)])/\∀ base:Heap,FnOk l.prog w (K w.params) mg base CX0 k fa fd [x] (sp w))
  (hsp:∀ (w:World) (H:Hp) (a:Addr) (ns:List Int),ns.length<=n->H T=some (.tbl #[])->SqL (K w.params) H a (ns.map V.int)->sp w [.ref a] H (λv _=>v = .bl true) λ_ _ _=>False) :
  PySem.W.WalkO q loose XP YP l.row.toRowW d [] (λf vs=>PySem.call f vs):=by
 refine Att.attach_call hn hdf λw s₀ s₁ mg mb fa o pm cd doc a vs ns G Y ho hd hcd hmg hobj hints hlen hg=>?_;obtain ⟨KX,hT⟩:=hY w _ Y;obtain ⟨fd,hb,hF⟩:=F w mg fa _ KX G.T.g hmg;exact law_callT KX hT (hc w _ KX) (hKT w) G.T.g G.T.b G.T.builtins G.T.nolimit hg hobj hints (Nat.le_trans hlen hn2) hr hF hb (λH hO hS=>hsp w H a ns hlen hO hS)
end L2
namespace L2
open PySem PySem.Spec PyProof.Rows PySem.W
structure PAi (X:Cx) (es:List Expr) (t:TA):Prop where
 go:PA X es t
structure PSi (X:Cx) (st:Stmt) (t:TS):Prop where
 go:PS X st t
structure PSsi (X:Cx) (st:List Stmt) (t:TS):Prop where
 go:PSs X st t
section
variable {X:Cx}
theorem bt_set:bootBuiltins "set" = some (.type "set"):=by decide +kernel
end
end L2
namespace L2
open PySem PySem.Spec PyProof.Rows PySem.W
section
variable {X:Cx}{pins:List (Addr×Obj)}{σ:St}{H:Hp}{s:Shared}
end
end L2
namespace L2
open PySem PySem.Spec PyProof.Rows PySem.W
section
variable {X:Cx}{pins:List (Addr×Obj)}{σ:St}{H:Hp}{s:Shared}
end
theorem comp_keys {g:TG}{tt:TT}{te:TE}{D:Addr}{Q:VK}{σ:St}{H:Hp}{a:Addr}{o:Obj}{kvs:List (Key×V)} (Pv:Nat->List V->St->Hp->Prop) (hD:H D=some (.lst [])) (h0:Pv 0 [] σ H) (hl:∀ i acc σ H,H D=some (.lst acc)->Pv i acc σ H->H a=some (.frz o (.dK kvs)))
  (hs:∀ i k v acc σ H,kvs[i]? = some (k,v)->H D=some (.lst acc)->Pv i acc σ H->g (kV k) σ H λσ2 H2=>tt σ2 H2 λb H3=>if b=true then te σ2 H3 λv H4=>∃ ys,H4 D=some (.lst ys)/\ys.length<sizeLine/\CN D (Pv (i+1)) σ2 (upd H4 D (.lst (ys++[v]))) else CN D (Pv (i+1)) σ2 H3)
  (hd:∀ acc σ H,H D=some (.lst acc)->Pv kvs.length acc σ H->Q (.ref D) H):CompW g tt te (Itk a o kvs) D Q σ H:=by
 refine comp_gen kvs.length Pv hD h0 (λi acc σ H hi hacc p=>⟨hi,hl i acc σ H hacc p⟩) (λacc σ H hacc p=>⟨Nat.le_refl _,hl _ acc σ H hacc p⟩) (λi acc σ H x H' hi hacc p y=>?_) hd;obtain ⟨e,y⟩:=y;subst e;have ek:=List.getElem?_eq_getElem hi;rw [ek] at y;have y':=Option.some.inj y;rw [<-y'];exact hs i _ _ acc σ _ ek hacc p
end L2
namespace L2
open PySem PySem.Spec PyProof.Rows PySem.W
section
variable {X:Cx}
def rInsI:V->List V->Hp->VK->Prop:=λx vs H Q=>∃ (l:Addr) (i:Nat) (y:V) (r:List V),x = .ref l/\vs=[.int (i:Int),y]/\H l=some (.lst r)/\i<=r.length/\r.length<sizeLine/\Q .non (upd H l (.lst (r.take i++y::r.drop i)))
theorem vals_take {xs:List V}{us:List Value} (h:Vals xs us):∀ i,Vals (xs.take i) (us.take i):=by
 induction h with
 | nil=>intro i;simpa using Paired.nil
 | cons r t ih=>
  intro i;cases i with
  | zero=>exact .nil
  | succ i=>simpa using Paired.cons r (ih i)
theorem vals_drop {xs:List V}{us:List Value} (h:Vals xs us):∀ i,Vals (xs.drop i) (us.drop i):=by
 induction h with
 | nil=>intro i;simpa using Paired.nil
 | cons r t ih=>
  intro i;cases i with
  | zero=>exact .cons r t
  | succ i=>simpa using ih i
theorem mt_insI:MtR X "list.insert" rInsI:=by
 intro pins s σ H x vs v us Q I rx rv h;obtain ⟨l,i,y,r,rfl,rfl,hH,hi,hz,q⟩:=h;cases rx;generalize hj:(i:Int)=j at rv;cases rv with
 | cons r1 rt=>
  obtain ⟨u,rfl,ru⟩:=Vals.one rt;obtain ⟨t',rfl⟩:=r1;obtain ⟨z,its,n,rr,hl,e⟩:=I.lstM hH;have hzl:=sizeLine_eq;have h1:¬ (!Builtin.List.listFitsIndex j)=true:=by
   rw [<-hj];unfold Builtin.List.listFitsIndex;have:i<10000000000000:=by lia
   simp;lia
  have M:=PySem.AutoSeq1.list_insert_list_int_val_1 l its.toArray n j t' u h1 (by rw [List.size_toArray];lia);refine call_meets F.slot_list_insert ⟨_,e,rfl⟩ F.entry_list_insert (F.args_list_insert_3 _ _ _) M ⟨e,?_⟩;refine ⟨.non,_,I.lset (its':=its.take i++u::its.drop i) hH e ?_ ((vals_take rr i).append (.cons ru (vals_drop rr i))) ?_,rfl,q⟩
  ·apply Array.toList_inj.mp;rw [<-hj];have:¬ (i:Int)<0:=by lia
   simp [this];rw [Nat.min_eq_left (by lia),show List.take (its.length - i) (its.drop i)=its.drop i from List.take_of_length_le (by rw [List.length_drop];exact Nat.le_refl _)]
  ·rw [List.length_append,List.length_cons,List.length_take,List.length_drop];lia
end
end L2
namespace LG
open PySem L2 PySem.Builtin PySem.Builtin.Str
def sgn (c:Nat):Bool:=decide (33<=c) && decide (c<=126) && decide (c≠37)
def dig (c:Nat):Bool:=decide (48<=c) && decide (c<=57)
def low (c:Nat):Bool:=decide (97<=c) && decide (c<=122)
def onlyB (p:Nat->Bool) (l:List Nat):Bool:=!l.isEmpty && l.all p
def unminus:List Nat->List Nat
 | 45::r=>r
 | l=>l
def kindL (l:List Nat):Nat:=if onlyB dig (unminus l)=true then 0 else if onlyB low l=true then 1 else 2
def wordB (z:Str):Bool:=onlyB sgn z.cps.toList
def kindT (z:Str):Nat:=kindL z.cps.toList
def kindW:Nat->Str
 | 0=> "number"
 | 1=> "name"
 | _=> "other"
def kindS:Nat->Str
 | 0=> "number"
 | 1=> "name"
 | _=> "any"
theorem str_ext {x y:Str} (h:x.cps.toList=y.cps.toList):x=y:=by
 cases x;cases y;simp only [Str.mk.injEq];exact Array.toList_inj.mp h
theorem takeWhile_all {α:Type}{p:α->Bool}:∀ {l:List α},(l.takeWhile p).length=l.length↔l.all p=true
 | []=>by simp
 | a::r=>by
  rw [List.takeWhile_cons,List.all_cons];by_cases h:p a=true
  ·rw [if_pos h,h,Bool.true_and];simp only [List.length_cons,Nat.add_right_cancel_iff];exact takeWhile_all
  ·rw [if_neg h];simp [h]
theorem strip_nil (z y:Str):decide (V.str (Txt.stripChars z y)=V.str "")=z.cps.toList.all (λc=>y.cps.contains c):=by
 have e:Txt.stripChars z y=strSub z (stripLo (λc=>y.cps.contains c) true z) (stripHi (λc=>y.cps.contains c) true z (stripLo (λc=>y.cps.contains c) true z)):=PyProof.Rows.stripBy_eq _ true true z;have h1:=PyProof.Rows.lo_facts (λc=>y.cps.contains c) z;have h2:=PyProof.Rows.hi_facts (λc=>y.cps.contains c) z (stripLo (λc=>y.cps.contains c) true z) h1.1;have hlo:stripLo (λc=>y.cps.contains c) true z=(z.cps.toList.takeWhile λc=>y.cps.contains c).length:=by simp [stripLo]
 have hz:z.length=z.cps.toList.length:=by simp [Str.length]
 (rw [Bool.eq_iff_iff,decide_eq_true_eq])
 constructor
 ·intro h;have h0:(Txt.stripChars z y).cps.size=0:=by
   have:Txt.stripChars z y = "" :=by injection h
   rw [this];rfl
  rw [e] at h0;have h3:stripHi (λc=>y.cps.contains c) true z (stripLo (λc=>y.cps.contains c) true z)<=stripLo (λc=>y.cps.contains c) true z:=by
   have h4:(Array.extract z.cps (stripLo (λc=>y.cps.contains c) true z) (stripHi (λc=>y.cps.contains c) true z (stripLo (λc=>y.cps.contains c) true z))).size=0:=h0;rw [Array.size_extract] at h4;have h6:z.length=z.cps.size:=rfl;lia
  rcases Nat.lt_or_ge (stripLo (λc=>y.cps.contains c) true z) z.length with hl | hl
  ·rcases h1.2.2 with q | q
   ·lia
   ·have:=h2.2.2.1 (stripLo (λc=>y.cps.contains c) true z) h3 hl;rw [q] at this;cases this
  ·have q:stripLo (λc=>y.cps.contains c) true z=z.length:=Nat.le_antisymm h1.1 hl;rw [hlo,hz] at q;exact takeWhile_all.mp q
 ·intro h;have h3:=takeWhile_all.mpr h;rw [<-hlo,<-hz] at h3;have:Txt.stripChars z y = "" :=by
   rw [e,h3];refine str_ext ?_;refine List.eq_nil_of_length_eq_zero ?_;show (Array.extract z.cps z.length _).toList.length=0;rw [Array.length_toList,Array.size_extract];have h6:z.length=z.cps.size:=rfl;lia
  rw [this]
theorem minus_eq (z:Str):(Txt.removeprefix z "-").cps.toList=unminus z.cps.toList:=by
 rw [StrLaws.removeprefix_eq];have h1:(("-" : Str)).length=1:=rfl;have h2:(("-" : Str)).cps = #[45]:=by decide +kernel
 rw [h1];have hz:z.length=z.cps.toList.length:=by simp [Str.length]
 have hs:subAt z "-" 0=(z.cps.extract 0 (0+1) == #[45]):=by
  unfold subAt;rw [h1,h2]
 rw [hs];cases e:z.cps.toList with
 | nil=>
  have h3:z.length=0:=by rw [hz,e];rfl
  rw [h3];simp [unminus,e]
 | cons a r=>
  have h3:z.length=r.length+1:=by rw [hz,e];rfl
  have h4:z.cps.extract 0 (0+1) = #[a]:=by
   apply Array.toList_inj.mp;rw [Array.toList_extract,e];simp
  rw [h4,h3];by_cases ha:a=45
  ·subst ha;simp [unminus]
  ·have h5:(#[a] == #[45])=false:=by
    rw [beq_eq_false_iff_ne];intro h;apply ha;simpa using h
   rw [h5];simp only [Bool.and_false,Bool.false_eq_true,if_false];rw [e];unfold unminus
   split
   ·rename_i q;cases q;exact (ha rfl).elim
   ·rfl
end LG
namespace LG
open PySem L2 PySem.Builtin PySem.Builtin.Str PySem.StrLaws
def isB (l:List Nat) (i:Nat):Bool:=decide (l[i]? = some 32)
theorem count_ix:∀ l:List Nat,(List.range l.length).countP (isB l)=l.count 32
 | []=>rfl
 | a::r=>by
  rw [List.length_cons,List.range_succ_eq_map,List.countP_cons,List.countP_map,List.count_cons];have e:(isB (a::r) ∘ Nat.succ)=isB r:=by rfl
  rw [e,count_ix r];have e2:isB (a::r) 0=(a == 32):=by rw [Bool.eq_iff_iff];simp [isB]
  rw [e2]
theorem sub_blank (z:Str) (i:Nat):subAt z " " i=isB z.cps.toList i:=by
 have h2:((" " : Str)).cps.toList=[32]:=by decide +kernel
 have h1:((" " : Str)).length=1:=rfl;rw [subAt_eq,h1,h2];unfold isB;cases e:z.cps.toList[i]? with
 | none=>
  grind [List.drop_of_length_le]
 | some c=>
  have hi:=ge_len e;rw [List.drop_eq_getElem_cons hi]
  grind
theorem occ_many (z:Str) (limit:Nat) (hl:z.length<limit):∀ (m k:Nat) (st:Array Nat×Nat),k+m<=z.length+1->st.1.size<=k->st.2<=k ->
  st.1.size+(List.range' k m).countP (isB z.cps.toList)<=(forIn (List.range' k m) st (occBody z " " z.length limit)).run.1.size
 | 0,k,st,_,_,_=>by
  exact Nat.le_refl _
 | m+1,k,st,hk,hs,hf=>by
  have h1:((" " : Str)).length=1:=rfl;rw [List.range'_succ,List.forIn_cons,List.countP_cons];unfold occBody;by_cases hb:isB z.cps.toList k=true
  ·have hkl:k<z.length:=by
    grind [isB,ge_len,Str.length]
   rw [if_pos hb,if_pos ⟨⟨⟨by lia,hf⟩,by rw [h1];lia⟩,by rwa [sub_blank]⟩];have ih:=occ_many z limit hl m (k+1) (st.1.push k,k+((" " : Str)).length) (by lia) (by simp_all) (by lia);have e:(st.1.push k,k+((" " : Str)).length).1.size=st.1.size+1:=by simp
   rw [e] at ih;refine Nat.le_trans ?_ ih;lia
  ·rw [if_neg hb,if_neg (by grind [sub_blank])];exact (occ_many z limit hl m (k+1) (st.1,st.2) (by lia) (by lia) (by lia))
theorem occ_count (z:Str):z.cps.toList.count 32<=(occurrences z " " 0 z.length (z.length+1)).length:=by
 rw [occ_eq];have h:=occ_many z (z.length+1) (Nat.lt_succ_self _) (z.length+1) 0 (#[],0) (by lia) (by simp) (Nat.le_refl _);have e:(List.range' 0 (z.length+1)).countP (isB z.cps.toList)=z.cps.toList.count 32:=by
  rw [<-List.range_eq_range',List.range_succ,List.countP_append];have hz:z.length=z.cps.toList.length:=by rfl
  have e2:isB z.cps.toList z.length=false:=by
   unfold isB
   simp_all
  rw [hz,count_ix,<-hz];simp [e2]
 simp_all
theorem split_size (z:Str):(Txt.split z " ").length=(occurrences z " " 0 z.length (z.length+1)).length+1\/(Txt.split z " " = [z]/\z.cps.toList.count 32=0):=by
 unfold Txt.split
 split
 ·rename_i h
  right
  refine ⟨rfl,?_⟩;rw [Bool.or_eq_true,decide_eq_true_eq,decide_eq_true_eq] at h;have h1:((" " : Str)).length=1:=rfl;rcases h with h | h
  ·have hz:z.cps.toList=[]:=List.eq_nil_of_length_eq_zero (by rw [Array.length_toList];have:z.length=z.cps.size:=rfl;lia);rw [hz];rfl
  ·exfalso;have e:PySem.Builtin.Str.strKind (" " : Str)=1:=by decide +kernel
   grind [PySem.Builtin.Str.strKind]
 ·split
  ·simp_all
  ·left
   rw [length_partsBetween]
theorem count_join (ts:List Str) (hne:ts≠[]):(Str.join " " ts).cps.toList.count 32=(ts.map λt=>t.cps.toList.count 32).sum+(ts.length - 1):=by
 have h2:((" " : Str)).cps.toList=[32]:=by decide +kernel
 induction ts with
 | nil=>exact (hne rfl).elim
 | cons x r ih=>
  cases r with
  | nil=>show x.cps.toList.count 32=_;simp
  | cons y r=>
   have e:Str.join " " (x::y::r)=x ++ " " ++ Str.join " " (y::r):=rfl
   grind [Str.join,Str.cps_append,Array.toList_append,List.count_append,List.map_cons,List.sum_cons,List.length_cons,List.count_singleton_self]
theorem sum_zero:∀ {l:List Nat},l.sum=0->∀ x∈l,x=0
 | [],_,x,h=>by cases h
 | a::r,hs,x,h=>by
  simp only [List.sum_cons] at hs
  (rcases List.mem_cons.mp h with rfl | h)
  ·lia
  ·exact sum_zero (by lia) x h
theorem split_free (z:Str):∀ x∈Txt.split z " ",32∉x.cps.toList:=by
 intro x hx;have hc:=count_join (Txt.split z " ") (by grind);rw [(StrLaws.join_split z " ")] at hc;rcases split_size z with h | h
 ·rw [h] at hc;have h3:=occ_count z;have h4:(List.map (λt:Str=>t.cps.toList.count 32) (Txt.split z " ")).sum=0:=by lia
  exact List.count_eq_zero.mp (sum_zero h4 (x.cps.toList.count 32) (List.mem_map.mpr ⟨x,hx,rfl⟩))
 ·grind
theorem app_inj {a b c d:List Nat} (h:a++32::b=c++32::d) (ha:32∉a) (hc:32∉c):a=c/\b=d:=by
 induction a generalizing c with
 | nil=>
  cases c with
  | nil=>simp at h;exact ⟨rfl,h⟩
  | cons e c=>simp at h;exact (hc (by simp [<-h.1])).elim
 | cons e a ih=>
  cases c with
  | nil=>simp at h;exact (ha (by simp [h.1])).elim
  | cons e' c=>
   simp_all
theorem joinL (x y:Str) (r:List Str):(Str.join " " (x::y::r)).cps.toList=x.cps.toList++32::(Str.join " " (y::r)).cps.toList:=by
 have h2:((" " : Str)).cps.toList=[32]:=by decide +kernel
 have e:Str.join " " (x::y::r)=x ++ " " ++ Str.join " " (y::r):=rfl
 grind [Str.cps_append,Array.toList_append,List.append_assoc,List.singleton_append]
theorem join_inj:∀ {ts us:List Str},ts≠[]->us≠[]->(∀ x∈ts,32∉x.cps.toList)->(∀ x∈us,32∉x.cps.toList)->(Str.join " " ts).cps.toList=(Str.join " " us).cps.toList->ts=us
 | [x],[y],_,_,_,_,h=>by rw [str_ext (x:=x) (y:=y) h]
 | [x],y::y2::r,_,_,hx,_,h=>by
  grind [joinL,Str.join]
 | x::x2::r,[y],_,_,_,hy,h=>by
  grind [joinL,Str.join]
 | x::x2::r,y::y2::q,_,_,hx,hy,h=>by
  rw [joinL,joinL] at h;obtain ⟨h1,h2⟩:=app_inj h (hx x (by simp)) (hy y (by simp));have:=join_inj (ts:=x2::r) (us:=y2::q) (by simp) (by simp) (λz hz=>hx z (List.mem_cons_of_mem _ hz)) (λz hz=>hy z (List.mem_cons_of_mem _ hz)) h2;rw [str_ext h1,this]
theorem split_join {ws:List Str} (hne:ws≠[]) (h:∀ x∈ws,32∉x.cps.toList):Txt.split (Txt.join " " ws) " " = ws:=by
 have e:Txt.join " " ws=Str.join " " ws:=StrLaws.glued_eq_join " " ws;refine join_inj ?_ hne (split_free _) h ?_
 ·grind [L2.split_len1,Txt.join,absurd]
 ·grind [StrLaws.join_split,Txt.join]
end LG
namespace LG
open PySem L2 PySem.Builtin PySem.Builtin.Str
theorem has_range (y:Str) (p:Nat->Bool) (h1:∀ c<200,y.cps.contains c=p c) (h2:∀ x∈y.cps.toList,x<200) (h3:∀ c,200<=c->p c=false):(λc=>y.cps.contains c)=p:=by
 grind
theorem sgn_far (c:Nat) (h:200<=c):sgn c=false:=by grind [sgn,decide_eq_false]
theorem dig_far (c:Nat) (h:200<=c):dig c=false:=by grind [dig,decide_eq_false]
theorem low_far (c:Nat) (h:200<=c):low c=false:=by grind [low,decide_eq_false]
@[irreducible] def FIGS:Str:= "0123456789"
@[irreducible] def LOWS:Str:= "abcdefghijklmnopqrstuvwxyz"
@[irreducible] def SIGNS:Str:= "!\"#$&'()*+,-./0123456789:;<=>?@ABCDEFGHIJKLMNOPQRSTUVWXYZ[\\]^_`abcdefghijklmnopqrstuvwxyz{|}~"
theorem FIGS_is:FIGS = "0123456789" :=by unfold FIGS;rfl
theorem LOWS_is:LOWS = "abcdefghijklmnopqrstuvwxyz" :=by unfold LOWS;rfl
theorem SIGNS_is:SIGNS = "!\"#$&'()*+,-./0123456789:;<=>?@ABCDEFGHIJKLMNOPQRSTUVWXYZ[\\]^_`abcdefghijklmnopqrstuvwxyz{|}~" :=by unfold SIGNS;rfl
theorem has_figs:(λc=>FIGS.cps.contains c)=dig:=has_range _ _ (by decide +kernel) (by decide +kernel) dig_far
theorem has_lows:(λc=>LOWS.cps.contains c)=low:=has_range _ _ (by decide +kernel) (by decide +kernel) low_far
theorem has_signs:(λc=>SIGNS.cps.contains c)=sgn:=has_range _ _ (by decide +kernel) (by decide +kernel) sgn_far
theorem dec_nil (z:Str):decide (V.str z=V.str "")=z.cps.toList.isEmpty:=by
 rw [Bool.eq_iff_iff,decide_eq_true_eq,List.isEmpty_iff];constructor
 ·intro h;have:z = "" :=by injection h
  rw [this];rfl
 ·intro h;have:z = "" :=str_ext (by rw [h];rfl);rw [this]
theorem only_eq (z y:Str):((!decide (V.str z=V.str "")) && decide (V.str (Txt.stripChars z y)=V.str ""))=onlyB (λc=>y.cps.contains c) z.cps.toList:=by
 rw [dec_nil,strip_nil];rfl
theorem kindW_inj {i j:Nat} (hi:i<3) (hj:j<3):decide (V.str (kindW i)=V.str (kindW j))=decide (i=j):=by
 match i,j,hi,hj with
 | 0,0,_,_=>decide +kernel
 | 0,1,_,_=>decide +kernel
 | 0,2,_,_=>decide +kernel
 | 1,0,_,_=>decide +kernel
 | 1,1,_,_=>decide +kernel
 | 1,2,_,_=>decide +kernel
 | 2,0,_,_=>decide +kernel
 | 2,1,_,_=>decide +kernel
 | 2,2,_,_=>decide +kernel
theorem kindL_lt (l:List Nat):kindL l<3:=by
 grind [kindL]
def lawKindL (l:List Nat):Nat:=if onlyB dig (unminus l)=true then 0 else if l.all low=true then 1 else 2
theorem lawKind_eq {l:List Nat} (h:l≠[]):lawKindL l=kindL l:=by
 unfold lawKindL kindL;have:onlyB low l=l.all low:=by
  unfold onlyB;cases l with
  | nil=>exact (h rfl).elim
  | cons a r=>simp
 rw [this]
theorem pick_all (z:Str):∀ (n a:Nat),a+n<=z.cps.toList.length->((List.range n).map λk=>a+k).filterMap (λi=>z.cps[i]?)=(z.cps.toList.drop a).take n
 | 0,a,_=>by simp
 | n+1,a,h=>by
  rw [List.range_succ,List.map_append,List.filterMap_append,pick_all z n a (by lia)]
  grind [Array.getElem?_toList,List.getElem?_eq_getElem,List.map_cons,List.map_nil,List.filterMap_cons,List.filterMap_nil,List.take_succ,List.getElem?_drop]
theorem slice_idx (z:Str) {l u:Option Int}{a n:Nat} (h:strSliceIndices l u 1 z.length=(List.range n).map λk=>a+k) (hn:a+n<=z.length):(Txt.slice z l u).cps.toList=(z.cps.toList.drop a).take n:=by
 have hz:z.length=z.cps.toList.length:=by rfl
 unfold Txt.slice;rw [h]
 split
 ·rename_i hc;have hc':n=z.length:=by simpa using hc
  have ha:a=0:=by lia
  grind
 ·show (List.toArray _).toList=_;rw [List.toList_toArray]
  grind [pick_all]
theorem slice_head (z:Str):(Txt.slice z none (some 1)).cps.toList=z.cps.toList.take 1:=by
 have hz:z.length=z.cps.toList.length:=by rfl
 have h:strSliceIndices none (some 1) 1 z.length=(List.range (min 1 z.length)).map λk=>0+k:=by
  (unfold strSliceIndices sliceRange)
  simp only [show (1:Int) > 0 by decide,if_true,show ¬ (1:Int)<0 by decide,if_false];have e:(if (0:Int)<max 0 (min 1 (z.length:Int)) then (max 0 (min 1 (z.length:Int)) - 0+1 - 1) / 1 else 0).toNat=min 1 z.length:=by
   split <;> lia
  rw [e]
  (refine List.map_congr_left λk _=>?_)
  lia
 rw [slice_idx z h (by lia),List.drop_zero]
 simp_all
theorem slice_tail (z:Str):(Txt.slice z (some 1) none).cps.toList=z.cps.toList.drop 1:=by
 have hz:z.length=z.cps.toList.length:=by rfl
 have h:strSliceIndices (some 1) none 1 z.length=(List.range (z.length - 1)).map λk=>min 1 z.length+k:=by
  (unfold strSliceIndices sliceRange)
  simp only [show (1:Int) > 0 by decide,if_true,show ¬ (1:Int)<0 by decide,if_false];have e:(if max 0 (min 1 (z.length:Int))<(z.length:Int) then ((z.length:Int) - max 0 (min 1 (z.length:Int))+1 - 1) / 1 else 0).toNat=z.length - 1:=by
   split <;> lia
  grind
 rw [slice_idx z h (by lia)]
 grind [Nat.eq_zero_or_pos,List.eq_nil_of_length_eq_zero,Nat.min_eq_left,List.take_of_length_le,List.length_drop]
theorem dash_head (z:Str):decide (V.str (Txt.slice z none (some 1))=V.str "-")=decide (z.cps.toList.head? = some 45):=by
 have h2:(("-" : Str)).cps.toList=[45]:=by decide +kernel
 (rw [Bool.eq_iff_iff,decide_eq_true_eq,decide_eq_true_eq])
 constructor
 ·intro h;have e:Txt.slice z none (some 1) = "-" :=by injection h
  have e2:=slice_head z;rw [e,h2] at e2;cases q:z.cps.toList with
  | nil=>rw [q] at e2;simp at e2
  | cons a r=>rw [q] at e2;simp at e2;simp [e2]
 ·intro h;have e:Txt.slice z none (some 1) = "-" :=by
   refine str_ext ?_;rw [slice_head,h2];cases q:z.cps.toList with
   | nil=>rw [q] at h;simp at h
   | cons a r=>rw [q] at h;simp at h;simp [h]
  rw [e]
theorem unminus_yes {l:List Nat} (h:l.head? = some 45):l.drop 1=unminus l:=by
 cases l with
 | nil=>simp at h
 | cons a r=>simp at h;subst h;rfl
theorem unminus_no {l:List Nat} (h:l.head? ≠ some 45):l=unminus l:=by
 cases l with
 | nil=>rfl
 | cons a r=>
  unfold unminus
  simp_all
theorem lt1 (a b:Nat):decide ([a] < [b])=decide (a<b):=by
 (rw [Bool.eq_iff_iff,decide_eq_true_eq,decide_eq_true_eq])
 constructor
 ·intro h;cases h with
  | rel h=>exact h
  | cons h=>cases h
 ·intro h;exact List.Lex.rel h
end LG
namespace LG
open PySem L2 PySem.Builtin PySem.Builtin.Str
theorem le1 (a b:Nat):(!decide (([b]:List Nat) < [a]))=decide (a<=b):=by
 rw [lt1];lia
theorem not_betweenX {a b:Str}{lo hi c:Nat} (ha:a=⟨#[lo]⟩) (hb:b=⟨#[hi]⟩) {H2:Hp}{R:Bool->Hp->Prop} (h:R (!(decide (lo<=c) && decide (c<=hi))) H2) :
  tNot (tTest (tChain (λx y H Q=>∃ i j,x = .str i/\y = .str j/\Q (.bl (!decide (j.cps.toList<i.cps.toList))) H) (λx y H Q=>∃ i j,x = .str i/\y = .str j/\Q (.bl (!decide (j.cps.toList<i.cps.toList))) H) (tC (.str a)) (tVar 0) (tC (.str b)))) [some (.str ⟨#[c]⟩)] H2 R:=by
 subst ha hb;refine ⟨_,rfl,_,_,rfl,rfl,_,rfl,?_⟩;rw [(le1 lo c)];by_cases h1:lo<=c
 ·rw [decide_eq_true h1] at h ⊢;rw [if_pos rfl];refine ⟨_,_,rfl,rfl,_,rfl,?_⟩;rw [(le1 c hi)]
  rwa [Bool.true_and] at h
 ·lia
def sg (c:Nat):Str:=⟨#[c]⟩
section
variable {K:PySem.W.Frag}{tt:TT}{D:Addr}{Q:VK}{H:Hp}
theorem comp_signsX {z:Str} (f:Nat->Bool) (hz:PyData.strOk z=true) (hl:z.length<=1000000) (hD:H D=none) (ht:∀ (c:Nat) (H2:Hp) (R:Bool->Hp->Prop),R (f c) H2->tt [some (.str ⟨#[c]⟩)] H2 R)
  (hq:∀ (H2:Hp),Same H H2->H2 D=some (.lst (((z.cps.toList.filter f).map sg).map V.str))->Q (.ref D) H2) :
  CompW (gName 0) tt (tVar 0) (Its z) D Q [none] (upd H D (.lst [])):=by
 have hzl:z.length=z.cps.toList.length:=by rfl
 refine comp_str (λi acc σ H2=>(∃ u,σ=[u])/\Same H H2/\acc=((((z.cps.toList.take i).filter f).map sg).map V.str)) upd_same ⟨⟨_,rfl⟩,Same.new hD,rfl⟩ (λi c acc σ H2 hc hDx p=>?_) (λacc σ H2 hDx p=>?_)
 ·obtain ⟨⟨u,rfl⟩,s2,rfl⟩:=p;have hc':z.cps.toList[i]? = some c:=by simp_all
  have hi:=ge_len hc';have et:z.cps.toList.take (i+1)=z.cps.toList.take i++[c]:=by rw [List.take_add_one,hc'];rfl
  have hlen:((((z.cps.toList.take i).filter f).map sg).map V.str).length<=i:=by
   grind
  refine ht _ _ _ ?_;cases hf:f c with
  | true=>
   refine iteT ?_;refine ⟨_,rfl,_,hDx,small (by lia),_,upd_same,⟨_,rfl⟩,snap_upd hD s2,?_⟩;rw [et,List.filter_append,List.map_append,List.map_append];simp [hf,sg]
  | false=>
   refine iteF ⟨_,hDx,⟨_,rfl⟩,s2,?_⟩
   simp_all
 ·grind
theorem ok_sg {z:Str} (hz:PyData.strOk z=true) {f:Nat->Bool}:∀ x∈(z.cps.toList.filter f).map sg,PyData.strOk x=true:=λx hx=>by
 obtain ⟨c,hc,rfl⟩:=List.mem_map.mp hx
 grind [mem_of_ok,ok_of_mem,sg]
theorem no_signsX {σ:St}{i:Nat}{z:Str}{R:Bool->Hp->Prop} (f:Nat->Bool) (hs:σ[i]? = some (some (.str z))) (hz:PyData.strOk z=true) (hl:z.length<=1000000) (ht:∀ (c:Nat) (H2:Hp) (R:Bool->Hp->Prop),R (f c) H2->tt [some (.str ⟨#[c]⟩)] H2 R)
  (h:∀ H',Same H H'->R (z.cps.toList.all λc=>!f c) H'):tTest (tOp (rEqD K) (tComp (iStr (tVar i)) (gName 0) tt (tVar 0) 1 []) (tLst tNil)) σ H R:=by
 refine ⟨_,hs,z,rfl,λD hD=>?_⟩;refine comp_signsX f hz hl hD ht λH2 s2 hD2=>?_;refine ⟨Nat.zero_le _,λp hp=>?_⟩;refine ⟨.list (((z.cps.toList.filter f).map sg).map .str),.list [],.lst (.of (by rwa [upd_ne (ne_of_none hD2 hp)])) (dens_strs (ok_sg hz)),.lst (.of upd_same) .nil,?_,_,rfl,?_⟩
 ·have:PyData.depthAll (((z.cps.toList.filter f).map sg).map PyData.str)<=0:=depthAll_le _ λd hd=>by
   obtain ⟨x,_,rfl⟩:=List.mem_map.mp hd;exact Nat.le_refl _
  show PyData.depthAll _+1<=100;lia
 ·have e:PyData.eqv (.list (((z.cps.toList.filter f).map sg).map .str)) (.list [])=z.cps.toList.all λc=>!f c:=by
   have:PyData.eqv (.list (((z.cps.toList.filter f).map sg).map .str)) (.list [])=(z.cps.toList.filter f).isEmpty:=by
    cases z.cps.toList.filter f with
    | nil=>rfl
    | cons a r=>rfl
   rw [this,Bool.eq_iff_iff,List.isEmpty_iff,List.filter_eq_nil_iff,List.all_eq_true];simp
  rw [e];exact h _ (s2.trans (Same.new hp))
end
inductive Pt where
 | word (w:Str)
 | hole (k:Nat)
 deriving DecidableEq
def Pt.dat:Pt->PyData
 | .word w=>.tuple [.str "word",.str w]
 | .hole k=>.tuple [.str "hole",.str (kindS k)]
def TOk (w:Str):Prop:=w.length<=10000/\PyData.strOk w=true
def Pt.ok:Pt->Prop
 | .word w=>TOk w
 | .hole k=>k<3
def patD (ps:List Pt):PyData:=.list (ps.map Pt.dat)
def POk (ps:List Pt):Prop:=ps.length<=10000/\∀ p∈ps,p.ok
def Pt.takes:Pt->Str->Bool
 | .word x,w=>decide (w=x)
 | .hole 0,w=>decide (kindT w=0)
 | .hole 1,w=>decide (kindT w=1)
 | .hole _,w=>wordB w
def takesAll (ps:List Pt) (ws:List Str):Bool:=decide (ps.length=ws.length) && (ps.zip ws).all λp=>p.1.takes p.2
def Pt.within:Pt->Pt->Bool
 | .word x,q=>q.takes x
 | .hole k,q=>decide (q = .hole k) || decide (q = .hole 2)
def withinAll (ps qs:List Pt):Bool:=decide (ps.length=qs.length) && (ps.zip qs).all λp=>p.1.within p.2
def Pt.loose:Pt->Int
 | .word _=>0
 | .hole 0=>1
 | .hole 1=>1
 | .hole _=>2
def Pt.around:Pt->Nat
 | .word w=>kindT w
 | .hole k=>k
def joinP (ps:List Pt):Pt:=match ps with
 | []=>.hole 2
 | p::r=>if r.all (λq=>decide (q=p))=true then p else if r.all (λq=>decide (q.around=p.around))=true then .hole p.around else .hole 2
theorem kindS_inj {i j:Nat} (hi:i<3) (hj:j<3) (h:kindS i=kindS j):i=j:=by
 have key:∀ i<3,∀ j<3,kindS i=kindS j->i=j:=by decide +kernel
 exact key i hi j hj h
theorem dat_inj {p q:Pt} (hp:p.ok) (hq:q.ok) (h:p.dat=q.dat):p=q:=by
 cases p with
 | word w=>
  cases q with
  | word w'=>simp [Pt.dat] at h;rw [h]
  | hole k=>
   have:("word" : Str) ≠ "hole" :=by decide +kernel
   grind [Pt.dat]
 | hole k=>
  cases q with
  | word w'=>
   have:("hole" : Str) ≠ "word" :=by decide +kernel
   grind [Pt.dat]
  | hole k'=>
   simp [Pt.dat] at h;rw [kindS_inj hp hq h]
def ptSh:Sh:=.tcons .str (.tcons .str .tnil)
theorem sh_pt (p:Pt):ptSh.has p.dat:=by
 cases p with
 | word w=>exact ⟨_,_,rfl,⟨_,rfl⟩,_,_,rfl,⟨_,rfl⟩,rfl⟩
 | hole k=>exact ⟨_,_,rfl,⟨_,rfl⟩,_,_,rfl,⟨_,rfl⟩,rfl⟩
theorem pt_eqv {p q:Pt} (hp:p.ok) (hq:q.ok):PyData.eqv p.dat q.dat=decide (p=q):=by
 rw [Bool.eq_iff_iff,decide_eq_true_eq,(Sh.ok ptSh).eqv _ _ (sh_pt p) (sh_pt q)]
 grind [dat_inj]
theorem dep_dat (pt:Pt):pt.dat.depth<=5:=by cases pt <;> simp [Pt.dat,PyData.depth,PyData.depthAll]
theorem dep_patD (ps:List Pt):(patD ps).depth<=90:=by
 have h:PyData.depthAll (ps.map Pt.dat)<=5:=depthAll_le _ λd hd=>by
  obtain ⟨pt,_,rfl⟩:=List.mem_map.mp hd;exact dep_dat pt
 grind [patD,PyData.depth]
theorem den_strI {K:PySem.W.Frag}{H:Hp}{v:V}{x:Str} (h:Den K H v (.str x)):v = .str x/\PyData.strOk x=true:=by
 cases h with
 | str q=>exact ⟨rfl,q⟩
theorem den_two {K:PySem.W.Frag}{H:Hp}{v:V}{x y:Str} (h:Den K H v (.tuple [.str x,.str y])):∃ a,v = .ref a/\SqT K H a [.str x,.str y]/\PyData.strOk x=true/\PyData.strOk y=true:=by
 cases h with
 | tup hq t=>
  cases t with
  | cons h1 t=>cases t with
   | cons h2 t=>
    cases t;obtain ⟨rfl,q1⟩:=den_strI h1;obtain ⟨rfl,q2⟩:=den_strI h2;exact ⟨_,rfl,hq,q1,q2⟩
theorem den_pt {K:PySem.W.Frag}{H:Hp}{v:V}{pt:Pt} (h:Den K H v pt.dat):∃ a x y,v = .ref a/\SqT K H a [.str x,.str y]/\PyData.strOk x=true/\PyData.strOk y=true/\(match pt with | .word w=>x = "word" /\ y=w | .hole k=>x = "hole" /\ y=kindS k):=by
 cases pt with
 | word w=>obtain ⟨a,rfl,hq,q1,q2⟩:=den_two h;exact ⟨a,_,_,rfl,hq,q1,q2,rfl,rfl⟩
 | hole k=>obtain ⟨a,rfl,hq,q1,q2⟩:=den_two h;exact ⟨a,_,_,rfl,hq,q1,q2,rfl,rfl⟩
theorem den_pat {K:PySem.W.Frag}{H:Hp}{v:V}{ps:List Pt} (h:Den K H v (patD ps)):∃ a xs,v = .ref a/\SqL K H a xs/\Dens K H xs (ps.map Pt.dat):=by
 cases h with
 | lst hq t=>exact ⟨_,_,rfl,hq,t⟩
end LG
namespace LG
open PySem L2 PySem.Builtin PySem.Builtin.Str
def LOk (w:Str):Prop:=w.length<=10000
theorem LOk.s {w:Str} (h:LOk w):w.length<=sizeLine:=Nat.le_trans h (by decide)
def sp_has_only (K:PySem.W.Frag):Sp:=λvs H Q _=>∃ z y:Str,vs=[.str z,.str y]/\LOk z/\Q (.bl (onlyB (λc=>y.cps.contains c) z.cps.toList)) H
def sp_is_word (K:PySem.W.Frag):Sp:=λvs H Q _=>∃ z:Str,vs=[.str z]/\LOk z/\Q (.bl (wordB z)) H
def sp_kind_of (K:PySem.W.Frag):Sp:=λvs H Q _=>∃ z:Str,vs=[.str z]/\LOk z/\Q (.str (kindW (kindT z))) H
def sp_words_of (K:PySem.W.Frag):Sp:=λvs H Q _=>∃ z:Str,vs=[.str z]/\LOk z/\∀ l,H l=none->Q (.ref l) (upd H l (.lst ((Txt.split z " ").map V.str)))
def sp_is_hole (K:PySem.W.Frag):Sp:=λvs H Q _=>∃ v pt,vs=[v]/\Den K H v (Pt.dat pt)/\Q (.bl (match pt with | .hole _=>true | _=>false)) H
def sp_part_takes (K:PySem.W.Frag):Sp:=λvs H Q _=>∃ (v:V) (w:Str) (p:Pt),vs=[v,.str w]/\Den K H v p.dat/\p.ok/\LOk w/\Q (.bl (p.takes w)) H
def sp_all_taken (K:PySem.W.Frag):Sp:=λvs H Q _=>∃ (a b:Addr) (xs:List V) (ps:List Pt) (ws:List Str),vs=[.ref a,.ref b]/\SqL K H a xs/\Dens K H xs (ps.map Pt.dat)/\(∀ p∈ps,p.ok)/\SqL K H b (ws.map V.str)/\(∀ w∈ws,LOk w)/\∀ H',Same H H'->Q (.bl (takesAll ps ws)) H'
def sp_fits (K:PySem.W.Frag):Sp:=λvs H Q _=>∃ (v:V) (z:Str) (ps:List Pt),vs=[v,.str z]/\Den K H v (patD ps)/\(∀ p∈ps,p.ok)/\LOk z/\PyData.strOk z=true/\∀ H',Same H H'->Q (.bl (takesAll ps (Txt.split z " "))) H'
def sp_kind_of_hole_around (K:PySem.W.Frag):Sp:=λvs H Q _=>∃ (v:V) (p:Pt),vs=[v]/\Den K H v p.dat/\p.ok/\Q (.str (kindS p.around)) H
def sp_looseness_of_part (K:PySem.W.Frag):Sp:=λvs H Q _=>∃ (v:V) (p:Pt),vs=[v]/\Den K H v p.dat/\p.ok/\Q (.int p.loose) H
def sp_looseness (K:PySem.W.Frag):Sp:=λvs H Q _=>∃ (v:V) (ps:List Pt),vs=[v]/\Den K H v (patD ps)/\POk ps/\∀ D H',H D=none->Same H H'->H' D=some (.lst (ps.map λp=>.int p.loose))->Q (.ref D) H'
def sp_joined_part (K:PySem.W.Frag):Sp:=λvs H Q _=>∃ (a:Addr) (xs:List V) (ps:List Pt),vs=[.ref a]/\SqL K H a xs/\Dens K H xs (ps.map Pt.dat)/\ps≠[]/\POk ps/\∀ r H',Same H H'->Den K H' r (joinP ps).dat->Q r H'
theorem around_lt {p:Pt} (h:p.ok):p.around<3:=by
 cases p with
 | word w=>exact kindL_lt _
 | hole k=>exact h
theorem kindS_ok {k:Nat}:PyData.strOk (kindS k)=true:=by
 match k with
 | 0=>decide +kernel
 | 1=>decide +kernel
 | (n+2)=>show PyData.strOk (kindS 2)=true;decide +kernel
theorem hole_any {k:Nat} (hk:k<3):decide (V.str (kindS k)=V.str "any")=decide (k=2):=by
 match k,hk with
 | 0,_=>decide +kernel
 | 1,_=>decide +kernel
 | 2,_=>decide +kernel
theorem kind_hole {k:Nat} (hk:k<2) (w:Str):decide (V.str (kindW (kindT w))=V.str (kindS k))=decide (kindT w=k):=by
 have h:kindS k=kindW k:=by
  match k,hk with
  | 0,_=>rfl
  | 1,_=>rfl
 rw [h];exact kindW_inj (kindL_lt _) (by lia)
theorem kindT_lt (z:Str):kindT z<3:=kindL_lt _
theorem minus_len (z:Str):(Txt.removeprefix z "-").length<=z.length:=by
 have h1:(Txt.removeprefix z "-").length=(Txt.removeprefix z "-").cps.toList.length:=by rfl
 have h2:z.length=z.cps.toList.length:=by rfl
 rw [h1,(minus_eq z),h2];generalize z.cps.toList=l;unfold unminus
 split <;> simp
theorem takes_len {ps:List Pt}{ws:List Str} (h:ps.length≠ws.length):takesAll ps ws=false:=by unfold takesAll;rw [decide_eq_false h];rfl
theorem zip_none {α β:Type}{f:α×β->Bool}{xs:List α}{ys:List β}{i:Nat}{x:α}{y:β} (hx:xs[i]? = some x) (hy:ys[i]? = some y) (h:f (x,y)=false):(xs.zip ys).all f=false:=by
 rw [Bool.eq_false_iff];intro q;rw [List.all_eq_true] at q;have hm:(x,y)∈xs.zip ys:=by
  refine List.mem_of_getElem? (i:=i) ?_
  grind
 rw [q _ hm] at h;cases h
theorem zip_all {α β:Type}{f:α×β->Bool}{xs:List α}{ys:List β} (h:∀ (i:Nat) x y,i<min xs.length ys.length->xs[i]? = some x->ys[i]? = some y->f (x,y)=true):(xs.zip ys).all f=true:=by
 grind [List.all_eq_true,List.getElem?_of_mem,List.getElem?_zip_eq_some,ge_len]
theorem dens_pt {K:PySem.W.Frag}{H:Hp}{xs:List V}{ps:List Pt}{i:Nat}{x:V} (h:Dens K H xs (ps.map Pt.dat)) (hx:xs[i]? = some x):∃ p,ps[i]? = some p/\Den K H x p.dat:=by
 obtain ⟨d,hd,hden⟩:=h.get hx
 grind
theorem strs_at {ws:List Str}{i:Nat}{y:V} (h:(ws.map V.str)[i]? = some y):∃ w,ws[i]? = some w/\y = .str w:=by
 grind
theorem pt_limL {K:PySem.W.Frag}{H0 H4 H':Hp} (ll:LL H0 H4) (s:Same H4 H') {v:V}{pt:Pt} (h:Den K H4 v pt.dat):Den K (lim H0 H') v pt.dat:=by
 cases pt with
 | word w=>obtain ⟨a,rfl,hq,q1,q2⟩:=den_two h;exact .tup (hq.limL ll s) (.cons (.str q1) (.cons (.str q2) .nil))
 | hole k=>obtain ⟨a,rfl,hq,q1,q2⟩:=den_two h;exact .tup (hq.limL ll s) (.cons (.str q1) (.cons (.str q2) .nil))
def joinAll (pss:List (List Pt)) (n:Nat):List Pt:=(List.range n).map λi=>joinP (pss.map λps=>ps.getD i (.hole 2))
def sp_joined (K:PySem.W.Frag):Sp:=λvs H Q _=>∃ (a:Addr) (xs:List V) (pss:List (List Pt)) (n:Nat),vs=[.ref a]/\SqL K H a xs/\Dens K H xs (pss.map patD)/\pss≠[]/\pss.length<=10000/\(∀ ps∈pss,POk ps/\ps.length=n) /\
 ∀ D acc H',H D=none->Same H H'->H' D=some (.lst acc)->Dens K (lim H H') acc ((joinAll pss n).map Pt.dat)->Q (.ref D) H'
theorem joinAll_next (pss:List (List Pt)) (n:Nat):joinAll pss (n+1)=joinAll pss n++[joinP (pss.map λps=>ps.getD n (.hole 2))]:=by simp [joinAll,List.range_succ]
theorem dens_pat {K:PySem.W.Frag}{H:Hp}{xs:List V}{pss:List (List Pt)}{i:Nat}{x:V} (h:Dens K H xs (pss.map patD)) (hx:xs[i]? = some x):∃ ps,pss[i]? = some ps/\Den K H x (patD ps):=by
 obtain ⟨d,hd,hden⟩:=h.get hx
 grind
end LG
namespace LG
open PySem L2
def Pt.key:Pt->PyData
 | .word w=>.tuple [.int 0,.int w.length,.str w]
 | .hole k=>.tuple [.int 1,.int k,.str ""]
def keyD (ps:List Pt):PyData:=.tuple [.int ps.length,.list (ps.map Pt.key)]
theorem dep_key (pt:Pt):pt.key.depth<=5:=by cases pt <;> simp [Pt.key,PyData.depth,PyData.depthAll]
theorem dep_keyD (ps:List Pt):(keyD ps).depth<=100:=by
 have h:PyData.depthAll (ps.map Pt.key)<=5:=depthAll_le _ λd hd=>by
  obtain ⟨pt,_,rfl⟩:=List.mem_map.mp hd;exact dep_key pt
 grind [keyD,PyData.depth,PyData.depthAll]
def partSh:Sh:=.tcons .int (.tcons .int (.tcons .str .tnil))
def keySh:Sh:=.tcons (.list partSh) .tnil
theorem sh_part (pt:Pt):partSh.has pt.key:=by
 cases pt with
 | word w=>exact ⟨_,_,rfl,⟨_,rfl⟩,_,_,rfl,⟨_,rfl⟩,_,_,rfl,⟨_,rfl⟩,rfl⟩
 | hole k=>exact ⟨_,_,rfl,⟨_,rfl⟩,_,_,rfl,⟨_,rfl⟩,_,_,rfl,⟨_,rfl⟩,rfl⟩
theorem sh_key (ps:List Pt):(Sh.tcons .int keySh).has (keyD ps):=by
 refine ⟨_,_,rfl,⟨_,rfl⟩,_,_,rfl,⟨_,rfl,λx hx=>?_⟩,rfl⟩;obtain ⟨pt,_,rfl⟩:=List.mem_map.mp hx;exact sh_part pt
theorem key_inj {p q:Pt} (h:p.key=q.key):p=q:=by
 cases p with
 | word w=>
  cases q with
  | word w'=>simp [Pt.key] at h;rw [h.2]
  | hole k=>simp [Pt.key] at h
 | hole k=>
  cases q with
  | word w'=>simp [Pt.key] at h
  | hole k'=>
   grind [Pt.key]
theorem map_inj {α β:Type}{f:α->β} (hf:∀ a b,f a=f b->a=b):∀ {l l':List α},l.map f=l'.map f->l=l'
 | [],[],_=>rfl
 | [],_::_,h=>by simp at h
 | _::_,[],h=>by simp at h
 | a::r,b::r',h=>by
  rw [List.map_cons,List.map_cons] at h;injection h with h1 h2;rw [hf a b h1,map_inj hf h2]
theorem keyD_inj {ps qs:List Pt} (h:keyD ps=keyD qs):ps=qs:=by
 simp only [keyD,PyData.tuple.injEq,List.cons.injEq,PyData.list.injEq,and_true] at h
 grind [map_inj,key_inj]
def KOrd (l:List (List Pt)):Prop:=l.Pairwise λa b=>ltv (keyD b) (keyD a)=false
def sel (pss:List (List Pt)) (p:List Nat):List (List Pt):=p.map λi=>pss.getD i []
theorem sel_perm {pss:List (List Pt)}{p:List Nat} (hp:p.Perm (List.range pss.length)):(sel pss p).Perm pss:=by
 have h1:(sel pss p).Perm ((List.range pss.length).map λi=>pss.getD i []):=hp.map _
 rwa [range_picked] at h1
theorem inord_keys {pss:List (List Pt)}{p:List Nat} (hp:p.Perm (List.range pss.length)) (h:InOrd (pss.map keyD) p):KOrd (sel pss p):=by
 unfold InOrd at h;unfold KOrd sel;rw [List.pairwise_map] at h ⊢;refine h.imp_of_mem λ{i j} hi hj q=>?_
 grind
theorem kord_unique {l l':List (List Pt)} (hp:l.Perm l') (h:KOrd l) (h':KOrd l'):l=l':=by
 refine map_inj (f:=keyD) (λa b=>keyD_inj) ?_;refine sorted_unique (Sh.ok (.tcons .int keySh)) (λx hx=>?_) (hp.map _) ?_ ?_
 ·obtain ⟨ps,_,rfl⟩:=List.mem_map.mp hx;exact sh_key ps
 ·rwa [List.pairwise_map]
 ·rwa [List.pairwise_map]
def Fresh (H H':Hp) (acc:List V):Prop:=∀ x∈acc,∃ t ys,x = .ref t/\H t=none/\H' t=some (.lst ys)/\ys.length<=10000
def sp_word_key (K:PySem.W.Frag):Sp:=λvs H Q _=>∃ w,vs=[.str w]/\LOk w/\∀ p,H p=none->Q (.ref p) (upd H p (.tup [.int w.length,.str w]))
def sp_part_key (K:PySem.W.Frag):Sp:=λvs H Q _=>∃ v pt,vs=[v]/\Den K H v (Pt.dat pt)/\pt.ok/\∀ r H',Same H H'->Den K (lim H H') r pt.key->Q r H'
def sp_pattern_key (K:PySem.W.Frag):Sp:=λvs H Q _=>∃ v ps,vs=[v]/\Den K H v (patD ps)/\POk ps/\∀ r H',Same H H'->Den K (lim H H') r (keyD ps)->Q r H'
def sp_ordered (K:PySem.W.Frag):Sp:=λvs H Q _=>∃ a xs pss,vs=[.ref a]/\SqL K H a xs/\xs.length<64/\Dens K H xs (pss.map patD)/\(∀ ps∈pss,POk ps) /\
 ∀ D acc H' l,H D=none->Same H H'->H' D=some (.lst acc)->l.Perm pss->KOrd l->Fresh H H' acc->(∀ x∈acc,x ≠ .ref D)->Dens K (lim H H') acc (l.map patD)->Q (.ref D) H'
theorem pick_at {K:PySem.W.Frag}{H:Hp}{xs:List V}{pss:List (List Pt)}{p:List Nat}{i:Nat}{x:V} (hds:Dens K H xs (pss.map patD)) (hp:p.Perm (List.range pss.length)) (hx:(picked xs p)[i]? = some x) :
  ∃ ps,(sel pss p)[i]? = some ps/\ps∈pss/\Den K H x (patD ps):=by
 unfold picked at hx;rw [List.getElem?_map] at hx;cases e:p[i]? with
 | none=>rw [e] at hx;cases hx
 | some j=>
  rw [e] at hx;cases hx;have hj:=List.mem_range.mp (hp.mem_iff.mp (List.mem_of_getElem? e));have hd:=hds.getD' j (by simp_all)
  grind [List.getElem?_eq_getElem,List.getElem_mem,sel,List.getElem?_map,List.getD,patD]
theorem hk_hit {m:Nat} (hm:m<3):eqV (([.str "number",.str "name",.str "any"]:List V).getD m .non) (.str (kindS m))=true:=by
 match m,hm with
 | 0,_=>decide +kernel
 | 1,_=>decide +kernel
 | 2,_=>decide +kernel
theorem hk_no {m:Nat} (hm:m<3):∀ i,i<m->eqV (([.str "number",.str "name",.str "any"]:List V).getD i .non) (.str (kindS m))=false:=by
 match m,hm with
 | 0,_=>intro i hi;lia
 | 1,_=>
  intro i hi;have:i=0:=by lia
  subst this;decide +kernel
 | 2,_=>
  intro i hi;have:i=0\/i=1:=by lia
  rcases this with rfl | rfl <;> decide +kernel
theorem hk_flat:([.str "number",.str "name",.str "any"]:List V).all flatV=true:=rfl
theorem pt_lim {K:PySem.W.Frag}{H H0 H':Hp} (s1:Same H H0) (s2:Same H H') {v:V}{pt:Pt} (h:Den K H v pt.dat):Den K (lim H0 H') v pt.dat:=by
 cases pt with
 | word w=>obtain ⟨a,rfl,hq,q1,q2⟩:=den_two h;exact .tup (hq.lim s1 s2) (.cons (.str q1) (.cons (.str q2) .nil))
 | hole k=>obtain ⟨a,rfl,hq,q1,q2⟩:=den_two h;exact .tup (hq.lim s1 s2) (.cons (.str q1) (.cons (.str q2) .nil))
theorem pts_lim {K:PySem.W.Frag}{H H0 H':Hp} (s1:Same H H0) (s2:Same H H'):∀ {ps:List Pt}{xs:List V},Dens K H xs (ps.map Pt.dat)->Dens K (lim H0 H') xs (ps.map Pt.dat)
 | [],_,h=>by cases h;exact .nil
 | pt::r,_,h=>by
  cases h with
  | cons h1 t=>exact .cons (pt_lim s1 s2 h1) (pts_lim s1 s2 t)
end LG
namespace LG
open PySem L2
def looseD (ps:List Pt):PyData:=.list (ps.map λp=>.int p.loose)
def Least (l:List (List Pt)) (ps:List Pt):Prop:=ps∈l/\∀ q∈l,ltv (looseD q) (looseD ps)=false/\(looseD q=looseD ps->ltv (keyD q) (keyD ps)=false)
def fitsB (z:Str) (ps:List Pt):Bool:=takesAll ps (Txt.split z " ")
end LG
namespace LG
open PySem L2 PySem.Builtin PySem.Builtin.Str
def Dk (H:Hp) (d:Addr) (n:Nat):Prop:=∃ a b c:Int,H d=some (.lst [.int a,.int b,.int c])/\0<=a/\0<=b/\b<2147483579/\0<=c/\c<=n
theorem Dk.mono {H:Hp}{d:Addr}{n m:Nat} (h:Dk H d n) (hm:n<=m):Dk H d m:=by
 obtain ⟨a,b,c,h1,h2,h3,h4,h5,h6⟩:=h;exact ⟨a,b,c,h1,h2,h3,h4,h5,by lia⟩
theorem Dk.lst {H:Hp}{d:Addr}{n:Nat} (h:Dk H d n):∃ ys,H d=some (.lst ys):=by
 obtain ⟨a,b,c,h1,_⟩:=h;exact ⟨_,h1⟩
theorem Dk.same {H H':Hp}{d:Addr}{n:Nat} (h:Dk H d n) (s:Same H H'):Dk H' d n:=by
 obtain ⟨a,b,c,h1,h2⟩:=h;exact ⟨a,b,c,s _ _ h1,h2⟩
theorem Dk.upd {H:Hp}{d D:Addr}{n:Nat}{o:HO} (h:Dk H d n) (hne:d≠D):Dk (upd H D o) d n:=by
 obtain ⟨a,b,c,h1,h2⟩:=h;exact ⟨a,b,c,by rwa [upd_ne hne],h2⟩
theorem Dk.ne {H:Hp}{d p:Addr}{n:Nat} (h:Dk H d n) (hp:H p=none):d≠p:=by
 obtain ⟨ys,h1⟩:=h.lst;exact ne_of_none h1 hp
theorem keepN {H H':Hp}{d p:Addr}{o:HO} (s:Same (wo d H) H') (h:H p=some o) (hne:d≠p):H' p=some o:=s p o (by rw [wo_at (Ne.symm hne)];exact h)
theorem at_strs {l:List Str}{r:Int} (h0:0<=r) (h1:r<l.length):∃ x∈l,atI (l.map V.str) r=some (.str x):=by
 obtain ⟨j,rfl⟩:=Int.eq_ofNat_of_zero_le (h0:(0:Int)<=r);have hj:j<l.length:=by lia
 exact ⟨l[j],List.getElem_mem hj,atI_nat (by simp)⟩
theorem at_sign {z:Str}{r:Int} (h0:0<=r) (h1:r<z.length):∃ (c i:Nat),atI z.cps.toList r=some c/\z.cps[i]? = some c:=by
 obtain ⟨j,rfl⟩:=Int.eq_ofNat_of_zero_le (h0:(0:Int)<=r);have hj:j<z.cps.size:=by have:z.length=z.cps.size:=rfl;lia
 exact ⟨z.cps[j],j,atI_nat (by simp),Array.getElem?_eq_getElem hj⟩
theorem ixN_in {n:Nat}{i:Int} (h0:0<=i) (h1:i<n):ixN n i=some i.toNat:=by
 unfold ixN;rw [if_pos h0,if_pos h1]
theorem cut_take {xs:List V}{i:Int} (h:0<=i):cutV xs none (some i)=xs.take i.toNat:=by
 unfold cutV;have h1:HT.sIx xs.length 0 none=0:=by simp [HT.sIx]
 rw [h1];obtain ⟨j,rfl⟩:=Int.eq_ofNat_of_zero_le (h:(0:Int)<=i);rw [HT.sIx_nat,Int.toNat_natCast,List.drop_zero,Nat.sub_zero];simp
structure WOk (w:Str):Prop where
 word:wordB w=true
 len:w.length<=6
 ok:PyData.strOk w=true
theorem sgn_no32:sgn 32=false:=by decide
theorem WOk.blank {w:Str} (h:WOk w):32∉w.cps.toList:=λq=>by
 have h1:=h.word;unfold wordB onlyB at h1;rw [Bool.and_eq_true,List.all_eq_true] at h1
 grind [sgn_no32]
theorem WOk.ne {w:Str} (h:WOk w):w.cps.toList≠[]:=λq=>by
 have h1:=h.word;unfold wordB onlyB at h1;rw [q] at h1;cases h1
def words1:List Str:=["get","put","a"]
def words2:List Str:=["0","7","12","-3","007"]
def words3:List Str:=["id=4","<any>","=","x1","-","A","<","none"]
def words4:List Str:=["abcdefghijklmnopqrstuvwxyz","0123456789","-09az","!\"#$&'()*+,-./:;<=>?@AZ[\\]^_{|}~"]
theorem w1:∀ x∈words1,wordB x=true/\x.length<=6/\PyData.strOk x=true:=by decide +kernel
theorem w2:∀ x∈words2,wordB x=true/\x.length<=6/\PyData.strOk x=true:=by decide +kernel
theorem w3:∀ x∈words3,wordB x=true/\x.length<=6/\PyData.strOk x=true:=by decide +kernel
theorem w4:∀ x∈words4,PyData.strOk x=true/\x.length<=100/\0<x.length/\x.cps.toList.all sgn=true:=by decide +kernel
theorem glue_p {p:Nat->Prop}{y:Str} (hy:∀ c∈y.cps,p c):∀ (xs:List Str) (acc:Array Nat),(∀ x∈xs,∀ c∈x.cps,p c)->(∀ c∈acc,p c)->(∀ c∈xs.foldl (λacc q=>acc++y.cps++q.cps) acc,p c)/\acc.size<=(xs.foldl (λacc q=>acc++y.cps++q.cps) acc).size
 | [],acc,_,h=>⟨h,Nat.le_refl _⟩
 | x::r,acc,hx,h=>by
  have ih:=glue_p hy r (acc++y.cps++x.cps) (λz hz=>hx z (List.mem_cons_of_mem _ hz)) λc hc=>by
   grind
  grind
theorem join_word {l:List Str} (hn:1<=l.length) (hl:l.length<=4) (h:∀ y∈l,PyData.strOk y=true/\y.length<=1/\∃ c,y=⟨#[c]⟩/\sgn c=true):WOk (Txt.join "" l):=by
 have hj:=ok_join (y:= "") (m:=1) (by decide +kernel) (λy hy=>⟨(h y hy).1,(h y hy).2.1⟩);have h0:(("" : Str)).length=0:=rfl;rw [h0] at hj;refine ⟨?_,by lia,hj.1⟩;cases l with
 | nil=>simp at hn
 | cons x r=>
  obtain ⟨c,hxc,hsc⟩:=(h x (List.mem_cons_self ..)).2.2;have hp:=glue_p (p:=λc=>sgn c=true) (y:= "") (λc hc=>by rw [show (Str.ofString "").cps = #[] from rfl] at hc;simp at hc) r x.cps (λy hy c hc=>by
   obtain ⟨c',rfl,h'⟩:=(h y (List.mem_cons_of_mem _ hy)).2.2;simp at hc;subst hc;exact h') (λc hc=>by
   subst hxc;simp at hc;subst hc;exact hsc)
  have e:(Txt.join "" (x::r)).cps=r.foldl (λacc q=>acc++(("" : Str)).cps++q.cps) x.cps:=rfl;unfold wordB onlyB;rw [e,Bool.and_eq_true];constructor
  ·have hs:1<=(r.foldl (λacc q=>acc++(("" : Str)).cps++q.cps) x.cps).size:=Nat.le_trans (by subst hxc;simp) hp.2;cases q:(r.foldl (λacc q=>acc++(("" : Str)).cps++q.cps) x.cps).toList with
   | nil=>rw [<-Array.length_toList,q] at hs;simp at hs
   | cons a b=>rfl
  ·rw [List.all_eq_true];intro c hc;exact hp.1 c (by simpa using hc)
def sp__law_pick (K:PySem.W.Frag):Sp:=λvs H Q _=>∃ (d:Addr) (m:Int) (n:Nat),vs=[.ref d,.int m]/\Dk H d n/\n<1000000/\0<m/\m<1000000/\∀ (r:Int) H',Same (wo d H) H'->Dk H' d (n+1)->0<=r->r<m->Q (.int r) H'
def sp__law_kind (K:PySem.W.Frag):Sp:=λvs H Q _=>∃ z:Str,vs=[.str z]/\TOk z/\∀ H',Same H H'->Q (.str (kindW (lawKindL z.cps.toList))) H'
def sp__law_word (K:PySem.W.Frag):Sp:=λvs H Q _=>∃ (d:Addr) (n:Nat),vs=[.ref d]/\Dk H d n/\n<900000/\∀ (x:Str) H',Same (wo d H) H'->Dk H' d (n+6)->WOk x->Q (.str x) H'
structure LnOk (m:Nat) (x:Str) (ws:List Str):Prop where
 eq:x=Txt.join " " ws
 pos:1<=ws.length
 le:ws.length<=m
 wd:∀ w∈ws,WOk w
theorem LnOk.split {m:Nat}{x:Str}{ws:List Str} (h:LnOk m x ws):Txt.split x " " = ws:=by
 rw [h.eq];exact split_join (by intro e;have:=h.pos;rw [e] at this;simp at this) λw hw=>(h.wd w hw).blank
theorem LnOk.ok {m:Nat}{x:Str}{ws:List Str} (h:LnOk m x ws) (hm:m<=12):PyData.strOk x=true/\x.length<=84:=by
 have hj:=ok_join (y:= " ") (m:=6) (by decide +kernel) (λy hy=>⟨(h.wd y hy).ok,(h.wd y hy).len⟩);have h1:((" " : Str)).length=1:=rfl;rw [h1,<-h.eq] at hj;have:=h.le;exact ⟨hj.1,by lia⟩
def sp__law_line (K:PySem.W.Frag):Sp:=λvs H Q _=>∃ (d:Addr) (m:Int) (n:Nat),vs=[.ref d,.int m]/\Dk H d n/\n<800000/\0<m/\m<13/\∀ (x:Str) (ws:List Str) H',Same (wo d H) H'->Dk H' d (n+80)->LnOk m.toNat x ws->Q (.str x) H'
def Drawn (w:Str) (p:Pt):Prop:=p = .word w\/(p = .hole (lawKindL w.cps.toList)/\lawKindL w.cps.toList<2)\/p = .hole 2
end LG
namespace LG
open PySem L2
theorem lawKind_lt (l:List Nat):lawKindL l<3:=by
 unfold lawKindL
 split
 ·decide
 ·split <;> decide
end LG
namespace LG
open PySem L2
structure WsOk (ws:List Str):Prop where
 pos:1<=ws.length
 le:ws.length<=12
 wd:∀ w∈ws,WOk w
theorem WsOk.line {ws:List Str} (h:WsOk ws):LnOk 12 (Txt.join " " ws) ws:=⟨rfl,h.pos,h.le,h.wd⟩
theorem at_ints {r:Int} (h0:0<=r) (h1:r<3):∃ v:Int,atI [V.int 3,V.int 6,V.int 12] r=some (.int v)/\0<v/\v<13:=by
 have:r=0\/r=1\/r=2:=by lia
 rcases this with rfl | rfl | rfl
 ·exact ⟨3,rfl,by decide,by decide⟩
 ·exact ⟨6,rfl,by decide,by decide⟩
 ·exact ⟨12,rfl,by decide,by decide⟩
theorem WsOk.set {ws:List Str} (h:WsOk ws) {i:Nat}{x:Str} (hx:WOk x):WsOk (ws.set i x):=by
 refine ⟨by rw [List.length_set];exact h.pos,by rw [List.length_set];exact h.le,λw hw=>?_⟩;rcases List.mem_or_eq_of_mem_set hw with q | q
 ·exact h.wd w q
 ·rwa [q]
end LG
namespace LG
open PySem L2
structure FitsW (ws:List Str) (ps:List Pt):Prop where
 ok:POk ps
 len:ps.length=ws.length
 takes:∀ (i:Nat) w p,ws[i]? = some w->ps[i]? = some p->p.takes w=true
end LG
namespace LG
open PySem L2
section
variable {K:PySem.W.Frag}{H0 H H':Hp}{d S:Addr}{ws:List Str}{n n' m:Nat}{xs:List V}{pss:List (List Pt)}
end
end LG
namespace LG
open PySem L2
def sp_law (K:PySem.W.Frag):Sp:=λvs H Q _=>∃ (a:Addr) (ns:List Int),vs=[.ref a]/\SqL K H a (ns.map V.int)/\ns.length<=63/\∀ H',Q (.bl true) H'
def oD:Option (List Pt)->PyData
 | none=>.none
 | some ps=>patD ps
structure FallsO (l:List (List Pt)) (o:Option (List Pt)):Prop where
 nil:o=none↔l=[]
 least:∀ ps,o=some ps->Least l ps
theorem dep_pats (pss:List (List Pt)):(PyData.list (pss.map patD)).depth<=100:=by
 have h:PyData.depthAll (pss.map patD)<=90:=depthAll_le _ λd hd=>by
  obtain ⟨ps,_,rfl⟩:=List.mem_map.mp hd;exact dep_patD ps
 simp only [PyData.depth];lia
end LG
namespace LG
open PySem L2 PySem.Builtin PySem.Builtin.Str
def PtW:Pt->Prop
 | .word w=>wordB w=true/\w.length<=500/\PyData.strOk w=true
 | .hole k=>k<3
def PW (ps:List Pt):Prop:=∀ p∈ps,PtW p
def Words (ws:List Str):Prop:=∀ w∈ws,wordB w=true
def knows (pss:List (List Pt)) (ws:List Str):Bool:=pss.any λps=>takesAll ps ws
def needless (ps:List Pt) (oss:List (List Pt)):Bool:=oss.any λos=>withinAll ps os
theorem PtW.ok {p:Pt} (h:PtW p):p.ok:=by
 cases p with
 | word w=>exact ⟨Nat.le_trans h.2.1 (by decide),h.2.2⟩
 | hole k=>exact h
theorem takes_cons (p:Pt) (ps:List Pt) (w:Str) (ws:List Str):takesAll (p::ps) (w::ws)=(p.takes w && takesAll ps ws):=by
 simp only [takesAll,List.length_cons,List.zip_cons_cons,List.all_cons,Nat.add_right_cancel_iff];cases p.takes w <;> simp
def startsW (w:Str):List Pt->Bool
 | []=>false
 | p::_=>p.takes w
def behindP (oss:List (List Pt)) (w:Str):List (List Pt):=(oss.filter (startsW w)).map List.tail
end LG
namespace LG
open PySem L2 PySem.Builtin PySem.Builtin.Str
def wkD (w:Str):PyData:=.tuple [.int w.length,.str w]
def lkD (ws:List Str):PyData:=.tuple [.int ws.length,.list (ws.map wkD)]
def wlt (a b:Str):Bool:=ltv (wkD a) (wkD b)
def Bd (w:Str):Prop:=w.length<=500/\PyData.strOk w=true
structure LW (k:Nat) (named:List Str) (x:Str):Prop where
 wd:wordB x=true
 kd:kindT x=k
 no:x∉named
 le:∀ y,wordB y=true->kindT y=k->y∉named->wlt y x=false
 bd:Bd x
def named:List Pt->List Str
 | []=>[]
 | .word w::r=>w::named r
 | .hole _::r=>named r
structure FW (p:Pt) (ps:List Pt) (oss:List (List Pt)) (w:Str):Prop where
 tk:p.takes w=true
 nd:needless ps (behindP oss w)=false
 le:∀ y,p.takes y=true->needless ps (behindP oss y)=false->wlt y w=false
 bd:Bd w
structure LP (ps:List Pt) (oss:List (List Pt)) (ws:List Str):Prop where
 tk:takesAll ps ws=true
 kn:knows oss ws=false
 le:∀ vs,takesAll ps vs=true->knows oss vs=false->ltvAll (vs.map wkD) (ws.map wkD)=false
 bd:∀ w∈ws,Bd w
structure PLn (pss qss:List (List Pt)) (ws:List Str):Prop where
 pa:knows pss ws≠knows qss ws
 wd:Words ws
 bd:∀ w∈ws,Bd w
 ne:ws≠[]
 ln:ws.length<=12
 le:∀ vs,knows pss vs≠knows qss vs->ltv (lkD vs) (lkD ws)=false
structure LinesOf (pss qss:List (List Pt)) (L:List (List Str)):Prop where
 of:∀ ws∈L,∃ ps∈pss,LP ps qss ws
 all:∀ ps∈pss,needless ps qss=true\/∃ ws∈L,LP ps qss ws
def PsOk (pss:List (List Pt)):Prop:=∀ ps∈pss,PW ps/\ps≠[]/\ps.length<=12
end LG
namespace LG
open PySem L2 PySem.Builtin PySem.Builtin.Str
theorem nodup_le:∀ {l m:List Str},l.Nodup->(∀ x∈l,x∈m)->l.length<=m.length
 | [],_,_,_=>Nat.zero_le _
 | x::r,m,hn,h=>by
  have hx:=h x (List.mem_cons_self ..);rw [List.nodup_cons] at hn;have:=nodup_le (l:=r) (m:=m.erase x) hn.2 λy hy=>(List.mem_erase_of_ne (show y≠x from λe=>hn.1 (by rw [<-e];exact hy))).mpr (h y (List.mem_cons_of_mem _ hy));rw [List.length_erase_of_mem hx] at this;have hp:=List.length_pos_of_mem hx;simp only [List.length_cons];lia
def lnV (ws:List Str):V:=.str (Txt.join " " ws)
def oS:Option (List Str)->V
 | none=>.non
 | some ws=>lnV ws
end LG
namespace LG
open PySem L2 PySem.Builtin PySem.Builtin.Str
end LG
namespace LG
open PySem L2 PySem.Builtin PySem.Builtin.Str
end LG
namespace LG
open PySem L2
theorem ex_1 {C:St->Prop}{σ:St}{f:Option V->St} (h:∃ u0,σ=f u0) (k:∀ u0,C (f u0)):C σ:=by
 obtain ⟨u0,rfl⟩:=h;exact k _
theorem ex_2 {C:St->Prop}{σ:St}{f:Option V->Option V->St} (h:∃ u0 u1,σ=f u0 u1) (k:∀ u0 u1,C (f u0 u1)):C σ:=by
 obtain ⟨u0,u1,rfl⟩:=h;exact k _ _
theorem ex_3 {C:St->Prop}{σ:St}{f:Option V->Option V->Option V->St} (h:∃ u0 u1 u2,σ=f u0 u1 u2) (k:∀ u0 u1 u2,C (f u0 u1 u2)):C σ:=by
 obtain ⟨u0,u1,u2,rfl⟩:=h;exact k _ _ _
theorem ex_5 {C:St->Prop}{σ:St}{f:Option V->Option V->Option V->Option V->Option V->St} (h:∃ u0 u1 u2 u3 u4,σ=f u0 u1 u2 u3 u4) (k:∀ u0 u1 u2 u3 u4,C (f u0 u1 u2 u3 u4)):C σ:=by
 obtain ⟨u0,u1,u2,u3,u4,rfl⟩:=h;exact k _ _ _ _ _
theorem ex_7 {C:St->Prop}{σ:St}{f:Option V->Option V->Option V->Option V->Option V->Option V->Option V->St} (h:∃ u0 u1 u2 u3 u4 u5 u6,σ=f u0 u1 u2 u3 u4 u5 u6) (k:∀ u0 u1 u2 u3 u4 u5 u6,C (f u0 u1 u2 u3 u4 u5 u6)):C σ:=by
 obtain ⟨u0,u1,u2,u3,u4,u5,u6,rfl⟩:=h;exact k _ _ _ _ _ _ _
theorem ex_11 {C:St->Prop}{σ:St}{f:Option V->Option V->Option V->Option V->Option V->Option V->Option V->Option V->Option V->Option V->Option V->St} (h:∃ u0 u1 u2 u3 u4 u5 u6 u7 u8 u9 u10,σ=f u0 u1 u2 u3 u4 u5 u6 u7 u8 u9 u10) (k:∀ u0 u1 u2 u3 u4 u5 u6 u7 u8 u9 u10,C (f u0 u1 u2 u3 u4 u5 u6 u7 u8 u9 u10)):C σ:=by
 obtain ⟨u0,u1,u2,u3,u4,u5,u6,u7,u8,u9,u10,rfl⟩:=h;exact k _ _ _ _ _ _ _ _ _ _ _
end LG
namespace LG
open PySem L2 PySem.Builtin PySem.Builtin.Str
end LG
namespace LG
open PySem L2
def Pt.place:Pt->PyData
 | .word w=>.tuple [.int 0,.int w.length,.str w]
 | .hole k=>.tuple [.int (k+1),.int 0,.str ""]
end LG
namespace LG
open PySem L2 PySem.Builtin PySem.Builtin.Str
structure Mx (P N:List (List Pt)):Prop where
 nd:N.Nodup
 ko:KOrd N
 mem:∀ p,p∈N↔p∈P/\∀ q∈P,withinAll p q=true->q=p
end LG
namespace LG
open PySem L2 PySem.Builtin PySem.Builtin.Str
def jn:List (List Nat)->List Nat
 | []=>[]
 | [t]=>t
 | t::u::r=>t++44::32::jn (u::r)
def patsD (pss:List (List Pt)):PyData:=.list (pss.map patD)
def kyD (n:Nat) (one other:List (List Pt)):PyData:=.list [.int n,patsD one,patsD other]
end LG
namespace LG
open PySem L2 PySem.Builtin PySem.Builtin.Str
structure Tries (P Q:List (List Pt)) (l:List Str):Prop where
 wd:∀ x∈l,wordB x=true/\Bd x
 up:l.Pairwise λa b=>wlt b a=false
 all:∀ y,wordB y=true->∃ x∈l,wlt y x=false/\behindP P x=behindP P y/\behindP Q x=behindP Q y
def dr (n:Nat) (P:List (List Pt)):List (List Pt):=P.map (List.drop n)
def at_ (n:Nat) (w:Str) (P:List (List Pt)):List (List Pt):=P.filter λps=>(ps.getD n (.hole 2)).takes w
end LG
namespace LG
open PySem L2 PySem.Builtin PySem.Builtin.Str
def ng (c:Nat):Str:=⟨#[45,c]⟩
end LG
namespace LG
open PySem L2 PySem.Builtin PySem.Builtin.Str
def ky (n:Nat) (P Q:List (List Pt)):Key:=.inr (strV (kyD n P Q))
structure Base (m:Nat) (P0 Q0:List (List Pt)):Prop where
 m12:m<=12
 p:∀ ps∈P0,PW ps/\ps.length=m
 q:∀ ps∈Q0,PW ps/\ps.length=m
 lp:P0.length<=7
 lq:Q0.length<=8
structure KnK (P0 Q0:List (List Pt)) (kvs:List (Key×V)):Prop where
 nd:(kvs.map (·.1)).Nodup
 of:∀ k∈kvs.map (·.1),∃ n P Q,n<13/\P.Sublist P0/\Q.Sublist Q0/\k=ky n P Q
end LG
namespace LG
open PySem L2
section
variable {K:PySem.W.Frag}
def ptV:Pt->List V
 | .word w=>[.str "word",.str w]
 | .hole k=>[.str "hole",.str (kindS k)]
def PtAt (H:Hp) (v:V) (p:Pt):Prop:=∃ t,v = .ref t/\H t=some (.tup (ptV p))
def NL (o:HO):Prop:=∀ xs,o ≠ .lst xs
def tO (H:Hp):Hp:=λa=>match H a with
 | some (.lst _)=>none
 | o=>o
theorem tO_some {H:Hp}{a:Addr}{o:HO} (h:tO H a=some o):NL o/\H a=some o:=by
 unfold tO at h
 split at h
 ·cases h
 ·rename_i n;exact ⟨λxs e=>n xs (by rw [h,e]),h⟩
theorem tO_at {H:Hp}{a:Addr}{o:HO} (h:H a=some o) (n:NL o):tO H a=some o:=by
 unfold tO
 split
 ·rename_i xs e;rw [h] at e;cases e;exact (n xs rfl).elim
 ·exact h
theorem tO_keep {H H':Hp} (k:∀ a o,NL o->H a=some o->H' a=some o):Same (tO H) (tO H'):=λa o h=>by
 obtain ⟨n,e⟩:=tO_some h;exact tO_at (k a o n e) n
theorem nl_tup {xs:List V}:NL (.tup xs):=λys e=>by cases e
inductive PL (K:PySem.W.Frag) (H:Hp):List Addr->List (List Pt)->Prop
 | nil:PL K H [] []
 | cons {a:Addr}{ys:List V}{as:List Addr}{ps:List Pt}{pss:List (List Pt)} (h1:H a=some (.lst ys)) (h2:Dens K (tO H) ys (ps.map Pt.dat)) (h3:a∉as) (t:PL K H as pss):PL K H (a::as) (ps::pss)
theorem PtAt.den {H:Hp}{v:V}{p:Pt} (h:PtAt H v p) (ok:PtW p):Den K (tO H) v p.dat:=by
 obtain ⟨t,rfl,h⟩:=h;cases p with
 | word w=>exact .tup (.of (tO_at h nl_tup)) (.cons (.str (by decide +kernel)) (.cons (.str ok.2.2) .nil))
 | hole k=>exact .tup (.of (tO_at h nl_tup)) (.cons (.str (by decide +kernel)) (.cons (.str kindS_ok) .nil))
theorem tO_up {H H':Hp} (s:Same H H'):Same (tO H) (tO H'):=tO_keep λa o _ h=>s a _ h
theorem tO_upd {H:Hp}{a:Addr}{xs ys:List V} (h:H a=some (.lst xs)):Same (tO H) (tO (upd H a (.lst ys))):=tO_keep λc o n hc=>by
 have:c≠a:=λz=>by rw [z,h] at hc;cases hc;exact n _ rfl
 rwa [upd_ne this]
end
end LG
namespace LG
open PySem L2
def grpPut {α:Type} (st:List (Key×List α)) (k:Key) (x:α):List (Key×List α):=
 if (st.any λp=>decide (p.1=k))=true then st.map (λp=>if p.1=k then (p.1,p.2++[x]) else p) else st++[(k,[x])]
def grpAll {α:Type} (l:List (Key×α)):List (Key×List α):=l.foldl (λst p=>grpPut st p.1 p.2) []
def grp {α:Type} (ks:List Key) (xs:List α):List (List α):=(grpAll (ks.zip xs)).map (·.2)
theorem grpAll_next {α:Type}{l:List (Key×α)}{i:Nat}{p:Key×α} (h:l[i]? = some p):grpAll (l.take (i+1))=grpPut (grpAll (l.take i)) p.1 p.2:=by
 grind [grpAll,List.take_add_one,List.foldl_append]
inductive All2 {α β:Type} (R:α->β->Prop):List α->List β->Prop
 | nil:All2 R [] []
 | cons {a:α}{b:β}{l:List α}{m:List β} (h:R a b) (t:All2 R l m):All2 R (a::l) (b::m)
theorem All2.len {α β:Type}{R:α->β->Prop}{l:List α}{m:List β} (h:All2 R l m):l.length=m.length:=by
 induction h with
 | nil=>rfl
 | cons _ _ ih=>rw [List.length_cons,List.length_cons,ih]
theorem All2.mono {α β:Type}{R S:α->β->Prop} (f:∀ a b,R a b->S a b) {l:List α}{m:List β} (h:All2 R l m):All2 S l m:=by
 induction h with
 | nil=>exact .nil
 | cons h _ ih=>exact .cons (f _ _ h) ih
theorem All2.snoc {α β:Type}{R:α->β->Prop}{l:List α}{m:List β}{a:α}{b:β} (h:All2 R l m) (r:R a b):All2 R (l++[a]) (m++[b]):=by
 induction h with
 | nil=>exact .cons r .nil
 | cons h _ ih=>exact .cons h ih
theorem All2.at {α β:Type}{R:α->β->Prop}{l:List α}{m:List β} (h:All2 R l m):∀ {i:Nat}{a:α},l[i]? = some a->∃ b,m[i]? = some b/\R a b:=by
 induction h with
 | nil=>intro i a e;cases e
 | cons h _ ih=>
  grind
def KRel {α β:Type} (R:α->β->Prop) (p:Key×List α) (q:Key×List β):Prop:=p.1=q.1/\All2 R p.2 q.2
theorem put_rel {α β:Type}{R:α->β->Prop}{st:List (Key×List α)}{tt:List (Key×List β)}{k:Key}{x:α}{y:β} (h:All2 (KRel R) st tt) (r:R x y):All2 (KRel R) (grpPut st k x) (grpPut tt k y):=by
 have ea:(st.any λp=>decide (p.1=k))=(tt.any λp=>decide (p.1=k)):=by
  induction h with
  | nil=>rfl
  | cons h _ ih=>rw [List.any_cons,List.any_cons,ih,h.1]
 unfold grpPut;rw [ea]
 split
 ·rename_i hh;clear ea hh
  induction h with
  | nil=>exact .nil
  | @cons a b l m h _ ih=>
   refine .cons ?_ ih;show KRel R (if a.1=k then (a.1,a.2++[x]) else a) (if b.1=k then (b.1,b.2++[y]) else b);rw [h.1]
   split
   ·exact ⟨rfl,h.2.snoc r⟩
   ·exact h
 ·exact h.snoc ⟨rfl,.cons r .nil⟩
theorem grp_rel {α β:Type}{R:α->β->Prop}{xs:List α}{ys:List β} (h:All2 R xs ys) (ks:List Key):All2 (All2 R) (grp ks xs) (grp ks ys):=by
 have go:∀ (ks:List Key) {xs:List α}{ys:List β}{st:List (Key×List α)}{tt:List (Key×List β)},All2 R xs ys->All2 (KRel R) st tt->All2 (KRel R) ((ks.zip xs).foldl (λst p=>grpPut st p.1 p.2) st) ((ks.zip ys).foldl (λst p=>grpPut st p.1 p.2) tt):=λks=>by
  induction ks with
  | nil=>intro xs ys st tt _ h;simpa using h
  | cons k ks ih=>
   intro xs ys st tt h1 h2;cases h1 with
   | nil=>simpa using h2
   | cons r t=>exact ih t (put_rel h2 r)
 have z:=go ks h (st:=[]) (tt:=[]) .nil;unfold grp grpAll;generalize (ks.zip xs).foldl (λst p=>grpPut st p.1 p.2) []=a at z;generalize (ks.zip ys).foldl (λst p=>grpPut st p.1 p.2) []=b at z
 induction z with
 | nil=>exact .nil
 | cons h _ ih=>exact .cons h.2 ih
inductive GL (H0 H:Hp) (D:Addr):List Addr->List (Key×V)->List (Key×List V)->Prop
 | nil:GL H0 H D [] [] []
 | cons {a:Addr}{k:Key}{g:List V}{as:List Addr}{kvs:List (Key×V)}{st:List (Key×List V)} (h:H a=some (.lst g)) (hn:H0 a=none) (hD:a≠D) (ha:a∉as) (hk:k∉kvs.map (·.1)) (hs:st.map (·.1)=kvs.map (·.1)) (t:GL H0 H D as kvs st):GL H0 H D (a::as) ((k,.ref a)::kvs) ((k,g)::st)
theorem GL.keys {H0 H:Hp}{D:Addr}{as:List Addr}{kvs:List (Key×V)}{st:List (Key×List V)} (h:GL H0 H D as kvs st):st.map (·.1)=kvs.map (·.1):=by
 cases h with
 | nil=>rfl
 | cons _ _ _ _ _ hs _=>simp [hs]
theorem GL.vals {H0 H:Hp}{D:Addr}{as:List Addr}{kvs:List (Key×V)}{st:List (Key×List V)} (h:GL H0 H D as kvs st):kvs.map (·.2)=as.map V.ref:=by
 induction h with
 | nil=>rfl
 | cons _ _ _ _ _ _ _ ih=>simp [ih]
theorem GL.lists {H0 H:Hp}{D:Addr}{as:List Addr}{kvs:List (Key×V)}{st:List (Key×List V)} (h:GL H0 H D as kvs st):All2 (λa g=>H a=some (.lst g)) as (st.map (·.2)):=by
 induction h with
 | nil=>exact .nil
 | cons h _ _ _ _ _ _ ih=>exact .cons h ih
theorem GL.mem {H0 H:Hp}{D:Addr}{as:List Addr}{kvs:List (Key×V)}{st:List (Key×List V)} (h:GL H0 H D as kvs st):∀ a∈as,(∃ g,H a=some (.lst g))/\H0 a=none/\a≠D:=by
 induction h with
 | nil=>intro a ha;cases ha
 | cons h hn hD _ _ _ _ ih=>
  simp_all
theorem GL.keep {H0 H H':Hp}{D:Addr}{as:List Addr}{kvs:List (Key×V)}{st:List (Key×List V)} (h:GL H0 H D as kvs st) (k:∀ a∈as,H' a=H a):GL H0 H' D as kvs st:=by
 induction h with
 | nil=>exact .nil
 | cons h hn hD ha hk hs t ih=>exact .cons ((k _ (.head _)).trans h) hn hD ha hk hs (ih λa z=>k a (.tail _ z))
theorem GL.snoc {H0 H:Hp}{D L:Addr}{k:Key}{g:List V}{as:List Addr}{kvs:List (Key×V)}{st:List (Key×List V)} (h:GL H0 H D as kvs st) (hL:H L=some (.lst g)) (hn:H0 L=none) (hD:L≠D) (ha:L∉as) (hk:k∉kvs.map (·.1)) :
  GL H0 H D (as++[L]) (kvs++[(k,.ref L)]) (st++[(k,g)]):=by
 induction h with
 | nil=>exact .cons hL hn hD (by simp) (by simp) rfl .nil
 | @cons a k' g' as kvs st h hn' hD' ha' hk' hs t ih=>
  rw [List.mem_cons,not_or] at ha;simp only [List.map_cons,List.mem_cons,not_or] at hk;refine .cons h hn' hD' ?_ ?_ (by simp [hs]) (ih ha.2 hk.2)
  ·show a∉as++[L]
   grind
  ·show k'∉(kvs++[(k,V.ref L)]).map (·.1)
   grind
theorem val_none {kvs:List (Key×V)}{k:Key} (h:valV kvs k=none):k∉kvs.map (·.1)/\(kvs.any λkv=>decide (kv.1=k))=false:=by
 induction kvs with
 | nil=>exact ⟨by simp,rfl⟩
 | cons p r ih=>
  grind [valV_pos,valV,List.find?_cons,decide_eq_false,List.any_cons]
theorem any_keys {α β:Type}{st:List (Key×α)}{kvs:List (Key×β)} (h:st.map (·.1)=kvs.map (·.1)) (k:Key):(st.any λp=>decide (p.1=k))=(kvs.any λp=>decide (p.1=k)):=by
 have a:∀ {γ:Type} (l:List (Key×γ)),(l.any λp=>decide (p.1=k))=(l.map (·.1)).any λx=>decide (x=k):=λl=>by
  rw [List.any_map];rfl
 rw [a,a,h]
theorem GL.grow {H0 H:Hp}{D:Addr}{as:List Addr}{kvs:List (Key×V)}{st:List (Key×List V)}{k:Key}{v x:V} (h:GL H0 H D as kvs st):valV kvs k=some v->∃ a g,v = .ref a/\a∈as/\H a=some (.lst g)/\g∈st.map (·.2)/\GL H0 (upd H a (.lst (g++[x]))) D as kvs (grpPut st k x):=by
 have key:∀ {as kvs st},GL H0 H D as kvs st->valV kvs k=some v->∃ a g,v = .ref a/\a∈as/\H a=some (.lst g)/\g∈st.map (·.2)/\(st.any λp=>decide (p.1=k))=true/\GL H0 (upd H a (.lst (g++[x]))) D as kvs (st.map λp=>if p.1=k then (p.1,p.2++[x]) else p):=λ{as kvs st} h=>by
  induction h with
  | nil=>intro e;cases e
  | @cons a k' g as kvs st h hn hD ha hk hs t ih=>
   intro e;by_cases ek:k' = k
   ·rw [valV_pos ek] at e;cases e;refine ⟨a,g,rfl,.head _,h,by simp,by rw [List.any_cons,decide_eq_true ek];rfl,?_⟩;have em:(st.map λp=>if p.1=k then (p.1,p.2++[x]) else p)=st:=by
     exact (List.map_congr_left (λp hp=>if_neg λz=>hk (by grind))).trans (List.map_id' st)
    rw [List.map_cons,if_pos ek,em];exact .cons upd_same hn hD ha hk hs (t.keep λb hb=>upd_ne λ(z:b=a)=>ha (z ▸ hb))
   ·have e':valV kvs k=some v:=by
     unfold valV at e ⊢
     rwa [List.find?_cons,decide_eq_false ek] at e
    obtain ⟨b,g',e1,e2,e3,e4,e5,e6⟩:=ih e';refine ⟨b,g',e1,.tail _ e2,e3,List.mem_cons_of_mem _ e4,by rw [List.any_cons,e5,Bool.or_true],?_⟩;rw [List.map_cons,if_neg ek];have hba:a≠b:=λz=>ha (z ▸ e2);refine .cons (by rwa [upd_ne hba]) hn hD ha hk ?_ e6;rw [List.map_map,<-hs];exact List.map_congr_left λp _=>by show (if p.1=k then (p.1,p.2++[x]) else p).1=p.1;split <;> rfl
 intro e;obtain ⟨a,g,e1,e2,e3,e4,e5,e6⟩:=key h e;refine ⟨a,g,e1,e2,e3,e4,?_⟩;unfold grpPut
 rwa [if_pos e5]
theorem GL.more {H0 H:Hp}{D L:Addr}{as:List Addr}{kvs:List (Key×V)}{st:List (Key×List V)}{k:Key}{x:V} (h:GL H0 H D as kvs st) (e:valV kvs k=none) (hL:H L=some (.lst [x])) (hn:H0 L=none) (hD:L≠D) (ha:L∉as) :
  putK kvs k (.ref L)=kvs++[(k,.ref L)]/\GL H0 H D (as++[L]) (kvs++[(k,.ref L)]) (grpPut st k x):=by
 obtain ⟨h1,h2⟩:=val_none e;refine ⟨by unfold putK;rw [h2];rfl,?_⟩;unfold grpPut;rw [any_keys h.keys k,h2];exact h.snoc hL hn hD ha h1
end LG
namespace LG
open PySem L2
def wsD (ws:List Str):PyData:=.list (ws.map PyData.str)
def gD (wss:List (List Str)):PyData:=.list (wss.map wsD)
structure GOk (n:Nat) (wss:List (List Str)):Prop where
 ne:wss≠[]
 le:wss.length<64
 le12:n<=12
 pos:0<n
 row:∀ ws∈wss,ws.length=n/\∀ w∈ws,PtW (.word w)
def wAt (wss:List (List Str)) (p:Nat):List Str:=wss.map λws=>ws.getD p Str.empty
def uAt (wss:List (List Str)) (p:Nat):List Str:=dedS [] (wAt wss p)
def fitAt (wss:List (List Str)) (p:Nat) (s l:Int):Bool:=decide (2<=((uAt wss p).length:Int)) && (decide (((uAt wss p).length:Int)<=s) && (uAt wss p).all λw=>decide (l<=((wAt wss p).countP λz=>decide (z=w):Nat)))
section
variable {K:PySem.W.Frag}{H:Hp}
theorem dens_strs_eq:∀ {ws:List Str}{ys:List V},Dens K H ys (ws.map PyData.str)->ys=ws.map V.str
 | [],_,h=>by cases h;rfl
 | w::ws,_,h=>by
  cases h with
  | cons a t=>
   cases a;rw [dens_strs_eq t];rfl
theorem den_ws {x:V}{ws:List Str} (h:Den K H x (wsD ws)):∃ r,x = .ref r/\SqL K H r (ws.map V.str):=by
 cases h with
 | lst hq t=>
  rw [dens_strs_eq t] at hq;exact ⟨_,rfl,hq⟩
theorem den_g {x:V}{wss:List (List Str)} (h:Den K H x (gD wss)):∃ a xs,x = .ref a/\SqL K H a xs/\Dens K H xs (wss.map wsD):=by
 cases h with
 | lst hq t=>exact ⟨_,_,rfl,hq,t⟩
theorem dens_ws {xs:List V}{wss:List (List Str)}{i:Nat}{x:V} (h:Dens K H xs (wss.map wsD)) (hx:xs[i]? = some x):∃ ws r,wss[i]? = some ws/\x = .ref r/\SqL K H r (ws.map V.str):=by
 obtain ⟨d,hd,hn⟩:=h.get hx;rw [List.getElem?_map] at hd;cases e:wss[i]? with
 | none=>rw [e] at hd;cases hd
 | some ws=>
  rw [e] at hd;cases hd;obtain ⟨r,rfl,hq⟩:=den_ws hn;exact ⟨ws,r,rfl,rfl,hq⟩
end
theorem wAt_next {wss:List (List Str)}{ws:List Str}{i p:Nat} (h:wss[i]? = some ws):wAt (wss.take (i+1)) p=wAt (wss.take i) p++[ws.getD p Str.empty]:=by
 unfold wAt;rw [List.take_add_one,h];simp
theorem ded_len0 (zs:List Str):(dedS [] zs).length<=zs.length:=by
 have:=ded_len zs [];simpa using this
theorem GOk.wlen {n:Nat}{wss:List (List Str)} (h:GOk n wss) (p:Nat):(wAt wss p).length<64:=by unfold wAt;rw [List.length_map];exact h.le
theorem GOk.ulen {n:Nat}{wss:List (List Str)} (h:GOk n wss) (p:Nat):(uAt wss p).length<64:=Nat.lt_of_le_of_lt (ded_len0 _) (h.wlen p)
end LG
namespace LG
open PySem L2
section
variable {K:PySem.W.Frag}{H H':Hp}{P:Addr}
theorem tbl_ne {ps:Array Value}{a:Addr}{o:HO} (h:H P=some (.tbl ps)) (e:H a=some o) (n:∀ qs,o ≠ .tbl qs):a≠P:=λz=>by
 rw [z,h] at e;cases e;exact n _ rfl
theorem rd_tbl {ps:Array Value}{a:Addr}{o:HO} (h:H P=some (.tbl ps)) (r:Rd H a o) (n:∀ qs,o ≠ .tbl qs):Rd (wo P H) a o:=by
 rcases r with r | ⟨ob,r⟩
 ·exact .inl (by rwa [wo_at (tbl_ne h r n)])
 ·exact .inr ⟨ob,by rwa [wo_at (tbl_ne h r λqs e=>by cases e)]⟩
theorem sql_tbl {ps:Array Value}{a:Addr}{xs:List V} (h:H P=some (.tbl ps)) (r:SqL K H a xs):SqL K (wo P H) a xs:=by
 rcases r with r | r
 ·exact .inl (rd_tbl h r λqs e=>by cases e)
 ·exact .inr r
theorem sqt_tbl {ps:Array Value}{a:Addr}{xs:List V} (h:H P=some (.tbl ps)) (r:SqT K H a xs):SqT K (wo P H) a xs:=by
 rcases r with r | r
 ·exact .inl (rd_tbl h r λqs e=>by cases e)
 ·exact .inr r
theorem den_tbl {ps:Array Value}{v:V}{d:PyData} (h:H P=some (.tbl ps)) (r:Den K H v d):Den K (wo P H) v d:=r.keep (λ_ _ q=>sql_tbl h q) λ_ _ q=>sqt_tbl h q
theorem dens_tbl {ps:Array Value}{v:List V}{d:List PyData} (h:H P=some (.tbl ps)) (r:Dens K H v d):Dens K (wo P H) v d:=r.keep (λ_ _ q=>sql_tbl h q) λ_ _ q=>sqt_tbl h q
theorem lam_tbl {pos:Pos}{qual:Str} (h:LamAt P pos qual H):∃ ps,H P=some (.tbl ps):=let ⟨ps,e,_⟩:=h;⟨ps,e⟩
theorem lam_same {pos:Pos}{qual:Str} (h:LamAt P pos qual H) (s:Same H H'):LamAt P pos qual H':=by
 obtain ⟨ps,h1,h2,h3⟩:=h;refine ⟨ps,s _ _ h1,h2,h3.imp id λ⟨c,a,b⟩=>⟨c,a,s _ _ b⟩⟩
theorem lam_next {c:Addr}{qual:Str}{H1 H2:Hp}{u v:Value} (h:H2=H1\/∃ ps,H1 P=some (.tbl ps)/\H1 c=none/\H2=upd (upd H1 P (.tbl (ps ++ #[u,v,.ref c]))) c (codeX c qual)):Same (wo P H1) H2:=by
 rcases h with rfl | ⟨ps,h1,h2,rfl⟩
 ·exact wo_same
 ·refine snap_upd ?_ (snap_upd wo_self wo_same);by_cases e:c=P
  ·rw [e,wo_self]
  ·rw [wo_at e];exact h2
theorem wo_keep {a:Addr}{o:HO}{ps:Array Value} (s:Same (wo P H) H') (h:H P=some (.tbl ps)) (e:H a=some o) (n:∀ qs,o ≠ .tbl qs):H' a=some o:=s _ _ (by rw [wo_at (tbl_ne h e n)];exact e)
end
def plcs (wss:List (List Str)) (n:Nat) (s l:Int):List Nat:=(List.range n).filter λp=>fitAt wss p s l
def plc (wss:List (List Str)) (n:Nat) (s l:Int):Option Nat:=if plcs wss n s l=[] then none else some ((plcs wss n s l).getD (leastIx ((plcs wss n s l).map λp=>.int (uAt wss p).length)) 0)
def pOpt:Option Nat->V
 | none=>.non
 | some p=>.int p
theorem plcs_next {wss:List (List Str)}{i:Nat}{s l:Int}:plcs wss (i+1) s l=plcs wss i s l++[i].filter λp=>fitAt wss p s l:=by
 unfold plcs;rw [List.range_succ,List.filter_append]
theorem plcs_len {wss:List (List Str)}{i:Nat}{s l:Int}:(plcs wss i s l).length<=i:=by
 exact Nat.le_trans (List.length_filter_le _ _) (by rw [List.length_range];exact Nat.le_refl _)
theorem plcs_mem {wss:List (List Str)}{n p:Nat}{s l:Int} (h:p∈plcs wss n s l):p<n/\fitAt wss p s l=true:=by
 obtain ⟨h1,h2⟩:=List.mem_filter.mp h;exact ⟨List.mem_range.mp h1,h2⟩
theorem least_lt (wss:List (List Str)) (ps:List Nat) (h:ps≠[]):leastIx (ps.map λp=>PyData.int (uAt wss p).length)<ps.length:=by
 obtain ⟨d,h1,_⟩:=leastIx_ok (all:=ps.map λp=>PyData.int (uAt wss p).length) (Sh.ok .int) (λd hd=>by
  obtain ⟨p,_,rfl⟩:=List.mem_map.mp hd;exact ⟨_,rfl⟩) (λe=>h (List.map_eq_nil_iff.mp e))
 have:=ge_len h1
 rwa [List.length_map] at this
theorem plc_ok {wss:List (List Str)}{n p:Nat}{s l:Int} (h:plc wss n s l=some p):p<n/\fitAt wss p s l=true:=by
 unfold plc at h
 split at h
 ·cases h
 ·rename_i hne;have hl:=least_lt wss _ hne;rw [List.getD_eq_getElem?_getD,List.getElem?_eq_getElem hl] at h;cases h;exact plcs_mem (List.getElem_mem hl)
theorem dep_int (i:Int):(PyData.int i).depth<=100:=Nat.zero_le _
end LG
namespace LG
open PySem L2
structure GpOk {α:Type} (l:List (Key×α)) (p:Key×List α):Prop where
 ne:p.2≠[]
 of:∀ x∈p.2,(p.1,x)∈l
 le:p.2.length<=l.length
theorem put_ok {α:Type}{l:List (Key×α)}{st:List (Key×List α)}{k:Key}{x:α} (h:∀ p∈st,GpOk l p):∀ p∈grpPut st k x,GpOk (l++[(k,x)]) p:=λp hp=>by
 have up:∀ q∈st,GpOk (l++[(k,x)]) q:=λq hq=>⟨(h q hq).ne,λy hy=>List.mem_append_left _ ((h q hq).of y hy),by rw [List.length_append];exact Nat.le_trans (h q hq).le (Nat.le_add_right _ _)⟩;unfold grpPut at hp
 split at hp
 ·obtain ⟨q,hq,rfl⟩:=List.mem_map.mp hp;by_cases e:q.1=k
  ·rw [if_pos e];refine ⟨by simp,λy hy=>?_,?_⟩
   ·rcases List.mem_append.mp hy with z | z
    ·exact (up q hq).of y z
    ·rw [List.mem_singleton.mp z];rw [e];simp
   ·show (q.2++[x]).length<=_;rw [List.length_append,List.length_append,List.length_singleton,List.length_singleton];exact Nat.succ_le_succ (h q hq).le
  ·rw [if_neg e];exact up q hq
 ·rcases List.mem_append.mp hp with z | z
  ·exact up p z
  ·rw [List.mem_singleton.mp z];refine ⟨by simp,λy hy=>?_,by simp⟩
   simp_all
theorem grpAll_ok {α:Type} (l:List (Key×α)):∀ p∈grpAll l,GpOk l p:=by
 have go:∀ (r pre:List (Key×α)) (st:List (Key×List α)),(∀ p∈st,GpOk pre p)->∀ p∈r.foldl (λst p=>grpPut st p.1 p.2) st,GpOk (pre++r) p:=λr=>by
  induction r with
  | nil=>intro pre st h p hp;rw [List.append_nil];exact h p hp
  | cons q r ih=>
   intro pre st h p hp;have:=ih (pre++[q]) (grpPut st q.1 q.2) (put_ok h) p hp
   simp_all
 exact go l [] [] (λp hp=>by cases hp)
def byW (wss:List (List Str)) (p:Nat):List (List (List Str)):=grp ((wAt wss p).map Sum.inr) wss
theorem zip_map {α β:Type} (f:α->β):∀ l:List α,(l.map f).zip l=l.map λx=>(f x,x)
 | []=>rfl
 | a::l=>by rw [List.map_cons,List.zip_cons_cons,zip_map f l];rfl
theorem byW_ok {wss g:List (List Str)}{p:Nat} (h:g∈byW wss p):g≠[]/\g.length<=wss.length/\(∀ ws∈g,ws∈wss)/\∃ w:Str,∀ ws∈g,ws.getD p Str.empty=w:=by
 obtain ⟨q,hq,rfl⟩:=List.mem_map.mp h;have ez:((wAt wss p).map (Sum.inr:Str->Key)).zip wss=wss.map λws=>(Sum.inr (ws.getD p Str.empty),ws):=by
  unfold wAt;rw [List.map_map];exact zip_map _ wss
 rw [ez] at hq;have ok:=grpAll_ok _ q hq;have key:∀ ws∈q.2,ws∈wss/\(Sum.inr (ws.getD p Str.empty):Key)=q.1:=λws hws=>by
  obtain ⟨v,hv,e⟩:=List.mem_map.mp (ok.of ws hws);lia
 refine ⟨ok.ne,?_,λws hws=>(key ws hws).1,?_⟩
 ·have:=ok.le
  rwa [List.length_map] at this
 ·cases e:q.1 with
  | inl i=>
   simp_all
  | inr w=>
   refine ⟨w,λws hws=>?_⟩
   simp_all
theorem GOk.sub {n p:Nat}{wss g:List (List Str)} (h:GOk n wss) (hg:g∈byW wss p):GOk n g:=by
 obtain ⟨h1,h2,h3,_⟩:=byW_ok hg;exact ⟨h1,Nat.lt_of_le_of_lt h2 h.le,h.le12,h.pos,λws hws=>h.row ws (h3 ws hws)⟩
theorem mem_ded {x:Str}:∀ {zs us:List Str},x∈dedS us zs↔x∈us\/x∈zs
 | [],us=>by simp [dedS]
 | z::zs,us=>by
  unfold dedS;rw [mem_ded]
  grind
theorem ded_nodup:∀ {zs us:List Str},us.Nodup->(dedS us zs).Nodup
 | [],us,h=>h
 | z::zs,us,h=>by
  unfold dedS;refine ded_nodup ?_
  grind
def two (wss:List (List Str)) (p:Nat):Bool:=decide (2<=(uAt wss p).length)
theorem two_of {wss:List (List Str)}{p:Nat} (h:two wss p=true):∃ x y,x≠y/\x∈wAt wss p/\y∈wAt wss p:=by
 have nd:(uAt wss p).Nodup:=ded_nodup (by simp);have hm:∀ z∈uAt wss p,z∈wAt wss p:=λz hz=>(mem_ded.mp hz).resolve_left (by simp)
 match e:uAt wss p,(of_decide_eq_true h),nd,hm with
 | x::y::r,_,nd,hm=>exact ⟨x,y,λz=>(List.nodup_cons.mp nd).1 (by rw [z];simp),hm x (by simp),hm y (by simp)⟩
theorem two_mk {wss:List (List Str)}{p:Nat}{x y:Str} (hne:x≠y) (hx:x∈wAt wss p) (hy:y∈wAt wss p):two wss p=true:=by
 have hx':x∈uAt wss p:=mem_ded.mpr (.inr hx);have hy':y∈uAt wss p:=mem_ded.mpr (.inr hy);refine decide_eq_true ?_
 match e:uAt wss p,hx',hy' with
 | [z],hx',hy'=>exact (hne ((List.mem_singleton.mp hx').trans (List.mem_singleton.mp hy').symm)).elim
 | _::_::r,_,_=>simp
def mu (n:Nat) (wss:List (List Str)):Nat:=(List.range n).countP (two wss)
theorem mu_le (n:Nat) (wss:List (List Str)):mu n wss<=n:=by
 exact Nat.le_trans List.countP_le_length (by simp)
theorem countP_lt {l:List Nat}{f g:Nat->Bool}{p:Nat} (h:∀ q,f q=true->g q=true) (hp:p∈l) (h1:f p=false) (h2:g p=true):l.countP f<l.countP g:=by
 induction l with
 | nil=>cases hp
 | cons a l ih=>
  have mono:l.countP f<=l.countP g:=List.countP_mono_left λq _=>h q
  grind
theorem mu_lt {n p:Nat}{wss g:List (List Str)} (hp:p<n) (ht:two wss p=true) (hg:g∈byW wss p):mu n g<mu n wss:=by
 obtain ⟨_,_,h3,w,h4⟩:=byW_ok hg;refine countP_lt (p:=p) (λq hq=>?_) (List.mem_range.mpr hp) ?_ ht
 ·obtain ⟨x,y,hne,hx,hy⟩:=two_of hq;have up:∀ z∈wAt g q,z∈wAt wss q:=λz hz=>by
   obtain ⟨ws,hws,rfl⟩:=List.mem_map.mp hz;exact List.mem_map_of_mem (h3 ws hws)
  exact two_mk hne (up x hx) (up y hy)
 ·rw [Bool.eq_false_iff];intro z;obtain ⟨x,y,hne,hx,hy⟩:=two_of z;obtain ⟨a,ha,rfl⟩:=List.mem_map.mp hx;obtain ⟨b,hb,rfl⟩:=List.mem_map.mp hy
  simp_all
theorem fit_two {wss:List (List Str)}{p:Nat}{s l:Int} (h:fitAt wss p s l=true):two wss p=true:=by
 have:=of_decide_eq_true (Bool.and_eq_true_iff.mp h).1;exact decide_eq_true (by lia)
def prt (n:Nat) (s l:Int):Nat->List (List Str)->List (List (List Str))
 | 0,g=>[g]
 | N+1,g=>match plc g n s l with
  | none=>[g]
  | some p=>(byW g p).flatMap (prt n s l N)
theorem prt_ok {n:Nat}{s l:Int}:∀ {N:Nat}{wss:List (List Str)},GOk n wss->∀ g∈prt n s l N wss,GOk n g
 | 0,wss,h,g,hg=>by rwa [List.mem_singleton.mp hg]
 | N+1,wss,h,g,hg=>by
  unfold prt at hg
  split at hg
  ·simp_all
  ·rename_i p _;obtain ⟨g',h1,h2⟩:=List.mem_flatMap.mp hg;exact prt_ok (h.sub h1) g h2
theorem dens_all2 {K:PySem.W.Frag}{H:Hp}{xs:List V}{wss:List (List Str)}:Dens K H xs (wss.map wsD)->All2 (λx ws=>Den K H x (wsD ws)) xs wss:=by
 induction wss generalizing xs with
 | nil=>intro h;cases h;exact .nil
 | cons ws wss ih=>
  intro h;cases h with
  | cons a t=>exact .cons a (ih t)
theorem all2_dens {K:PySem.W.Frag}{H:Hp}{xs:List V}{wss:List (List Str)} (h:All2 (λx ws=>Den K H x (wsD ws)) xs wss):Dens K H xs (wss.map wsD):=by
 induction h with
 | nil=>exact .nil
 | cons h _ ih=>exact .cons h ih
end LG
namespace LG
open PySem L2
def tot {α:Type} (st:List (Key×List α)):Nat:=(st.map λp=>p.2.length).sum
theorem gput_keys {α:Type}{st:List (Key×List α)}{k:Key}{x:α} (h:(st.map (·.1)).Nodup):((grpPut st k x).map (·.1)).Nodup/\tot (grpPut st k x)=tot st+1:=by
 unfold grpPut
 split
 ·rename_i ha;have e:(st.map λp=>if p.1=k then (p.1,p.2++[x]) else p).map (·.1)=st.map (·.1):=by
   grind [List.map_map,List.map_congr_left]
  refine ⟨by rwa [e],?_⟩;have key:∀ l:List (Key×List α),(l.map (·.1)).Nodup->(l.any λp=>decide (p.1=k))=true->tot (l.map λp=>if p.1=k then (p.1,p.2++[x]) else p)=tot l+1:=λl=>by
   induction l with
   | nil=>intro _ h;cases h
   | cons a l ih=>
    intro hn ha;have hn':=List.nodup_cons.mp hn;by_cases e:a.1=k
    ·have em:(l.map λp=>if p.1=k then (p.1,p.2++[x]) else p)=l:=by
      have:∀ p∈l,(if p.1=k then (p.1,p.2++[x]) else p)=p:=λp hp=>if_neg λz=>hn'.1 (by grind);exact (List.map_congr_left this).trans (List.map_id' l)
     rw [List.map_cons,if_pos e,em];simp [tot];lia
    ·have ha':(l.any λp=>decide (p.1=k))=true:=by
      simp_all
     have:=ih hn'.2 ha';rw [List.map_cons,if_neg e];simp only [tot,List.map_cons,List.sum_cons] at this ⊢;lia
  exact key st h ha
 ·rename_i ha;refine ⟨?_,by simp [tot]⟩
  grind
theorem grpAll_tot {α:Type} (l:List (Key×α)):tot (grpAll l)=l.length:=by
 have go:∀ (r:List (Key×α)) (st:List (Key×List α)),(st.map (·.1)).Nodup->tot (r.foldl (λst p=>grpPut st p.1 p.2) st)=tot st+r.length:=λr=>by
  induction r with
  | nil=>intro st _;rfl
  | cons q r ih=>
   grind [gput_keys,List.foldl_cons,List.length_cons]
 grind [grpAll,tot]
def lens {α:Type} (gs:List (List α)):Nat:=(gs.map List.length).sum
theorem byW_lens (wss:List (List Str)) (p:Nat):lens (byW wss p)=wss.length:=by
 have e:lens (byW wss p)=tot (grpAll (((wAt wss p).map (Sum.inr:Str->Key)).zip wss)):=by
  unfold lens byW grp tot;rw [List.map_map];rfl
 rw [e,(grpAll_tot (((wAt wss p).map (Sum.inr:Str->Key)).zip wss)),List.length_zip,List.length_map];unfold wAt;simp
theorem prt_len {n:Nat}{s l:Int}:∀ {N:Nat}{wss:List (List Str)},wss≠[]->(prt n s l N wss).length<=wss.length
 | 0,wss,h=>by
  exact List.length_pos_iff.mpr h
 | N+1,wss,h=>by
  unfold prt
  split
  ·show 1<=_
   grind
  ·rename_i p _;have key:∀ gs:List (List (List Str)),(∀ g∈gs,g≠[])->(gs.flatMap (prt n s l N)).length<=lens gs:=λgs=>by
    induction gs with
    | nil=>intro _;exact Nat.le_refl _
    | cons g gs ih=>
     intro hg;rw [List.flatMap_cons,List.length_append];have h1:=prt_len (n:=n) (s:=s) (l:=l) (N:=N) (hg g (by simp))
     grind [lens,List.map_cons,List.sum_cons]
   have:=key (byW wss p) λg hg=>(byW_ok hg).1
   rwa [byW_lens] at this
theorem take_le {n:Nat}{s l:Int}{N:Nat}{wss:List (List Str)}{p:Nat} (i:Nat):(((byW wss p).take i).flatMap (prt n s l N)).length<=wss.length:=by
 have key:∀ gs:List (List (List Str)),(∀ g∈gs,g≠[])->(gs.flatMap (prt n s l N)).length<=lens gs:=λgs=>by
  induction gs with
  | nil=>intro _;exact Nat.le_refl _
  | cons g gs ih=>
   grind [List.flatMap_cons,List.length_append,prt_len,lens,List.map_cons,List.sum_cons]
 have mono:∀ (gs:List (List (List Str))) (i:Nat),lens (gs.take i)<=lens gs:=λgs=>by
  induction gs with
  | nil=>intro i;simp [lens]
  | cons g gs ih=>
   intro i;cases i with
   | zero=>simp [lens]
   | succ i=>
    grind [lens,List.take_succ_cons,List.map_cons,List.sum_cons]
 have h1:=key ((byW wss p).take i) λg hg=>(byW_ok (List.mem_of_mem_take hg)).1
 grind [byW,byW_lens]
def hU (A B:Hp):Hp:=λb=>match A b with
 | some o=>some o
 | none=>B b
section
variable {A B H:Hp}
theorem hU_l:Same A (hU A B):=λb o e=>by unfold hU;rw [e]
theorem hU_r (a:Same A H) (b:Same B H):Same B (hU A B):=λc o e=>by
 unfold hU;cases q:A c with
 | none=>exact e
 | some o'=>
  have h2:=b c o e
  rwa [(a c o' q)] at h2
theorem hU_up (a:Same A H) (b:Same B H):Same (hU A B) H:=λc o e=>by
 unfold hU at e
 split at e
 ·rename_i o' q;cases e;exact a c _ q
 ·exact b c o e
theorem hU_none {c:Addr} (a:A c=none) (b:B c=none):hU A B c=none:=by grind [hU]
theorem hU_ne {c:Addr} (h:hU A B c≠none):A c≠none\/B c≠none:=by
 grind [hU]
end
theorem lam_upd {P G:Addr}{pos:Pos}{qual:Str}{H:Hp}{xs ys:List V} (h:LamAt P pos qual H) (hG:H G=some (.lst xs)):LamAt P pos qual (upd H G (.lst ys)):=by
 obtain ⟨ps,h1,h2,h3⟩:=h;have a:P≠G:=λe=>by lia
 refine ⟨ps,by rwa [upd_ne a],h2,h3.imp id λ⟨c,x,y⟩=>⟨c,x,?_⟩⟩;have b:c≠G:=λe=>by rw [e,hG] at y;cases y
 rwa [upd_ne b]
end LG
namespace LG
open PySem L2
def wPat (ws:List Str):List Pt:=ws.map Pt.word
def byL (rss:List (List Str)):List (List (List Str)):=grp (rss.map λws=>(Sum.inl (ws.length:Int):Key)) rss
theorem byL_ok {rss g:List (List Str)} (h:g∈byL rss):g≠[]/\g.length<=rss.length/\(∀ ws∈g,ws∈rss)/\∃ n:Nat,∀ ws∈g,ws.length=n:=by
 obtain ⟨q,hq,rfl⟩:=List.mem_map.mp h;rw [zip_map] at hq;have ok:=grpAll_ok _ q hq;have key:∀ ws∈q.2,ws∈rss/\(Sum.inl (ws.length:Int):Key)=q.1:=λws hws=>by
  obtain ⟨v,hv,e⟩:=List.mem_map.mp (ok.of ws hws);lia
 refine ⟨ok.ne,?_,λws hws=>(key ws hws).1,?_⟩
 ·have:=ok.le
  rwa [List.length_map] at this
 ·obtain ⟨w0,hw0⟩:=List.exists_mem_of_ne_nil _ ok.ne;refine ⟨w0.length,λws hws=>?_⟩
  grind
theorem byL_lens (rss:List (List Str)):lens (byL rss)=rss.length:=by
 have e:lens (byL rss)=tot (grpAll ((rss.map λws=>(Sum.inl (ws.length:Int):Key)).zip rss)):=by
  unfold lens byL grp tot;rw [List.map_map];rfl
 rw [e,(grpAll_tot ((rss.map λws=>(Sum.inl (ws.length:Int):Key)).zip rss)),List.length_zip,List.length_map,Nat.min_self]
def RowsOk (rss:List (List Str)):Prop:=rss.length<64/\∀ ws∈rss,0<ws.length/\ws.length<=12/\∀ w∈ws,PtW (.word w)
def gn (g:List (List Str)):Nat:=(g.headD []).length
theorem gn_ok {rss g:List (List Str)} (h:RowsOk rss) (hg:g∈byL rss):GOk (gn g) g:=by
 obtain ⟨h1,h2,h3,n,h4⟩:=byL_ok hg;obtain ⟨w0,r,rfl⟩:∃ w r,g=w::r:=by
  cases g with
  | nil=>exact (h1 rfl).elim
  | cons w r=>exact ⟨w,r,rfl⟩
 have e:gn (w0::r)=n:=h4 w0 (by simp);have:=h.2 w0 (h3 w0 (by simp));have e0:=h4 w0 (by simp);refine ⟨h1,Nat.lt_of_le_of_lt h2 h.1,by lia,by lia,λws hws=>⟨by rw [e];exact h4 ws hws,(h.2 ws (h3 ws hws)).2.2⟩⟩
def gth1 (s l:Int) (g:List (List Str)):List (List Pt):=(prt (gn g) s l 13 g).map λg'=>joinAll (g'.map wPat) (gn g)
def gth (s l:Int) (rss:List (List Str)):List (List Pt):=(byL rss).flatMap (gth1 s l)
theorem gth_take (s l:Int) (rss:List (List Str)) (i:Nat):(((byL rss).take i).flatMap (gth1 s l)).length<=rss.length:=by
 have key:∀ gs:List (List (List Str)),(∀ g∈gs,g≠[])->(gs.flatMap (gth1 s l)).length<=lens gs:=λgs=>by
  induction gs with
  | nil=>intro _;exact Nat.le_refl _
  | cons g gs ih=>
   grind [List.flatMap_cons,List.length_append,gth1,List.length_map,prt_len,lens,List.map_cons,List.sum_cons]
 have mono:∀ (gs:List (List (List Str))) (i:Nat),lens (gs.take i)<=lens gs:=λgs=>by
  induction gs with
  | nil=>intro i;simp [lens]
  | cons g gs ih=>
   intro i;cases i with
   | zero=>simp [lens]
   | succ i=>
    grind [lens,List.take_succ_cons,List.map_cons,List.sum_cons]
 have h1:=key ((byL rss).take i) λg hg=>(byL_ok (List.mem_of_mem_take hg)).1
 grind [byL,byL_lens]
theorem joinP_w {ps:List Pt} (hne:ps≠[]) (h:∀ p∈ps,PtW p):PtW (joinP ps):=by
 cases ps with
 | nil=>exact (hne rfl).elim
 | cons p r=>
  have hp:=h p (by simp);show PtW (if r.all (λq=>decide (q=p))=true then p else if r.all (λq=>decide (q.around=p.around))=true then .hole p.around else .hole 2)
  split
  ·exact hp
  ·split
   ·exact around_lt hp.ok
   ·exact (by decide:2<3)
theorem joinAll_ok {n:Nat}{g:List (List Str)} (h:GOk n g):PW (joinAll (g.map wPat) n)/\joinAll (g.map wPat) n≠[]/\(joinAll (g.map wPat) n).length<=12:=by
 have hl:(joinAll (g.map wPat) n).length=n:=by unfold joinAll;rw [List.length_map,List.length_range]
 refine ⟨λp hp=>?_,λe=>?_,by rw [hl];exact h.le12⟩
 ·unfold joinAll at hp;obtain ⟨i,hi,rfl⟩:=List.mem_map.mp hp;have hin:=List.mem_range.mp hi;refine joinP_w (λe=>h.ne (List.map_eq_nil_iff.mp (List.map_eq_nil_iff.mp e))) λq hq=>?_;obtain ⟨ps,hps,rfl⟩:=List.mem_map.mp hq;obtain ⟨ws,hws,rfl⟩:=List.mem_map.mp hps;have hrow:=h.row ws hws;have hiw:i<ws.length:=by lia
  unfold wPat
  simp_all
 ·have:=congrArg List.length e;rw [hl] at this;have h0:=h.pos;simp at this;lia
theorem gth1_ok {s l:Int}{g:List (List Str)} (h:GOk (gn g) g):PsOk (gth1 s l g):=λps hps=>by
 obtain ⟨g',hg',rfl⟩:=List.mem_map.mp hps;exact joinAll_ok (prt_ok h g' hg')
theorem gth_ok {s l:Int}{rss:List (List Str)} (h:RowsOk rss):PsOk (gth s l rss):=λps hps=>by
 obtain ⟨g,hg,hp⟩:=List.mem_flatMap.mp hps;exact gth1_ok (gn_ok h hg) ps hp
end LG
namespace LG
open PySem L2
def keysO {α:Type} (l:List (Key×α)):List Key:=l.foldl (λks p=>if (ks.any λq=>decide (q=p.1))=true then ks else ks++[p.1]) []
theorem anyK {k:Key}{ks:List Key}:(ks.any λq=>decide (q=k))=true↔k∈ks:=by
 simp
theorem keysO_in {α:Type}{l:List (Key×α)}{p:Key×α} (h:p.1∈keysO l):keysO (l++[p])=keysO l:=by
 have e:keysO (l++[p])=if ((keysO l).any λq=>decide (q=p.1))=true then keysO l else keysO l++[p.1]:=by
  unfold keysO;simp
 rw [e,if_pos (anyK.mpr h)]
theorem keysO_new {α:Type}{l:List (Key×α)}{p:Key×α} (h:p.1∉keysO l):keysO (l++[p])=keysO l++[p.1]:=by
 have e:keysO (l++[p])=if ((keysO l).any λq=>decide (q=p.1))=true then keysO l else keysO l++[p.1]:=by
  unfold keysO;simp
 simp_all
theorem snoc_ind {α:Type}{C:List α->Prop} (h0:C []) (hs:∀ l x,C l->C (l++[x])) (l:List α):C l:=by
 have:∀ r:List α,C r.reverse:=λr=>by
  induction r with
  | nil=>exact h0
  | cons x r ih=>rw [List.reverse_cons];exact hs _ _ ih
 have e:=this l.reverse
 simp_all
theorem keysO_nodup {α:Type} (l:List (Key×α)):(keysO l).Nodup:=by
 refine snoc_ind (C:=λl=>(keysO l).Nodup) List.nodup_nil (λl p ih=>?_) l;by_cases hn:p.1∈keysO l
 ·rw [keysO_in hn];exact ih
 ·rw [keysO_new hn,List.nodup_append];refine ⟨ih,by simp,λa ha b hb=>?_⟩;rw [List.mem_singleton.mp hb];exact λe=>hn (e ▸ ha)
theorem mem_keysO {α:Type}{k:Key} (l:List (Key×α)):k∈keysO l↔∃ x,(k,x)∈l:=by
 refine snoc_ind (C:=λl=>k∈keysO l↔∃ x,(k,x)∈l) (by simp [keysO]) (λl p ih=>?_) l;have e:k∈keysO (l++[p])↔k∈keysO l\/k=p.1:=by
  grind [keysO,keysO_in,id,keysO_new,List.mem_append,List.mem_singleton]
 grind
def ofK {α:Type} (l:List (Key×α)) (k:Key):List α:=(l.filter λp=>decide (p.1=k)).map (·.2)
theorem ofK_snoc {α:Type} (l:List (Key×α)) (p:Key×α) (k:Key):ofK (l++[p]) k=if p.1=k then ofK l k++[p.2] else ofK l k:=by
 unfold ofK
 grind
theorem ofK_none {α:Type}{l:List (Key×α)}{k:Key} (h:k∉keysO l):ofK l k=[]:=by
 unfold ofK;rw [List.map_eq_nil_iff,List.filter_eq_nil_iff];intro p hp e;exact h ((mem_keysO l).mpr ⟨p.2,by lia⟩)
theorem grpAll_eq {α:Type} (l:List (Key×α)):grpAll l=(keysO l).map λk=>(k,ofK l k):=by
 refine snoc_ind (C:=λl=>grpAll l=(keysO l).map λk=>(k,ofK l k)) rfl (λl p ih=>?_) l;have e:grpAll (l++[p])=grpPut (grpAll l) p.1 p.2:=by
  unfold grpAll;simp
 rw [e,ih];unfold grpPut;by_cases h:p.1∈keysO l
 ·rw [keysO_in h];have h2:(((keysO l).map λk=>(k,ofK l k)).any λq=>decide (q.1=p.1))=true:=by
   simp_all
  rw [if_pos h2,List.map_map];refine List.map_congr_left λk hk=>?_;show (if k=p.1 then (k,ofK l k++[p.2]) else (k,ofK l k))=(k,ofK (l++[p]) k);rw [ofK_snoc];lia
 ·rw [keysO_new h];have h2:¬ (((keysO l).map λk=>(k,ofK l k)).any λq=>decide (q.1=p.1))=true:=by
   simp_all
  rw [if_neg h2,List.map_append]
  congr 1
  ·refine List.map_congr_left λk hk=>?_;rw [ofK_snoc,if_neg (λe:p.1=k=>h (e ▸ hk))]
  ·show [(p.1,[p.2])]=[(p.1,ofK (l++[p]) p.1)];rw [ofK_snoc,if_pos rfl,ofK_none h];rfl
theorem grp_map {α:Type} (f:α->Key) (xs:List α):grp (xs.map f) xs=(keysO (xs.map λx=>(f x,x))).map λk=>xs.filter λx=>decide (f x=k):=by
 unfold grp;rw [zip_map,grpAll_eq,List.map_map];refine List.map_congr_left λk hk=>?_;show ofK (xs.map λx=>(f x,x)) k=_;unfold ofK;rw [List.filter_map,List.map_map];simp [Function.comp_def]
theorem byW_eq (wss:List (List Str)) (p:Nat):∃ ks:List Key,ks.Nodup/\(∀ k,k∈ks↔∃ ws∈wss,(Sum.inr (ws.getD p Str.empty):Key)=k)/\byW wss p=ks.map λk=>wss.filter λws=>decide ((Sum.inr (ws.getD p Str.empty):Key)=k):=by
 refine ⟨_,keysO_nodup (wss.map λws=>((Sum.inr (ws.getD p Str.empty):Key),ws)),λk=>?_,?_⟩
 ·rw [mem_keysO];simp
 ·unfold byW wAt;rw [List.map_map];exact grp_map (λws:List Str=>(Sum.inr (ws.getD p Str.empty):Key)) wss
theorem byL_eq (rss:List (List Str)):∃ ks:List Key,ks.Nodup/\(∀ k,k∈ks↔∃ ws∈rss,(Sum.inl (ws.length:Int):Key)=k)/\byL rss=ks.map λk=>rss.filter λws=>decide ((Sum.inl (ws.length:Int):Key)=k):=by
 refine ⟨_,keysO_nodup (rss.map λws=>((Sum.inl (ws.length:Int):Key),ws)),λk=>?_,?_⟩
 ·rw [mem_keysO];simp
 ·exact grp_map (λws:List Str=>(Sum.inl (ws.length:Int):Key)) rss
theorem mem_byW {wss:List (List Str)}{p:Nat}{ws:List Str}:(∃ g∈byW wss p,ws∈g)↔ws∈wss:=by
 obtain ⟨ks,_,hk,e⟩:=byW_eq wss p;rw [e];constructor
 ·simp_all
 ·intro h;exact ⟨_,List.mem_map.mpr ⟨_,(hk _).mpr ⟨ws,h,rfl⟩,rfl⟩,List.mem_filter.mpr ⟨h,decide_eq_true rfl⟩⟩
theorem mem_byL {rss:List (List Str)}{ws:List Str}:(∃ g∈byL rss,ws∈g)↔ws∈rss:=by
 obtain ⟨ks,_,hk,e⟩:=byL_eq rss;rw [e];constructor
 ·simp_all
 ·intro h;exact ⟨_,List.mem_map.mpr ⟨_,(hk _).mpr ⟨ws,h,rfl⟩,rfl⟩,List.mem_filter.mpr ⟨h,decide_eq_true rfl⟩⟩
theorem mem_prt {n:Nat}{s l:Int}:∀ {N:Nat}{wss:List (List Str)}{ws:List Str},(∃ g∈prt n s l N wss,ws∈g)↔ws∈wss
 | 0,wss,ws=>by simp [prt]
 | N+1,wss,ws=>by
  unfold prt
  split
  ·simp
  ·rename_i p _;constructor
   ·rintro ⟨g,hg,hw⟩;obtain ⟨g',h1,h2⟩:=List.mem_flatMap.mp hg;exact mem_byW.mp ⟨g',h1,mem_prt.mp ⟨g,h2,hw⟩⟩
   ·intro h;obtain ⟨g',h1,h2⟩:=mem_byW.mpr h;obtain ⟨g,h3,h4⟩:=mem_prt.mpr h2;exact ⟨g,List.mem_flatMap.mpr ⟨g',h1,h3⟩,h4⟩
end LG
namespace LG
open PySem L2
theorem prt_sub {n:Nat}{s l:Int}{N:Nat}{wss g:List (List Str)} (hg:g∈prt n s l N wss) {ws:List Str} (h:ws∈g):ws∈wss:=mem_prt.mp ⟨g,hg,h⟩
theorem prt_end {n:Nat}{s l:Int}:∀ {N:Nat}{wss:List (List Str)},mu n wss<=N->∀ g∈prt n s l N wss,plc g n s l=none
 | 0,wss,hm,g,hg=>by
  rw [List.mem_singleton.mp hg];cases e:plc wss n s l with
  | none=>rfl
  | some p=>
   obtain ⟨h1,h2⟩:=plc_ok e;have:0<mu n wss:=List.countP_pos_iff.mpr ⟨p,List.mem_range.mpr h1,fit_two h2⟩;lia
 | N+1,wss,hm,g,hg=>by
  unfold prt at hg
  split at hg
  ·simp_all
  ·rename_i p e;obtain ⟨h1,h2⟩:=plc_ok e;obtain ⟨g',h3,h4⟩:=List.mem_flatMap.mp hg;have:=mu_lt h1 (fit_two h2) h3;exact prt_end (by lia) g h4
theorem joinAll_at {pss:List (List Pt)}{n i:Nat} (hi:i<n):(joinAll pss n)[i]? = some (joinP (pss.map λps=>ps.getD i (.hole 2))):=by
 unfold joinAll
 simp_all
theorem wPat_at {ws:List Str}{i:Nat} (h:i<ws.length):(wPat ws).getD i (.hole 2) = .word (ws.getD i Str.empty):=by
 unfold wPat
 simp_all
theorem col_at {n i:Nat}{g:List (List Str)} (hg:∀ ws∈g,ws.length=n) (hi:i<n):((g.map wPat).map λps=>ps.getD i (.hole 2))=(wAt g i).map Pt.word:=by
 grind [wAt,List.map_map,List.map_congr_left,wPat_at]
theorem joinP_mem {ps qs:List Pt} (hne:ps≠[]) (h:∀ p,p∈ps↔p∈qs):joinP ps=joinP qs:=by
 cases ps with
 | nil=>exact absurd rfl hne
 | cons p r=>
  cases qs with
  | nil=>exact absurd ((h p).mp (List.mem_cons_self ..)) (by simp)
  | cons q t=>
   have key:∀ {x y:Pt}{r t:List Pt},(∀ p,p∈x::r↔p∈y::t)->∀ f:Pt->Pt->Bool,(∀ a,f a a=true)->(∀ a b,f a b=true->f b a=true)->(∀ a b c,f a b=true->f b c=true->f a c=true)->(r.all (λq=>f q x))=true->(t.all (λq=>f q y))=true:=λ{x y r t} h f h1 h2 h3 ha=>by
    have hx:∀ z∈x::r,f z x=true:=λz hz=>by
     grind
    grind
   have kk:∀ f:Pt->Pt->Bool,(∀ a,f a a=true)->(∀ a b,f a b=true->f b a=true)->(∀ a b c,f a b=true->f b c=true->f a c=true)->r.all (λz=>f z p)=t.all (λz=>f z q):=λf h1 h2 h3=>by
    rw [Bool.eq_iff_iff];exact ⟨key h f h1 h2 h3,key (λp=>(h p).symm) f h1 h2 h3⟩
   have k1:=kk (λa b=>decide (a=b)) (λa=>by simp) (λa b e=>by lia) (λa b c e e'=>by lia);have k2:=kk (λa b=>decide (a.around=b.around)) (λa=>by simp) (λa b e=>by lia) (λa b c e e'=>by lia);unfold joinP;simp only at k1 k2 ⊢;rw [<-k1,<-k2];by_cases e1:r.all (λz=>decide (z=p))=true
   ·rw [if_pos e1,if_pos e1];rcases List.mem_cons.mp ((h q).mpr (List.mem_cons_self ..)) with e | e
    ·exact e.symm
    ·grind
   ·grind
theorem join_wordAt {n p:Nat}{w:Str}{g:List (List Str)} (hne:g≠[]) (hg:∀ ws∈g,ws.length=n) (hp:p<n) (hw:∀ ws∈g,ws.getD p Str.empty=w):(joinAll (g.map wPat) n)[p]? = some (.word w):=by
 rw [joinAll_at hp,col_at hg hp];have e:joinP ((wAt g p).map Pt.word)=joinP [.word w]:=joinP_mem (by simpa [wAt] using hne) λq=>by
  rw [List.mem_singleton];constructor
  ·intro hq;obtain ⟨z,hz,rfl⟩:=List.mem_map.mp hq;obtain ⟨ws,h1,rfl⟩:=List.mem_map.mp hz;rw [hw ws h1]
  ·rintro rfl;obtain ⟨ws,h1⟩:=List.exists_mem_of_ne_nil _ hne;exact List.mem_map.mpr ⟨w,List.mem_map.mpr ⟨ws,h1,hw ws h1⟩,rfl⟩
 rw [e];simp [joinP]
end LG
namespace LG
open PySem L2
def jnG (g:List (List Str)):List Pt:=joinAll (g.map wPat) (gn g)
def grs (s l:Int) (rss:List (List Str)):List (List (List Str)):=(byL rss).flatMap λg=>prt (gn g) s l 13 g
theorem gn_of {n:Nat}{g:List (List Str)} (hne:g≠[]) (h:∀ ws∈g,ws.length=n):gn g=n:=by
 cases g with
 | nil=>exact absurd rfl hne
 | cons a r=>exact h a (List.mem_cons_self ..)
theorem GOk.gn {n:Nat}{g:List (List Str)} (h:GOk n g):gn g=n:=gn_of h.ne λws hw=>(h.row ws hw).1
theorem gth_eq {s l:Int}{rss:List (List Str)} (h:RowsOk rss):gth s l rss=(grs s l rss).map jnG:=by
 unfold gth grs gth1;rw [List.map_flatMap];rw [List.flatMap_def,List.flatMap_def]
 congr 1
 refine List.map_congr_left λg hg=>List.map_congr_left λg' hg'=>?_;have:=(prt_ok (gn_ok h hg) g' hg').gn;show _=joinAll (g'.map wPat) (LG.gn g');rw [this]
theorem grs_ok {s l:Int}{rss g:List (List Str)} (h:RowsOk rss) (hg:g∈grs s l rss):GOk (gn g) g/\plc g (gn g) s l=none:=by
 obtain ⟨g',h1,h2⟩:=List.mem_flatMap.mp hg;have ok:=gn_ok h h1;have ok2:=prt_ok ok g h2;rw [ok2.gn];refine ⟨ok2,prt_end (Nat.le_trans (mu_le _ _) (Nat.le_trans ok.le12 (by decide))) g h2⟩
theorem mem_grs {s l:Int}{rss:List (List Str)}{ws:List Str}:(∃ g∈grs s l rss,ws∈g)↔ws∈rss:=by
 rw [<-mem_byL];constructor
 ·rintro ⟨g,hg,hw⟩;obtain ⟨g',h1,h2⟩:=List.mem_flatMap.mp hg
  grind [prt_sub]
 ·rintro ⟨g',h1,h2⟩;obtain ⟨g,h3,h4⟩:=mem_prt.mpr h2;exact ⟨g,List.mem_flatMap.mpr ⟨g',h1,h3⟩,h4⟩
end LG
namespace LG
open PySem L2
theorem ups_unique {a b:List Str} (hp:a.Perm b) (h:UpS a) (h':UpS b):a=b:=by
 refine map_inj (f:=PyData.str) (λx y e=>by injection e) ?_;refine sorted_unique (Sh.ok .str) (λx hx=>?_) (hp.map _) ?_ ?_
 ·obtain ⟨z,_,rfl⟩:=List.mem_map.mp hx;exact ⟨z,rfl⟩
 ·rwa [List.pairwise_map]
 ·rwa [List.pairwise_map]
theorem perm_of_nodup {α:Type} [DecidableEq α] {a b:List α} (ha:a.Nodup) (hb:b.Nodup) (h:∀ x,x∈a↔x∈b):a.Perm b:=(List.perm_ext_iff_of_nodup ha hb).mpr h
end LG
namespace L2
open PySem
theorem for_enum {K:PySem.W.Frag}{a:Addr}{xs:List V}{g:TG}{tb:TS}{D:Ends}{σ:St}{H:Hp} (Pv:Nat->St->Hp->Prop) (h0:Pv 0 σ H) (hl:∀ i σ H,Pv i σ H->SqL K H a xs)
  (hs:∀ i x σ H p,xs[i]? = some x->Pv i σ H->H p=none->g (.ref p) σ (upd H p (.tup [.int i,x])) λσ2 H2=>tb { D with nx:=Pv (i+1),ct:=Pv (i+1),bk:=D.nx } σ2 H2) (hd:∀ σ H,Pv xs.length σ H->D.nx σ H) :
  ∃ W:Nat->Nat->St->Hp->Prop,(∃ m,W 0 m σ H)/\∀ i m σ H,W i m σ H ->
   ((Ite K a).stop i H/\D.nx σ H)\/((Ite K a).go i H/\∃ N:St->Hp->Prop,(∀ σ' H',N σ' H'->∃ m',m' < m/\W (i+1) m' σ' H')/\∀ x H',(Ite K a).yld i H x H'->g x σ H' λσ2 H2=>tb { D with nx:=N,ct:=N,bk:=D.nx } σ2 H2):=by
 refine ⟨λi m σ H=>m+i=xs.length/\Pv i σ H,⟨xs.length,Nat.add_zero _,h0⟩,?_⟩;rintro i m σ H ⟨em,p⟩;have q:=hl i σ H p;cases m with
 | zero=>
  have e:i=xs.length:=by lia
  subst e;exact .inl ⟨⟨xs,q,Nat.le_refl _⟩,hd σ H p⟩
 | succ m=>
  refine .inr ⟨⟨xs,xs[i],q,List.getElem?_eq_getElem (by lia)⟩,Pv (i+1),λσ' H' p'=>⟨m,by lia,by lia,p'⟩,λx H' y=>?_⟩;obtain ⟨t,v,hn,hv,e1,e2⟩:=y;rw [e1,e2];exact hs i v σ H t (hv xs q) p hn
end L2
namespace LG
open PySem L2
theorem ms_mem {zs ms:List Str} (hp:ms.Perm (dedS [] zs)) {z:Str}:z∈ms↔z∈zs:=by
 rw [hp.mem_iff,mem_ded];simp
theorem ms_len {zs ms:List Str} (hp:ms.Perm (dedS [] zs)):ms.length<=zs.length:=by
 rw [hp.length_eq];exact ded_len0 zs
theorem rows_ok {zs ms:List Str} (hp:ms.Perm (dedS [] zs)) (h64:zs.length<64) (hz:∀ z∈zs,∃ ws,LnOk 12 z ws):RowsOk (ms.map λz=>Txt.split z " "):=by
 have:=ms_len hp;refine ⟨by rw [List.length_map];lia,λws hws=>?_⟩;obtain ⟨z,hz',rfl⟩:=List.mem_map.mp hws;obtain ⟨ws,hln⟩:=hz z ((ms_mem hp).mp hz');rw [hln.split];exact ⟨hln.pos,hln.le,λw hw=>⟨(hln.wd w hw).word,Nat.le_trans (hln.wd w hw).len (by decide),(hln.wd w hw).ok⟩⟩
section
variable {s l:Int}{zs ms:List Str}{g:List (List Str)}
end
end LG
namespace LG
open PySem L2
def PlcC (wss:List (List Str)) (s l:Int) (n:Nat):Option Nat->Prop
 | none=>∀ q,q<n->fitAt wss q s l=false
 | some p=>p<n/\fitAt wss p s l=true/\∀ q,q<n->fitAt wss q s l=true->(uAt wss p).length<=(uAt wss q).length/\(q<p->(uAt wss p).length<(uAt wss q).length)
section
variable {wss:List (List Str)}{s l:Int}{n:Nat}
theorem plcC_unique {o o':Option Nat} (h:PlcC wss s l n o) (h':PlcC wss s l n o'):o=o':=by
 cases o with
 | none=>
  cases o' with
  | none=>rfl
  | some p=>have:=h p h'.1;rw [h'.2.1] at this;cases this
 | some p=>
  cases o' with
  | none=>have:=h' p h.1;rw [h.2.1] at this;cases this
  | some q=>
   have a:=h.2.2 q h'.1 h'.2.1;have b:=h'.2.2 p h.1 h.2.1;rcases Nat.lt_trichotomy p q with e | e | e
   ·have:=b.2 e;lia
   ·rw [e]
   ·have:=a.2 e;lia
theorem plcC_plc:PlcC wss s l n (plc wss n s l):=by
 unfold plc;by_cases he:plcs wss n s l=[]
 ·rw [if_pos he];intro q hq;cases hf:fitAt wss q s l with
  | false=>rfl
  | true=>
   have:q∈plcs wss n s l:=by unfold plcs;exact List.mem_filter.mpr ⟨List.mem_range.mpr hq,hf⟩
   rw [he] at this;cases this
 ·rw [if_neg he];have srt:(plcs wss n s l).Pairwise (· < ·):=by unfold plcs;exact List.pairwise_lt_range.sublist List.filter_sublist
  have hmem:∀ q,q<n->fitAt wss q s l=true->q∈plcs wss n s l:=λq hq hf=>by unfold plcs;exact List.mem_filter.mpr ⟨List.mem_range.mpr hq,hf⟩
  have hin:∀ q∈plcs wss n s l,q<n/\fitAt wss q s l=true:=λq hq=>plcs_mem hq;generalize plcs wss n s l=ps at he srt hmem hin;obtain ⟨d,h1,h2,h3⟩:=leastIx_ok (all:=ps.map λp=>PyData.int (uAt wss p).length) (Sh.ok .int) (λd hd=>by
   obtain ⟨p,_,rfl⟩:=List.mem_map.mp hd;exact ⟨_,rfl⟩) (λe=>he (List.map_eq_nil_iff.mp e))
  generalize leastIx (ps.map λp=>PyData.int (uAt wss p).length)=m at h1 h3;rw [List.getElem?_map] at h1;cases hm:ps[m]? with
  | none=>rw [hm] at h1;cases h1
  | some p=>
   rw [hm] at h1;have ed:=Option.some.inj h1;have egd:ps.getD m 0=p:=by rw [List.getD_eq_getElem?_getD,hm];rfl
   rw [egd];have hp:=hin p (List.mem_of_getElem? hm);refine ⟨hp.1,hp.2,λq hq hf=>?_⟩;obtain ⟨i,hi⟩:=List.getElem?_of_mem (hmem q hq hf);have hiq:(ps.map λp=>PyData.int (uAt wss p).length)[i]? = some (.int (uAt wss q).length):=by rw [List.getElem?_map,hi];rfl
   have a:=h2 i _ hiq;rw [<-ed] at a;have a':=of_decide_eq_false (show decide (((uAt wss q).length:Int)<(uAt wss p).length)=false from a);refine ⟨by lia,λhlt=>?_⟩;have him:i<m:=by
    rcases Nat.lt_or_ge i m with z | z
    ·exact z
    ·obtain ⟨hi',ei⟩:=List.getElem?_eq_some_iff.mp hi;obtain ⟨hm',em⟩:=List.getElem?_eq_some_iff.mp hm;rcases Nat.lt_or_ge m i with y | y
     ·have:=List.pairwise_iff_getElem.mp srt m i hm' hi' y;rw [ei,em] at this;lia
     ·have:i=m:=by lia
      subst this;rw [hi] at hm;have:=Option.some.inj hm;lia
   have b:=h3 i _ him hiq;rw [<-ed] at b;have b':=of_decide_eq_true (show decide (((uAt wss p).length:Int)<(uAt wss q).length)=true from b);lia
end
theorem mem_ded0 {w:Str}{zs:List Str}:w∈dedS [] zs↔w∈zs:=by rw [mem_ded];simp
theorem words_groups {β:Type}{wss:List (List Str)}{p:Nat}{ms:List Str} (hp:ms.Perm (dedS [] (wAt wss p))) (f:List (List Str)->List β):(ms.flatMap λw=>f (wss.filter λws=>decide (ws.getD p Str.empty=w))).Perm ((byW wss p).flatMap f):=by
 obtain ⟨ks,nd,hk,e⟩:=byW_eq wss p;rw [e,List.flatMap_map];have hperm:(ms.map (Sum.inr:Str->Key)).Perm ks:=by
  refine (List.perm_ext_iff_of_nodup ?_ nd).mpr λk=>?_
  ·rw [List.nodup_iff_pairwise_ne,List.pairwise_map];exact (hp.nodup_iff.mpr (ded_nodup List.nodup_nil)).imp λh z=>h (Sum.inr.inj z)
  ·rw [hk,List.mem_map];constructor
   ·rintro ⟨w,hw,rfl⟩;obtain ⟨ws,h1,h2⟩:=List.mem_map.mp (mem_ded0.mp (hp.mem_iff.mp hw));exact ⟨ws,h1,by rw [<-h2]⟩
   ·rintro ⟨ws,h1,rfl⟩;exact ⟨_,hp.mem_iff.mpr (mem_ded0.mpr (List.mem_map.mpr ⟨ws,h1,rfl⟩)),rfl⟩
 have:=hperm.flatMap_right (λk=>f (wss.filter λws=>decide ((Sum.inr (ws.getD p Str.empty):Key)=k)));rw [List.flatMap_map] at this;refine List.Perm.trans (List.Perm.of_eq ?_) this
 congr 1
 funext w
 congr 2
 funext ws
 rw [decide_eq_decide];exact ⟨λz=>by rw [z],λz=>Sum.inr.inj z⟩
end LG
namespace LG
open PySem L2
theorem ups_exists (us:List Str):∃ ms:List Str,ms.Perm us/\UpS ms:=by
 have o:=Sh.ok .str;have hs:∀ x:Str,Sh.str.has (.str x):=λx=>⟨x,rfl⟩;refine ⟨us.mergeSort λx y=>!ltv (.str y) (.str x),List.mergeSort_perm _ _,?_⟩;refine (List.pairwise_mergeSort (λa b c h1 h2=>?_) (λa b=>?_) us).imp λ{a b} h=>by simpa using h
 ·cases q:ltv (.str c) (.str a) with
  | false=>rfl
  | true=>
   rcases o.neg (hs c) (hs b) (hs a) q with e | e
   ·rw [e] at h2;cases h2
   ·rw [e] at h1;cases h1
 ·cases q:ltv (.str b) (.str a) with
  | false=>rfl
  | true=>rw [o.asymm (hs b) (hs a) q];rfl
end LG
namespace LG
open PySem L2
def nV (i:Nat):V:=V.int (i:Int)
noncomputable def msOf (zs:List Str):List Str:=(ups_exists (dedS [] zs)).choose
theorem msOf_ok (zs:List Str):(msOf zs).Perm (dedS [] zs)/\UpS (msOf zs):=(ups_exists (dedS [] zs)).choose_spec
theorem ms_is {zs ms:List Str} (hp:ms.Perm (dedS [] zs)) (hu:UpS ms):ms=msOf zs:=ups_unique (hp.trans (msOf_ok zs).1.symm) hu (msOf_ok zs).2
noncomputable def gthZ (s l:Int) (zs:List Str):List (List Pt):=gth s l ((msOf zs).map λz=>Txt.split z " ")
noncomputable def newsB (s l:Int) (zs:List Str) (z:Str):Bool:=!((gthZ s l zs).any λp=>takesAll p (Txt.split z " "))
noncomputable def newsL (s l:Int) (zs:List Str) (n:Nat):List Nat:=(List.range n).filter λi=>newsB s l (zs.take i) (zs.getD i Str.empty)
theorem any_perm {α:Type}{f:α->Bool}{a b:List α} (h:a.Perm b):a.any f=b.any f:=by
 rw [Bool.eq_iff_iff,List.any_eq_true,List.any_eq_true];exact ⟨λ⟨x,h1,h2⟩=>⟨x,h.mem_iff.mp h1,h2⟩,λ⟨x,h1,h2⟩=>⟨x,h.mem_iff.mpr h1,h2⟩⟩
theorem newsB_of {s l:Int}{zs ms:List Str}{z:Str}{ps:List (List Pt)} (hp:ms.Perm (dedS [] zs)) (hu:UpS ms) (hps:ps.Perm (gth s l (ms.map λz=>Txt.split z " "))):newsB s l zs z = !(ps.any λp=>takesAll p (Txt.split z " ")):=by
 unfold newsB gthZ;rw [<-ms_is hp hu,any_perm hps]
theorem newsL_next {s l:Int}{zs:List Str}{n:Nat}:newsL s l zs (n+1)=newsL s l zs n++[n].filter λi=>newsB s l (zs.take i) (zs.getD i Str.empty):=by
 unfold newsL;rw [List.range_succ,List.filter_append]
theorem newsL_len {s l:Int}{zs:List Str}{n:Nat}:(newsL s l zs n).length<=n:=by
 unfold newsL;exact Nat.le_trans (List.length_filter_le _ _) (by rw [List.length_range];exact Nat.le_refl _)
end LG
namespace LG
open PySem L2
def oP:Option (List Pt)->PyData
 | none=>.none
 | some ps=>patD ps
def rowD (r:Int×Str):PyData:=.tuple [.int r.1,.str r.2]
def FstR (bs:List (List Pt)) (z:Str) (o:Option (List Pt)):Prop:=(bs.filter (fitsB z)=[]/\o=none)\/∃ p,o=some p/\Least (bs.filter (fitsB z)) p
def FallR (bs fs:List (List Pt)) (z:Str) (o:Option (List Pt)):Prop:=(∃ p,o=some p/\Least (bs.filter (fitsB z)) p)\/(bs.filter (fitsB z)=[]/\FstR fs z o)
def FallsR (bs fs:List (List Pt)) (zs:List Str) (os:List (Option (List Pt))):Prop:=os.length=zs.length/\∀ (i:Nat) z o,zs[i]? = some z->os[i]? = some o->FallR bs fs z o
structure IsGth (s l:Int) (zs:List Str) (ps:List (List Pt)):Prop where
 ex:∃ ms:List Str,ms.Perm (dedS [] zs)/\UpS ms/\ps.Perm (gth s l (ms.map λz=>Txt.split z " "))
 ord:KOrd ps
 ok:PsOk ps
 lt:ps.length<64
def offB (bs:List (List Pt)) (zs:List Str):List Str:=zs.filter λz=>(bs.filter (fitsB z)).isEmpty
section
variable {K:PySem.W.Frag}{H H':Hp}{g C dx:Addr}{fs:List (Str×V)}
end
def core (H:Hp):Hp:=λc=>match H c with | some (.ins _ _ _)=>none | some (.tbl _)=>none | o=>o
structure StV where
 rs:List (Int×Str)
 bs:List (List Pt)
 fs:List (List Pt)
 os:List (Option (List Pt))
def StV.zs (v:StV):List Str:=v.rs.map (·.2)
structure StV.Ok (v:StV) (s l:Int):Prop where
 gth:IsGth s l (offB v.bs v.zs) v.fs
 fls:FallsR v.bs v.fs v.zs v.os
 lns:∀ q∈v.rs,∃ ws,LnOk 12 q.2 ws
 hnd:PsOk v.bs
 rl:v.rs.length<64
 bl:v.bs.length<64
structure LogV where
 s:Int
 l:Int
 cur:StV
 ah:StV
 past:List (List (Int×Str)×List (List Pt))
 tbk:List (List (Int×Str)×List (List Pt))
def StAt (K:PySem.W.Frag) (C:Addr) (B:Hp) (st:Addr) (v:StV):Prop:=∃ (dx r b f fl:Addr) (rv bv fv lv:List V),B st=some (.ins C dx [("rows",.ref r),("by_hand",.ref b),("found",.ref f),("falls",.ref fl)]) /\
 B r=some (.lst rv)/\Dens K B rv (v.rs.map rowD)/\B b=some (.lst bv)/\Dens K B bv (v.bs.map patD)/\B f=some (.lst fv)/\Dens K B fv (v.fs.map patD)/\B fl=some (.lst lv)/\Dens K B lv (v.os.map oP)
def HeldAt (K:PySem.W.Frag) (B:Hp) (x:V) (h:List (Int×Str)×List (List Pt)):Prop:=∃ (t r b:Addr) (rv bv:List V),x = .ref t/\SqT K B t [.ref r,.ref b]/\B r=some (.lst rv)/\Dens K B rv (h.1.map rowD)/\B b=some (.lst bv)/\Dens K B bv (h.2.map patD)
def HeldsAt (K:PySem.W.Frag) (B:Hp) (xs:List V) (l:List (List (Int×Str)×List (List Pt))):Prop:=xs.length=l.length/\∀ (i:Nat) x h,xs[i]? = some x->l[i]? = some h->HeldAt K B x h
section
variable {K:PySem.W.Frag}{B B':Hp}{xs:List V}{x:V}{l:List (List (Int×Str)×List (List Pt))}{h:List (Int×Str)×List (List Pt)}
end
def LogAt (K:PySem.W.Frag) (CL CS:Addr) (B H:Hp) (g pa tb:Addr) (v:LogV):Prop:=∃ (dx t st ah:Addr) (pv tv:List V),H g=some (.ins CL dx [("sieve",.ref t),("state",.ref st),("ahead",.ref ah),("past",.ref pa),("taken_back",.ref tb)]) /\
 H pa=some (.lst pv)/\H tb=some (.lst tv)/\Same B H/\B g=none/\B pa=none/\B tb=none/\pa≠tb/\SqT K B t [.int v.s,.int v.l]/\StAt K CS B st v.cur/\StAt K CS B ah v.ah/\HeldsAt K B pv v.past/\HeldsAt K B tv v.tbk/\v.cur.Ok v.s v.l/\v.ah.Ok v.s v.l
section
variable {K:PySem.W.Frag}{CL CS:Addr}{B B' H H':Hp}{g pa tb d:Addr}{v:LogV}
end
section
variable {B H H':Hp}{g pa tb c:Addr}{o:HO}
end
def MutO (o:HO):Prop:=(∃ ys,o = .lst ys)\/(∃ C dx fs,o = .ins C dx fs)\/∃ ps,o = .tbl ps
end LG
namespace LG
open PySem L2
def sp__law_deckT (K:PySem.W.Frag):Sp:=λvs H Q _=>∃ (c:Int) (m:Nat),vs=[.int c,.int m]/\m<10000/\∀ d H',H d=none->Same H H'->Dk H' d m->Q (.ref d) H'
end LG
namespace LG
open PySem L2
def sp__law_linesW (K:PySem.W.Frag):Sp:=λvs H Q _=>∃ (d:Addr) (m:Int) (n:Nat),vs=[.ref d,.int m]/\Dk H d n/\n<700000/\0<=m/\m<=60 /\
 ∀ D (ls U:List Str) H',H D=none->Same (wo d H) H'->Dk H' d (n+2000)->H' D=some (.lst (ls.map V.str))->(∀ x∈ls,∃ ws,LnOk 12 x ws/\∀ w∈ws,w∈U)->ls.length<=m.toNat->U.length<=36+2 * m.toNat->Q (.ref D) H'
def ShapesU (U:List Str) (Hs:Hp) (acc:List V):Prop:=∀ x∈acc,∃ (s:Addr) (ws:List Str),x = .ref s/\Hs s=some (.lst (ws.map V.str))/\WsOk ws/\∀ w∈ws,w∈U
end LG
namespace LG
open PySem L2
def Pt.ren (f:Str->Str):Pt->Pt
 | .word w=>.word (f w)
 | .hole k=>.hole k
structure Tr (n n':Nat) (φ:List Str->List Str) (π:Nat->Nat) (f:Str->Str) (wss:List (List Str)):Prop where
 mono:∀ p q,p<q->π p<π q
 bd:∀ p,p<n->π p<n'
 ln:∀ ws∈wss,ws.length=n
 len:∀ ws∈wss,(φ ws).length=n'
 val:∀ ws∈wss,∀ p,p<n->(φ ws).getD (π p) Str.empty=f (ws.getD p Str.empty)
 rest:∀ q,q<n'->(∃ p,p<n/\q=π p)\/∃ c,∀ ws∈wss,(φ ws).getD q Str.empty=c
 inj:∀ ws∈wss,∀ vs∈wss,∀ w∈ws,∀ v∈vs,f w=f v->w=v
 kind:∀ ws∈wss,∀ w∈ws,kindT (f w)=kindT w
theorem getD_mem {ws:List Str}{p:Nat} (h:p<ws.length):ws.getD p Str.empty∈ws:=by
 rw [List.getD_eq_getElem?_getD,List.getElem?_eq_getElem h];exact List.getElem_mem _
theorem flat_perm {α β:Type}{F G:α->List β}:∀ {l:List α},(∀ a∈l,(F a).Perm (G a))->(l.flatMap F).Perm (l.flatMap G)
 | [],_=>.refl _
 | a::l,h=>by
  rw [List.flatMap_cons,List.flatMap_cons];exact (h a (List.mem_cons_self ..)).append (flat_perm λb hb=>h b (List.mem_cons_of_mem _ hb))
section
variable {n n':Nat}{φ:List Str->List Str}{π:Nat->Nat}{f:Str->Str}{wss wss':List (List Str)}{s l:Int}
theorem Tr.sub {g:List (List Str)} (t:Tr n n' φ π f wss) (h:∀ ws∈g,ws∈wss):Tr n n' φ π f g:=
 ⟨t.mono,t.bd,λws hw=>t.ln ws (h ws hw),λws hw=>t.len ws (h ws hw),λws hw=>t.val ws (h ws hw),λq hq=>(t.rest q hq).imp id λ⟨c,hc⟩=>⟨c,λws hw=>hc ws (h ws hw)⟩,λws hw vs hv=>t.inj ws (h ws hw) vs (h vs hv),λws hw=>t.kind ws (h ws hw)⟩
theorem Tr.wmem (t:Tr n n' φ π f wss) {p:Nat} (hp:p<n) {w:Str} (h:w∈wAt wss p):∃ ws∈wss,w∈ws/\ws.getD p Str.empty=w:=by
 obtain ⟨ws,hw,rfl⟩:=List.mem_map.mp h;have hl:=t.ln ws hw;exact ⟨ws,hw,getD_mem (by lia),rfl⟩
theorem Tr.winj (t:Tr n n' φ π f wss) {p:Nat} (hp:p<n) {w v:Str} (h:w∈wAt wss p) (h':v∈wAt wss p) (e:f w=f v):w=v:=by
 obtain ⟨ws,a,b,_⟩:=t.wmem hp h;obtain ⟨vs,a',b',_⟩:=t.wmem hp h';exact t.inj ws a vs a' w b v b' e
theorem Tr.col (t:Tr n n' φ π f wss) (h:wss'.Perm (wss.map φ)) {p:Nat} (hp:p<n):(wAt wss' (π p)).Perm ((wAt wss p).map f):=by
 have:=h.map λws=>ws.getD (π p) Str.empty;unfold wAt;rw [List.map_map] at this ⊢;refine this.trans (.of_eq (List.map_congr_left λws hw=>t.val ws hw p hp))
theorem Tr.ucol (t:Tr n n' φ π f wss) (h:wss'.Perm (wss.map φ)) {p:Nat} (hp:p<n):((uAt wss p).map f).Perm (uAt wss' (π p)):=by
 have nd:((uAt wss p).map f).Nodup:=by
  refine List.pairwise_map.mpr ?_;have:=ded_nodup (zs:=wAt wss p) (us:=[]) (by simp);refine List.Pairwise.imp_of_mem (λ{a b} ha hb ne e=>ne (t.winj hp (mem_ded0.mp ha) (mem_ded0.mp hb) e)) this
 refine perm_of_nodup nd (ded_nodup (by simp)) λx=>?_;unfold uAt;rw [mem_ded0,(t.col h hp).mem_iff,List.mem_map,List.mem_map];simp only [mem_ded0]
theorem Tr.fit (t:Tr n n' φ π f wss) (h:wss'.Perm (wss.map φ)) {p:Nat} (hp:p<n):fitAt wss' (π p) s l=fitAt wss p s l:=by
 have u:=t.ucol h hp;have e:=u.length_eq;rw [List.length_map] at e;unfold fitAt;rw [<-e,<-u.all_eq,List.all_map]
 congr 2
 rw [Bool.eq_iff_iff,List.all_eq_true,List.all_eq_true];have k:∀ w∈uAt wss p,((wAt wss' (π p)).countP λz=>decide (z=f w))=(wAt wss p).countP λz=>decide (z=w):=λw hw=>by
  rw [(t.col h hp).countP_eq,List.countP_map];refine List.countP_congr λz hz=>?_;simp only [Function.comp,decide_eq_true_eq];exact ⟨λe=>t.winj hp hz (mem_ded0.mp hw) e,λe=>by rw [e]⟩
 exact ⟨λa w hw=>by have:=a w hw;simp only [Function.comp,k w hw] at this;exact this,λa w hw=>by simp only [Function.comp,k w hw];exact a w hw⟩
theorem Tr.unfit (h:wss'.Perm (wss.map φ)) {q:Nat}{c:Str} (hc:∀ ws∈wss,(φ ws).getD q Str.empty=c):fitAt wss' q s l=false:=by
 rw [Bool.eq_false_iff];intro z;obtain ⟨x,y,ne,hx,hy⟩:=two_of (fit_two z);have k:∀ x∈wAt wss' q,x=c:=λx hx=>by
  obtain ⟨ws,hw,rfl⟩:=List.mem_map.mp hx;obtain ⟨vs,hv,rfl⟩:=List.mem_map.mp (h.mem_iff.mp hw);exact hc vs hv
 exact ne ((k x hx).trans (k y hy).symm)
theorem Tr.plc (t:Tr n n' φ π f wss) (h:wss'.Perm (wss.map φ)):plc wss' n' s l=(plc wss n s l).map π:=by
 have c:=plcC_plc (wss:=wss) (n:=n) (s:=s) (l:=l);refine plcC_unique plcC_plc ?_;have inv:∀ q,q<n'->fitAt wss' q s l=true->∃ p,p<n/\q=π p:=λq hq hf=>by
  rcases t.rest q hq with z | ⟨c,z⟩
  ·exact z
  ·rw [Tr.unfit h z] at hf;cases hf
 have ul:∀ p,p<n->(uAt wss' (π p)).length=(uAt wss p).length:=λp hp=>by
  have:=(t.ucol h hp).length_eq;rw [List.length_map] at this;exact this.symm
 cases e:LG.plc wss n s l with
 | none=>
  rw [e] at c;intro q hq;cases hf:fitAt wss' q s l with
  | false=>rfl
  | true=>
   obtain ⟨p,hp,rfl⟩:=inv q hq hf;rw [t.fit h hp,c p hp] at hf;cases hf
 | some p=>
  rw [e] at c;obtain ⟨hp,hf,ho⟩:=c;refine ⟨t.bd p hp,by rw [t.fit h hp];exact hf,λq hq hfq=>?_⟩;obtain ⟨p',hp',rfl⟩:=inv q hq hfq;rw [t.fit h hp'] at hfq;rw [ul p hp,ul p' hp'];obtain ⟨a,b⟩:=ho p' hp' hfq;refine ⟨a,λz=>b ?_⟩;rcases Nat.lt_trichotomy p' p with q | q | q
  ·exact q
  ·rw [q] at z;lia
  ·have:=t.mono p p' q;lia
theorem Tr.prt {J J':List (List Str)->List Pt}{τ:List Pt->List Pt} (hJ:∀ g g',g≠[]->(∀ ws∈g,ws∈wss)->g'.Perm (g.map φ)->J' g' = τ (J g)) (t:Tr n n' φ π f wss) :
  ∀ (N:Nat) {g g':List (List Str)},g≠[]->(∀ ws∈g,ws∈wss)->g'.Perm (g.map φ)->((LG.prt n' s l N g').map J').Perm (((LG.prt n s l N g).map J).map τ)
 | 0,g,g',hne,hs,h=>by
  unfold LG.prt;simp [hJ g g' hne hs h]
 | N+1,g,g',hne,hs,h=>by
  have tg:=t.sub hs;unfold LG.prt;rw [tg.plc h];have c:=plcC_plc (wss:=g) (n:=n) (s:=s) (l:=l);cases e:LG.plc g n s l with
  | none=>simp [hJ g g' hne hs h]
  | some p=>
   rw [e] at c;have hp:=c.1;show (List.map J' ((byW g' (π p)).flatMap (LG.prt n' s l N))).Perm (List.map τ (List.map J ((byW g p).flatMap (LG.prt n s l N))));rw [List.map_flatMap,List.map_map,List.map_flatMap];refine (words_groups (ms:=(uAt g p).map f) (tg.ucol h hp) λg=>(LG.prt n' s l N g).map J').symm.trans (.trans ?_ (words_groups (ms:=uAt g p) (.refl _) λg=>(LG.prt n s l N g).map (τ ∘ J)));rw [List.flatMap_map];refine flat_perm λw hw=>?_;have hw':=mem_ded0.mp hw;obtain ⟨ws,hws,hin,hat⟩:=tg.wmem hp hw';have z:=Tr.prt hJ t N (g:=g.filter λws=>decide (ws.getD p Str.empty=w)) (g':=g'.filter λws=>decide (ws.getD (π p) Str.empty=f w)) (λe=>by
    have:ws∈g.filter λws=>decide (ws.getD p Str.empty=w):=List.mem_filter.mpr ⟨hws,decide_eq_true hat⟩;rw [e] at this;cases this) (λws h=>hs ws (List.mem_filter.mp h).1) (by
    refine (h.filter _).trans ?_;rw [List.filter_map];refine .of_eq (congrArg _ (List.filter_congr λvs hv=>?_));simp only [Function.comp,tg.val vs hv p hp];rw [decide_eq_decide];exact ⟨λe=>tg.winj hp (List.mem_map_of_mem hv) hw' e,λe=>by rw [e]⟩)
   rwa [List.map_map] at z
theorem joinP_ren {f:Str->Str}{ws:List Str} (hi:∀ w∈ws,∀ v∈ws,f w=f v->w=v) (hk:∀ w∈ws,kindT (f w)=kindT w):joinP ((ws.map f).map Pt.word)=(joinP (ws.map Pt.word)).ren f:=by
 cases ws with
 | nil=>rfl
 | cons w r=>
  simp only [List.map_cons,joinP];have a:((List.map Pt.word (List.map f r)).all λq=>decide (q=Pt.word (f w)))=((List.map Pt.word r).all λq=>decide (q=Pt.word w)):=by
   rw [Bool.eq_iff_iff];simp only [List.all_eq_true,List.map_map,List.forall_mem_map,Function.comp,decide_eq_true_eq,Pt.word.injEq];exact ⟨λh x hx=>hi x (List.mem_cons_of_mem _ hx) w (List.mem_cons_self ..) (h x hx),λh x hx=>by rw [h x hx]⟩
  have b:((List.map Pt.word (List.map f r)).all λq=>decide (q.around=(Pt.word (f w)).around))=((List.map Pt.word r).all λq=>decide (q.around=(Pt.word w).around)):=by
   rw [Bool.eq_iff_iff];simp only [List.all_eq_true,List.map_map,List.forall_mem_map,Function.comp,decide_eq_true_eq];have k0:(Pt.word (f w)).around=(Pt.word w).around:=hk w (List.mem_cons_self ..);have k:∀ x∈r,(Pt.word (f x)).around=(Pt.word x).around:=λx hx=>hk x (List.mem_cons_of_mem _ hx);exact ⟨λh x hx=>(k x hx).symm.trans ((h x hx).trans k0),λh x hx=>(k x hx).trans ((h x hx).trans k0.symm)⟩
  rw [a,b]
  split
  ·rfl
  ·split
   ·show Pt.hole (kindT (f w))=Pt.hole (kindT w);rw [hk w (List.mem_cons_self ..)]
   ·rfl
theorem joinP_word {ws:List Str}{w:Str} (h:joinP (ws.map Pt.word) = .word w):w∈ws:=by
 cases ws with
 | nil=>cases h
 | cons x r=>
  simp only [List.map_cons,joinP] at h
  split at h
  ·cases h;exact List.mem_cons_self ..
  ·split at h <;> cases h
theorem jn_of {g g':List (List Str)} (t:Tr n n' φ π f g) (hne:g≠[]) (h:g'.Perm (g.map φ)) {p:Nat} (hp:p<n):joinP ((g'.map wPat).map λps=>ps.getD (π p) (.hole 2))=(joinP ((g.map wPat).map λps=>ps.getD p (.hole 2))).ren f:=by
 have hl:∀ ws∈g',ws.length=n':=λws hw=>by
  obtain ⟨vs,hv,rfl⟩:=List.mem_map.mp (h.mem_iff.mp hw);exact t.len vs hv
 rw [col_at hl (t.bd p hp),col_at t.ln hp,<-joinP_ren (λw hw v hv=>t.winj hp hw hv) λw hw=>by
  obtain ⟨ws,a,b,_⟩:=t.wmem hp hw;exact t.kind ws a w b]
 have c:=t.col h hp;refine joinP_mem (λe=>hne ?_) λq=>(c.map Pt.word).mem_iff;have:=(c.map Pt.word).length_eq;rw [e] at this;exact List.eq_nil_of_length_eq_zero (by simpa [wAt] using this.symm)
theorem jn_rest {g g':List (List Str)} (t:Tr n n' φ π f g) (hne:g≠[]) (h:g'.Perm (g.map φ)) {q:Nat} (hq:q<n') {c:Str} (hc:∀ ws∈g,(φ ws).getD q Str.empty=c):joinP ((g'.map wPat).map λps=>ps.getD q (.hole 2)) = .word c:=by
 have hl:∀ ws∈g',ws.length=n'/\ws.getD q Str.empty=c:=λws hw=>by
  obtain ⟨vs,hv,rfl⟩:=List.mem_map.mp (h.mem_iff.mp hw);exact ⟨t.len vs hv,hc vs hv⟩
 have:=join_wordAt (g:=g') (λe=>by rw [e] at h;exact hne (List.map_eq_nil_iff.mp h.nil_eq.symm)) (λws hw=>(hl ws hw).1) hq λws hw=>(hl ws hw).2;rw [joinAll_at hq] at this;exact Option.some.inj this
end
end LG
namespace LG
open PySem L2
section
variable {φ:List Str->List Str}{π:Nat->Nat}{f:Str->Str}{τ:List Pt->List Pt}{s l:Int}{δ:Nat}
def shK (δ:Nat):Key->Key
 | .inl i=>.inl (i+δ)
 | .inr x=>.inr x
theorem gth_tr {rss rss':List (List Str)} (hT:∀ n g,(∀ ws∈g,ws∈rss/\ws.length=n)->Tr n (n+δ) φ π f g) (hJ:∀ (n:Nat) (g g':List (List Str)),Tr n (n+δ) φ π f g->g≠[]->g'.Perm (g.map φ)->joinAll (g'.map wPat) (n+δ)=τ (joinAll (g.map wPat) n)) (h:rss'.Perm (rss.map φ)):(gth s l rss').Perm ((gth s l rss).map τ):=by
 have hl:∀ ws∈rss,(φ ws).length=ws.length+δ:=λws hw=>(hT ws.length [ws] λvs hv=>by rw [List.mem_singleton.mp hv];exact ⟨hw,rfl⟩).len ws (List.mem_singleton.mpr rfl);obtain ⟨ks,nd,hk,e⟩:=byL_eq rss;obtain ⟨ks',nd',hk',e'⟩:=byL_eq rss';have pk:(ks.map (shK δ)).Perm ks':=by
  have nk:(ks.map (shK δ)).Nodup:=List.pairwise_map.mpr (nd.imp_of_mem λ{a b} ha hb ne z=>ne (by
   obtain ⟨_,_,rfl⟩:=(hk a).mp ha;obtain ⟨_,_,rfl⟩:=(hk b).mp hb;have:=Sum.inl.inj z;exact congrArg Sum.inl (by lia)))
  refine perm_of_nodup nk nd' λk=>?_
  ·rw [List.mem_map,hk'];constructor
   ·rintro ⟨k0,hm,rfl⟩;obtain ⟨ws,hw,rfl⟩:=(hk k0).mp hm;exact ⟨φ ws,h.mem_iff.mpr (List.mem_map_of_mem hw),congrArg Sum.inl (by rw [hl ws hw];lia)⟩
   ·rintro ⟨ws',hw',rfl⟩;obtain ⟨ws,hw,rfl⟩:=List.mem_map.mp (h.mem_iff.mp hw');exact ⟨_,(hk _).mpr ⟨ws,hw,rfl⟩,congrArg Sum.inl (by rw [hl ws hw];lia)⟩
 unfold gth;rw [e,e',List.flatMap_map,List.flatMap_map,List.map_flatMap];refine (pk.symm.flatMap_right _).trans ?_;rw [List.flatMap_map];refine flat_perm λk hm=>?_;obtain ⟨ws,hw,rfl⟩:=(hk k).mp hm;have eg:(rss.filter λvs=>decide ((Sum.inl (vs.length:Int):Key)=Sum.inl (ws.length:Int)))=rss.filter λvs=>decide (vs.length=ws.length):=List.filter_congr λvs _=>by
  rw [decide_eq_decide];exact ⟨λz=>by have:=Sum.inl.inj z;lia,λz=>by rw [z]⟩
 have eg':(rss'.filter λvs=>decide ((Sum.inl (vs.length:Int):Key)=shK δ (Sum.inl (ws.length:Int))))=rss'.filter λvs=>decide (vs.length=ws.length+δ):=List.filter_congr λvs _=>by
  rw [decide_eq_decide];exact ⟨λz=>by have:=Sum.inl.inj z;lia,λz=>congrArg Sum.inl (by lia)⟩
 rw [eg,eg'];generalize hg:(rss.filter λvs=>decide (vs.length=ws.length))=g;generalize hg':(rss'.filter λvs=>decide (vs.length=ws.length+δ))=g';have gin:∀ vs∈g,vs∈rss/\vs.length=ws.length:=λvs hv=>by
  rw [<-hg] at hv;exact ⟨(List.mem_filter.mp hv).1,of_decide_eq_true (List.mem_filter.mp hv).2⟩
 have hne:g≠[]:=λe=>by
  have:ws∈g:=by rw [<-hg];exact List.mem_filter.mpr ⟨hw,decide_eq_true rfl⟩
  rw [e] at this;cases this
 have pg:g'.Perm (g.map φ):=by
  rw [<-hg,<-hg'];refine (h.filter _).trans ?_;rw [List.filter_map];refine .of_eq (congrArg _ (List.filter_congr λvs hv=>?_));simp only [Function.comp,hl vs hv];rw [decide_eq_decide];lia
 have t:=hT _ g gin;have e1:gn g=ws.length:=gn_of hne λvs hv=>(gin vs hv).2;have e2:gn g' = ws.length+δ:=gn_of (λe=>by rw [e] at pg;exact hne (List.map_eq_nil_iff.mp pg.nil_eq.symm)) λvs hv=>by
  obtain ⟨us,hu,rfl⟩:=List.mem_map.mp (pg.mem_iff.mp hv);exact t.len us hu
 unfold gth1;rw [e1,e2];exact t.prt (J:=λg=>joinAll (g.map wPat) ws.length) (J':=λg=>joinAll (g.map wPat) (ws.length+δ)) (λa b hn hs p=>hJ _ a b (t.sub hs) hn p) 13 hne (λ_ z=>z) pg
theorem ren_id (p:Pt):p.ren id=p:=by cases p <;> rfl
theorem gth_ren {rss rss':List (List Str)} (hi:∀ ws∈rss,∀ vs∈rss,∀ w∈ws,∀ v∈vs,f w=f v->w=v) (hk:∀ ws∈rss,∀ w∈ws,kindT (f w)=kindT w) (h:rss'.Perm (rss.map λws=>ws.map f)):(gth s l rss').Perm ((gth s l rss).map λps=>ps.map (Pt.ren f)):=by
 refine gth_tr (δ:=0) (π:=id) (f:=f) (λn g hg=>⟨λ_ _ z=>z,λ_ z=>z,λws hw=>(hg ws hw).2,λws hw=>by rw [List.length_map];exact (hg ws hw).2,λws hw p hp=>?_,λq hq=>.inl ⟨q,hq,rfl⟩,λws hw vs hv=>hi ws (hg ws hw).1 vs (hg vs hv).1,λws hw=>hk ws (hg ws hw).1⟩) (λn g g' t hne p=>?_) h
 ·have:=(hg ws hw).2;simp [List.getD_eq_getElem?_getD,show p<ws.length by lia]
 ·unfold joinAll;rw [List.map_map];exact List.map_congr_left λi hi=>jn_of t hne p (List.mem_range.mp hi)
theorem gth_cons {rss rss':List (List Str)}{w0:Str} (h:rss'.Perm (rss.map λws=>w0::ws)):(gth s l rss').Perm ((gth s l rss).map λps=>Pt.word w0::ps):=by
 refine gth_tr (δ:=1) (π:=Nat.succ) (f:=id) (λn g hg=>⟨λ_ _ z=>Nat.succ_lt_succ z,λ_ z=>Nat.succ_lt_succ z,λws hw=>(hg ws hw).2,λws hw=>by rw [List.length_cons,(hg ws hw).2],λws hw p hp=>by simp,λq hq=>?_,λ_ _ _ _ _ _ _ _ z=>z,λ_ _ _ _=>rfl⟩) (λn g g' t hne p=>?_) h
 ·cases q with
  | zero=>exact .inr ⟨w0,λ_ _=>rfl⟩
  | succ q=>exact .inl ⟨q,by lia,rfl⟩
 ·unfold joinAll;rw [List.range_succ_eq_map,List.map_cons,jn_rest t hne p (Nat.succ_pos n) (c:=w0) λ_ _=>rfl];refine congrArg _ (List.map_map.trans (List.map_congr_left λi hi=>?_));exact (jn_of t hne p (List.mem_range.mp hi)).trans (ren_id _)
theorem gth_snoc {rss rss':List (List Str)}{w0:Str} (h:rss'.Perm (rss.map λws=>ws++[w0])):(gth s l rss').Perm ((gth s l rss).map λps=>ps++[Pt.word w0]):=by
 refine gth_tr (δ:=1) (π:=id) (f:=id) (λn g hg=>⟨λ_ _ z=>z,λ_ z=>Nat.lt_succ_of_lt z,λws hw=>(hg ws hw).2,λws hw=>by rw [List.length_append,(hg ws hw).2];rfl,λws hw p hp=>?_,λq hq=>?_,λ_ _ _ _ _ _ _ _ z=>z,λ_ _ _ _=>rfl⟩) (λn g g' t hne p=>?_) h
 ·have:=(hg ws hw).2;simp [List.getD_eq_getElem?_getD,List.getElem?_append_left (show p<ws.length by lia)]
 ·by_cases e:q=n
  ·refine .inr ⟨w0,λws hw=>?_⟩;have:=(hg ws hw).2;simp [List.getD_eq_getElem?_getD,show q=ws.length by lia]
  ·exact .inl ⟨q,by lia,rfl⟩
 ·rw [joinAll_next];have hl:∀ ws∈g,(ws++[w0]).getD n Str.empty=w0:=λws hw=>by
   have:=t.ln ws hw;simp [List.getD_eq_getElem?_getD,show n=ws.length by lia]
  rw [jn_rest t hne p (Nat.lt_succ_self n) hl];unfold joinAll;refine congrArg (· ++ [Pt.word w0]) (List.map_congr_left λi hi=>?_)
  exact (jn_of t hne p (List.mem_range.mp hi)).trans (ren_id _)
theorem gth_word {rss:List (List Str)} (h:RowsOk rss) {ps:List Pt}{w:Str} (hp:ps∈gth s l rss) (hw:Pt.word w∈ps):∃ ws∈rss,w∈ws:=by
 rw [gth_eq h] at hp;obtain ⟨g,hg,rfl⟩:=List.mem_map.mp hp;have ok:=(grs_ok h hg).1;obtain ⟨i,hi,e⟩:=List.mem_map.mp hw;have hi':=List.mem_range.mp hi;rw [col_at (λws hw=>(ok.row ws hw).1) hi'] at e;obtain ⟨ws,hws,rfl⟩:=List.mem_map.mp (joinP_word e);refine ⟨ws,mem_grs.mp ⟨g,hg,hws⟩,?_⟩;have:=(ok.row ws hws).1;exact getD_mem (by lia)
theorem rows_tr {zs ms ms':List Str}{r:Str->Str} (hp:ms.Perm (dedS [] zs)) (hp':ms'.Perm (dedS [] (zs.map r))) (hs:∀ z∈zs,Txt.split (r z) " " = φ (Txt.split z " ")) (hi:∀ z∈zs,∀ y∈zs,r z=r y->z=y):(ms'.map λz=>Txt.split z " ").Perm ((ms.map λz=>Txt.split z " ").map φ):=by
 have pm:ms'.Perm (ms.map r):=by
  refine perm_of_nodup (hp'.nodup_iff.mpr (ded_nodup (by simp))) (List.pairwise_map.mpr ((hp.nodup_iff.mpr (ded_nodup (by simp))).imp_of_mem λ{a b} ha hb ne e=>ne (hi a (mem_ded0.mp (hp.mem_iff.mp ha)) b (mem_ded0.mp (hp.mem_iff.mp hb)) e))) λx=>?_;rw [hp'.mem_iff,mem_ded0,List.mem_map,List.mem_map];exact ⟨λ⟨z,hz,e⟩=>⟨z,hp.mem_iff.mpr (mem_ded0.mpr hz),e⟩,λ⟨z,hz,e⟩=>⟨z,mem_ded0.mp (hp.mem_iff.mp hz),e⟩⟩
 refine (pm.map _).trans ?_;rw [List.map_map,List.map_map];exact .of_eq (List.map_congr_left λz hz=>hs z (mem_ded0.mp (hp.mem_iff.mp hz)))
theorem takes_ren {p:Pt}{w:Str} (hi:∀ y,p = .word y->f w=f y->w=y) (hk:kindT (f w)=kindT w) (hb:wordB (f w)=wordB w):(p.ren f).takes (f w)=p.takes w:=by
 cases p with
 | word y=>
  show decide (f w=f y)=decide (w=y);rw [decide_eq_decide];exact ⟨hi y rfl,λe=>by rw [e]⟩
 | hole k=>
  match k with
  | 0=>show decide (kindT (f w)=0)=decide (kindT w=0);rw [hk]
  | 1=>show decide (kindT (f w)=1)=decide (kindT w=1);rw [hk]
  | k+2=>exact hb
theorem takesAll_ren:∀ {ps:List Pt}{ws:List Str},(∀ p∈ps,∀ w∈ws,∀ y,p = .word y->f w=f y->w=y)->(∀ w∈ws,kindT (f w)=kindT w/\wordB (f w)=wordB w)->takesAll (ps.map (Pt.ren f)) (ws.map f)=takesAll ps ws
 | [],[],_,_=>rfl
 | [],_::_,_,_=>rfl
 | _::_,[],_,_=>rfl
 | p::ps,w::ws,hi,hk=>by
  rw [List.map_cons,List.map_cons,takes_cons,takes_cons,takes_ren (hi p (List.mem_cons_self ..) w (List.mem_cons_self ..)) (hk w (List.mem_cons_self ..)).1 (hk w (List.mem_cons_self ..)).2,
   takesAll_ren (λq hq v hv=>hi q (List.mem_cons_of_mem _ hq) v (List.mem_cons_of_mem _ hv)) λv hv=>hk v (List.mem_cons_of_mem _ hv)]
end
end LG
namespace LG
open PySem L2
def lets:Str:= "qwertyuiopasdfghjklz"
def ltr (i:Nat):Nat:=lets.cps.toList.getD i 0
def nm1 (p:Nat):Str:=(⟨#[ltr (p / 20 % 20)]⟩++⟨#[ltr (p % 20)]⟩:Str)++(⟨#[ltr (p / 400)]⟩:Str)
def nm:Nat->Nat->Str
 | 0,p=>(PyData.int (1000+(p:Int))).shown
 | 1,p=>nm1 p
 | _,p=> "X" ++ (PyData.int (p:Int)).shown
def nmD (k:Nat) (z:Str):Nat:=
 let l:=z.cps.toList
 match k with
 | 0=>l.foldl (λa c=>10 * a+(c - 48)) 0 - 1000
 | 1=>lets.cps.toList.idxOf (l.getD 0 0) * 20+lets.cps.toList.idxOf (l.getD 1 0)
 | _=>l.tail.foldl (λa c=>10 * a+(c - 48)) 0
set_option maxHeartbeats 4000000 in
theorem nm_tab:∀ k<3,∀ p<128,kindT (nm k p)=k/\wordB (nm k p)=true/\(nm k p).length<=6/\PyData.strOk (nm k p)=true/\nmD k (nm k p)=p:=by decide +kernel
theorem nm_show:∀ p:Nat,p<128->(PyData.int (p:Int)).shown.length<=6/\(PyData.int (1000+(p:Int))).shown.length<=6/\(PyData.int (p:Int)).showable=true/\(PyData.int (1000+(p:Int))).showable=true:=by decide +kernel
theorem showy_int {i:Int} (h:(PyData.int i).shown.length<=6) (h':(PyData.int i).showable=true):Showy (.int i):=⟨h',rfl,by show (0:Nat)<=100;decide,λ_=>Nat.le_trans h (by decide)⟩
theorem ltr_at:∀ i<20,lets.cps.toList[i]? = some (ltr i):=by decide +kernel
abbrev kvN (p:Nat):List (Key×V):=[((Sum.inr "number" : Key),V.str (PyData.int (1000+(p:Int))).shown),(Sum.inr "name",V.str (nm1 p)),(Sum.inr "other",V.str ("X" ++ (PyData.int (p:Int)).shown))]
structure NmOk (us:List Str) (f:Str->Str):Prop where
 inj:∀ w∈us,∀ v∈us,f w=f v->w=v
 ok:∀ w∈us,WOk (f w)
 kind:∀ w∈us,kindT (f w)=lawKindL w.cps.toList
def nmF (us:List Str) (os:List Nat) (w:Str):Str:=nm (lawKindL w.cps.toList) (os.getD (us.idxOf w) 0)
def nmK (f:Str->Str) (us:List Str):List (Key×V):=us.map λw=>(Sum.inr w,V.str (f w))
theorem nmF_ok {us:List Str}{os:List Nat} (hp:os.Perm (List.range us.length)) (h:us.length<128):NmOk us (nmF us os):=by
 have hl:=hp.length_eq;rw [List.length_range] at hl;have lt:∀ w∈us,us.idxOf w<os.length/\os.getD (us.idxOf w) 0<128:=λw hw=>by
  have hi:=List.idxOf_lt_length_of_mem hw;have hi':us.idxOf w<os.length:=by lia
  refine ⟨hi',?_⟩;rw [List.getD_eq_getElem?_getD,List.getElem?_eq_getElem hi'];have:=List.mem_range.mp (hp.mem_iff.mp (List.getElem_mem hi'));show os[us.idxOf w]<128;lia
 have tab:=λw hw=>nm_tab _ (lawKind_lt w.cps.toList) _ (lt w hw).2;refine ⟨λw hw v hv e=>?_,λw hw=>⟨(tab w hw).2.1,(tab w hw).2.2.1,(tab w hw).2.2.2.1⟩,λw hw=>(tab w hw).1⟩;have ek:lawKindL w.cps.toList=lawKindL v.cps.toList:=by rw [<-(tab w hw).1,<-(tab v hv).1];exact congrArg kindT e
 have ep:os.getD (us.idxOf w) 0=os.getD (us.idxOf v) 0:=by
  rw [<-(tab w hw).2.2.2.2,<-(tab v hv).2.2.2.2,ek];exact congrArg _ (by rw [<-ek];exact e.trans (by rw [ek];rfl))
 have nd:os.Nodup:=hp.nodup_iff.mpr List.nodup_range;have a:=(lt w hw).1;have b:=(lt v hv).1;rw [List.getD_eq_getElem?_getD,List.getD_eq_getElem?_getD,List.getElem?_eq_getElem a,List.getElem?_eq_getElem b] at ep;have ei:=(List.getElem_inj nd).mp ep;have c:=List.getElem_idxOf (List.idxOf_lt_length_of_mem hw);have d:=List.getElem_idxOf (List.idxOf_lt_length_of_mem hv);rw [<-c,<-d]
 congr 1
theorem nmF_at {us:List Str}{os:List Nat}{i:Nat}{w:Str} (nd:us.Nodup) (h:us[i]? = some w):nmF us os w=nm (lawKindL w.cps.toList) (os.getD i 0):=by
 obtain ⟨hi,rfl⟩:=List.getElem?_eq_some_iff.mp h;unfold nmF;rw [List.Nodup.idxOf_getElem nd]
theorem val_nmK {f:Str->Str}:∀ {us:List Str}{w:Str},w∈us->valV (nmK f us) (Sum.inr w)=some (.str (f w))
 | u::us,w,h=>by
  unfold nmK;rw [List.map_cons];by_cases e:u=w
  ·subst e;exact valV_pos rfl
  ·have:=val_nmK (f:=f) ((List.mem_cons.mp h).resolve_left λz=>e z.symm);unfold valV nmK at *
   rwa [List.find?_cons,decide_eq_false λz=>e (Sum.inr.inj z)]
theorem put_nmK {f:Str->Str}{us:List Str}{w:Str} (h:w∉us):putK (nmK f us) (Sum.inr w) (.str (f w))=nmK f (us++[w]):=by
 have:((nmK f us).any λkv=>decide (kv.1=Sum.inr w))=false:=by
  rw [Bool.eq_false_iff];intro z;obtain ⟨kv,hm,e⟩:=List.any_eq_true.mp z;obtain ⟨u,hu,rfl⟩:=List.mem_map.mp hm;exact h (by rw [<-Sum.inr.inj (of_decide_eq_true e)];exact hu)
 unfold putK;rw [this];simp [nmK]
theorem val_kinds {k p:Nat} (h:k<3):valV (mergeK [] (kvN p)) (Sum.inr (kindW k))=some (.str (nm k p)):=by
 match k,h with
 | 0,_=>rfl
 | 1,_=>rfl
 | 2,_=>rfl
theorem join_app {xs ys:List Str} (hx:xs≠[]) (hy:ys≠[]):(Str.join " " (xs++ys))=Str.join " " xs ++ " " ++ Str.join " " ys:=by
 induction xs with
 | nil=>exact absurd rfl hx
 | cons x r ih=>
  cases r with
  | nil=>
   cases ys with
   | nil=>exact absurd rfl hy
   | cons y ys=>rfl
  | cons z r=>
   have e:=ih (by simp);show x ++ " " ++ Str.join " " (z::r++ys)=x ++ " " ++ Str.join " " (z::r) ++ " " ++ Str.join " " ys;rw [e];refine str_ext ?_;simp [Str.cps_append]
theorem join_flat:∀ {wss:List (List Str)},(∀ ws∈wss,ws≠[])->Str.join " " (wss.map (Str.join " "))=Str.join " " wss.flatten
 | [],_=>rfl
 | [ws],h=>by simp [Str.join]
 | ws::vs::r,h=>by
  have ih:=join_flat (wss:=vs::r) λx hx=>h x (List.mem_cons_of_mem _ hx);have hne:(vs::r).flatten≠[]:=by
   rw [List.flatten_cons];intro e;exact h vs (by simp) (List.append_eq_nil_iff.mp e).1
  rw [List.flatten_cons,join_app (h ws (List.mem_cons_self ..)) hne,<-ih];rfl
theorem split_lines {zs:List Str} (hne:zs≠[]) (hz:∀ z∈zs,∃ ws,LnOk 12 z ws):Txt.split (Txt.join " " zs) " " = zs.flatMap λz=>Txt.split z " " :=by
 have e:zs=(zs.map λz=>Txt.split z " ").map (Str.join " "):=by
  rw [List.map_map];refine (List.map_id' zs).symm.trans (List.map_congr_left λz hz'=>?_);obtain ⟨ws,h⟩:=hz z hz';show z=Str.join " " (Txt.split z " ");rw [h.split,h.eq];exact StrLaws.glued_eq_join " " ws
 have ne:∀ ws∈zs.map (λz=>Txt.split z " "),ws≠[]:=λws hw=>by
  obtain ⟨z,hz',rfl⟩:=List.mem_map.mp hw;obtain ⟨ws,h⟩:=hz z hz';rw [h.split];intro e;have:=h.pos;rw [e] at this;cases this
 have ej:Txt.join " " zs=Txt.join " " (zs.flatMap λz=>Txt.split z " "):=by
  have a:Txt.join " " zs=Str.join " " zs:=StrLaws.glued_eq_join " " zs;have b:Txt.join " " (zs.flatMap λz=>Txt.split z " ")=Str.join " " (zs.flatMap λz=>Txt.split z " "):=StrLaws.glued_eq_join " " _;rw [a,b,List.flatMap_def,<-join_flat ne,<-e]
 rw [ej];refine split_join (λe=>?_) λw hw=>?_
 ·cases zs with
  | nil=>exact hne rfl
  | cons z r=>
   rw [List.flatMap_cons] at e;exact ne _ (List.mem_map_of_mem (List.mem_cons_self ..)) (List.append_eq_nil_iff.mp e).1
 ·obtain ⟨z,hz',hw'⟩:=List.mem_flatMap.mp hw;obtain ⟨ws,h⟩:=hz z hz';rw [h.split] at hw';exact (h.wd w hw').blank
theorem lines_words {zs U:List Str} (hz:∀ z∈zs,∃ ws,LnOk 12 z ws/\∀ w∈ws,w∈U) (h63:zs.length<=63) (hU:U.length<=126) :
  (zs≠[]->∀ w,w∈Txt.split (Txt.join " " zs) " " ↔ ∃ z∈zs,w∈Txt.split z " ")/\(zs=[]->∀ w∈Txt.split (Txt.join " " zs) " ",w=Str.empty)/\(Txt.split (Txt.join " " zs) " ").length<4000 /\
  (dedS [] (Txt.split (Txt.join " " zs) " ")).length<128/\∀ w∈Txt.split (Txt.join " " zs) " ",TOk w:=by
 by_cases hne:zs=[]
 ·subst hne;have e:Txt.split (Txt.join " " []) " " = [Str.empty]:=by decide +kernel
  rw [e];exact ⟨λh=>absurd rfl h,λ_ w hw=>List.mem_singleton.mp hw,by decide,by decide +kernel,λw hw=>by rw [List.mem_singleton.mp hw];exact ⟨by decide,by decide +kernel⟩⟩
 ·have e:=split_lines hne λz h=>let ⟨ws,a,_⟩:=hz z h;⟨ws,a⟩;rw [e];have ok:∀ w∈zs.flatMap (λz=>Txt.split z " "),WOk w/\w∈U:=λw hw=>by
   obtain ⟨z,a,b⟩:=List.mem_flatMap.mp hw;obtain ⟨ws,h,hu⟩:=hz z a;rw [h.split] at b;exact ⟨h.wd w b,hu w b⟩
  have len:∀ {zs:List Str},(∀ z∈zs,∃ ws,LnOk 12 z ws/\∀ w∈ws,w∈U)->(zs.flatMap λz=>Txt.split z " ").length<=zs.length * 12:=λ{zs}=>by
   induction zs with
   | nil=>exact λ_=>Nat.le_refl _
   | cons z r ih=>
    intro h;obtain ⟨ws,a,_⟩:=h z (List.mem_cons_self ..);have:=ih λy hy=>h y (List.mem_cons_of_mem _ hy);rw [List.flatMap_cons,List.length_append,List.length_cons,a.split];have:=a.le;lia
  have l1:=len hz;exact ⟨λ_ w=>List.mem_flatMap,λh=>absurd h hne,by lia,Nat.lt_of_le_of_lt (nodup_le (ded_nodup (by simp)) λw hw=>(ok w (mem_ded0.mp hw)).2) (by lia),λw hw=>⟨Nat.le_trans (ok w hw).1.len (by decide),(ok w hw).1.ok⟩⟩
theorem join_len {zs:List Str} (hz:∀ z∈zs,z.length<=84) (h63:zs.length<=63):(Txt.join " " zs).length+2<=10000:=by
 have e:Txt.join " " zs=Str.join " " zs:=StrLaws.glued_eq_join " " zs;rw [e];have a:=StrLaws.join_length_le " " zs;have b:=sum_le hz;have c:((" " : Str)).length=1:=rfl;rw [c] at a;lia
end LG
namespace LG
open PySem L2
structure RnOk (us:List Str) (f:Str->Str):Prop where
 inj:∀ w∈us,∀ v∈us,f w=f v->w=v
 ok:∀ w∈us,WOk (f w)
 kind:∀ w∈us,kindT (f w)=kindT w
def InW (us:List Str) (zs:List Str):Prop:=∀ z∈zs,∃ ws,LnOk 12 z ws/\∀ w∈ws,w∈us
def rnL (f:Str->Str) (z:Str):Str:=Txt.join " " ((Txt.split z " ").map f)
theorem map_inj_on {us:List Str}{f:Str->Str} (h:∀ w∈us,∀ v∈us,f w=f v->w=v):∀ {l m:List Str},(∀ w∈l,w∈us)->(∀ w∈m,w∈us)->l.map f=m.map f->l=m
 | [],[],_,_,_=>rfl
 | [],_::_,_,_,e=>nomatch e
 | _::_,[],_,_,e=>nomatch e
 | a::l,b::m,hl,hm,e=>by
  rw [List.map_cons,List.map_cons] at e;injection e with e1 e2;rw [h a (hl a (List.mem_cons_self ..)) b (hm b (List.mem_cons_self ..)) e1,map_inj_on h (λw hw=>hl w (List.mem_cons_of_mem _ hw)) (λw hw=>hm w (List.mem_cons_of_mem _ hw)) e2]
section
variable {us zs ms ms':List Str}{f:Str->Str}{s l:Int}
theorem rn_ln {m:Nat}{z:Str}{ws:List Str} (r:RnOk us f) (h:LnOk m z ws) (hu:∀ w∈ws,w∈us):LnOk m (rnL f z) (ws.map f):=by
 refine ⟨by unfold rnL;rw [h.split],by rw [List.length_map];exact h.pos,by rw [List.length_map];exact h.le,λw hw=>?_⟩;obtain ⟨w,hm,rfl⟩:=List.mem_map.mp hw;exact r.ok w (hu w hm)
theorem InW.take (h:InW us zs) (n:Nat):InW us (zs.take n):=λz hz=>h z (List.mem_of_mem_take hz)
theorem InW.lines (r:RnOk us f) (h:InW us zs):∀ z∈zs.map (rnL f),∃ ws,LnOk 12 z ws:=λz hz=>by
 obtain ⟨z,hm,rfl⟩:=List.mem_map.mp hz;obtain ⟨ws,a,b⟩:=h z hm;exact ⟨_,rn_ln r a b⟩
theorem rn_inj (r:RnOk us f) (h:InW us zs):∀ z∈zs,∀ y∈zs,rnL f z=rnL f y->z=y:=λz hz y hy e=>by
 obtain ⟨ws,a,b⟩:=h z hz;obtain ⟨vs,c,d⟩:=h y hy;have e2:=(rn_ln r a b).split.symm.trans ((congrArg (λx=>Txt.split x " ") e).trans (rn_ln r c d).split);rw [a.eq,c.eq,map_inj_on r.inj b d e2]
theorem InW.words (h:InW us zs) (hp:ms.Perm (dedS [] zs)):∀ ws∈ms.map (λz=>Txt.split z " "),∀ w∈ws,w∈us:=λws hm w hw=>by
 obtain ⟨z,hz,rfl⟩:=List.mem_map.mp hm;obtain ⟨ws,a,b⟩:=h z (mem_ded0.mp (hp.mem_iff.mp hz));rw [a.split] at hw;exact b w hw
theorem rn_gth (r:RnOk us f) (h:InW us zs) (hp:ms.Perm (dedS [] zs)) (hp':ms'.Perm (dedS [] (zs.map (rnL f)))) :
  (gth s l (ms'.map λz=>Txt.split z " ")).Perm ((gth s l (ms.map λz=>Txt.split z " ")).map λps=>ps.map (Pt.ren f)):=by
 have hw:=h.words hp;refine gth_ren (λws a vs b w c v d=>r.inj w (hw ws a w c) v (hw vs b v d)) (λws a w c=>r.kind w (hw ws a w c)) (rows_tr hp hp' (λz hz=>?_) (rn_inj r h));obtain ⟨ws,a,b⟩:=h z hz;rw [(rn_ln r a b).split,a.split]
theorem newsB_ren (r:RnOk us f) (h:InW us zs) (h64:zs.length<64) {z:Str}{ws:List Str} (hz:LnOk 12 z ws) (hu:∀ w∈ws,w∈us):newsB s l (zs.map (rnL f)) (rnL f z)=newsB s l zs z:=by
 obtain ⟨p1,u1⟩:=msOf_ok zs;obtain ⟨p2,u2⟩:=msOf_ok (zs.map (rnL f));have ro:RowsOk ((msOf zs).map λz=>Txt.split z " "):=rows_ok p1 h64 λz hz=>let ⟨ws,a,_⟩:=h z hz;⟨ws,a⟩;rw [newsB_of p1 u1 (.refl _),newsB_of p2 u2 (.refl _),any_perm (rn_gth (s:=s) (l:=l) r h p1 p2),List.any_map,(rn_ln r hz hu).split,hz.split];refine congrArg _ ?_;rw [Bool.eq_iff_iff,List.any_eq_true,List.any_eq_true];have e:∀ ps∈gth s l ((msOf zs).map λz=>Txt.split z " "),takesAll (ps.map (Pt.ren f)) (ws.map f)=takesAll ps ws:=λps hps=>by
  refine takesAll_ren (λp hp w hw y ey e=>?_) λw hw=>⟨r.kind w (hu w hw),(r.ok w (hu w hw)).word.trans (hz.wd w hw).word.symm⟩;subst ey;obtain ⟨vs,a,b⟩:=gth_word ro hps hp;exact r.inj w (hu w hw) y (h.words p1 vs a y b) e
 exact ⟨λ⟨x,a,b⟩=>⟨x,a,(e x a).symm.trans b⟩,λ⟨x,a,b⟩=>⟨x,a,(e x a).trans b⟩⟩
theorem newsL_ren (r:RnOk us f) (h:InW us zs) (h64:zs.length<64):newsL s l (zs.map (rnL f)) (zs.map (rnL f)).length=newsL s l zs zs.length:=by
 rw [List.length_map];unfold newsL;refine List.filter_congr λi hi=>?_;have hi':=List.mem_range.mp hi;have e:=List.getElem?_eq_getElem hi';obtain ⟨ws,a,b⟩:=h zs[i] (List.getElem_mem hi');rw [<-List.map_take,List.getD_eq_getElem?_getD,List.getD_eq_getElem?_getD,List.getElem?_map,e];exact newsB_ren r (h.take i) (by rw [List.length_take];lia) a b
theorem ren_loose (p:Pt):(p.ren f).loose=p.loose:=by cases p <;> rfl
end
def ahd (w z:Str):Str:=w ++ " " ++ z
def bhd (w z:Str):Str:=z ++ " " ++ w
section
variable {zs ms ms':List Str}{w:Str}{s l:Int}
theorem ahd_ln {n:Nat}{z:Str}{ws:List Str} (hw:WOk w) (h:LnOk 12 z ws) (hl:ws.length<n):LnOk n (ahd w z) (w::ws):=by
 refine ⟨?_,Nat.succ_pos _,hl,λv hv=>(List.mem_cons.mp hv).elim (λe=>e ▸ hw) (h.wd v)⟩;have hne:ws≠[]:=λe=>by have:=h.pos;rw [e] at this;cases this
 unfold ahd;rw [h.eq];have jn:∀ l:List Str,Txt.join " " l=Str.join " " l:=λl=>StrLaws.glued_eq_join " " l;rw [jn,jn];exact (join_app (xs:=[w]) (by simp) hne).symm
theorem bhd_ln {n:Nat}{z:Str}{ws:List Str} (hw:WOk w) (h:LnOk 12 z ws) (hl:ws.length<n):LnOk n (bhd w z) (ws++[w]):=by
 refine ⟨?_,by rw [List.length_append];exact Nat.succ_pos _,by rw [List.length_append];exact hl,λv hv=>(List.mem_append.mp hv).elim (h.wd v) λe=>List.mem_singleton.mp e ▸ hw⟩;have hne:ws≠[]:=λe=>by have:=h.pos;rw [e] at this;cases this
 unfold bhd;rw [h.eq];have jn:∀ l:List Str,Txt.join " " l=Str.join " " l:=λl=>StrLaws.glued_eq_join " " l;rw [jn,jn];exact (join_app (ys:=[w]) hne (by simp)).symm
theorem ahd_gth (hw:WOk w) (hz:∀ z∈zs,∃ ws,LnOk 12 z ws/\ws.length<12) (hp:ms.Perm (dedS [] zs)) (hp':ms'.Perm (dedS [] (zs.map (ahd w)))) :
  (gth s l (ms'.map λz=>Txt.split z " ")).Perm ((gth s l (ms.map λz=>Txt.split z " ")).map λps=>Pt.word w::ps):=by
 refine gth_cons (rows_tr hp hp' (λz hz'=>?_) λz hz' y hy' e=>?_)
 ·obtain ⟨ws,a,b⟩:=hz z hz';rw [(ahd_ln hw a b).split,a.split]
 ·obtain ⟨ws,a,b⟩:=hz z hz';obtain ⟨vs,c,d⟩:=hz y hy';have e2:=(ahd_ln hw a b).split.symm.trans ((congrArg (λx=>Txt.split x " ") e).trans (ahd_ln hw c d).split);injection e2 with _ e3;rw [a.eq,c.eq,e3]
theorem bhd_gth (hw:WOk w) (hz:∀ z∈zs,∃ ws,LnOk 12 z ws/\ws.length<12) (hp:ms.Perm (dedS [] zs)) (hp':ms'.Perm (dedS [] (zs.map (bhd w)))) :
  (gth s l (ms'.map λz=>Txt.split z " ")).Perm ((gth s l (ms.map λz=>Txt.split z " ")).map λps=>ps++[Pt.word w]):=by
 refine gth_snoc (rows_tr hp hp' (λz hz'=>?_) λz hz' y hy' e=>?_)
 ·obtain ⟨ws,a,b⟩:=hz z hz';rw [(bhd_ln hw a b).split,a.split]
 ·obtain ⟨ws,a,b⟩:=hz z hz';obtain ⟨vs,c,d⟩:=hz y hy';have e2:=(bhd_ln hw a b).split.symm.trans ((congrArg (λx=>Txt.split x " ") e).trans (bhd_ln hw c d).split);rw [a.eq,c.eq,List.append_cancel_right e2]
end
end LG
namespace LG
open PySem L2
structure HdOk (h:List (Int×Str)×List (List Pt)):Prop where
 rl:h.1.length<64
 lns:∀ q∈h.1,∃ ws,LnOk 12 q.2 ws
 bl:h.2.length<64
 hnd:PsOk h.2
section
variable {K:PySem.W.Frag}{CL CS P:Addr}{B H Ha Hb H5 H6:Hp}{g pa tb:Addr}{v:LogV}
end
end LG
namespace LG
open PySem L2
section
variable {v:StV}{s l:Int}
end
def inSp (lo hi:Int) (x:(Int×Str)×Option (List Pt)):Bool:=decide (lo<=x.1.1/\x.1.1<hi)
def StV.rf (v:StV):List ((Int×Str)×Option (List Pt)):=v.rs.zip v.os
def cnt (v:StV) (lo hi:Int) (p:List Pt):Nat:=(v.rf.filter (inSp lo hi)).countP λx=>decide (x.2=some p)
end LG
namespace LG
open PySem L2
end LG
namespace LG
open PySem L2
structure MdI (K:PySem.W.Frag) (pos:Pos) (qual:Str) (CL CS P:Addr) (H0:Hp) (d g pa LF:Addr) (n:Nat) (lv:List V) (Bi:Hp) (tb:Addr) (v:LogV) (H:Hp):Prop where
 sB:Same (wo d (wo P H0)) H
 la:LamAt P pos qual H
 dk:Dk H d n
 lg:LogAt K CL CS Bi H g pa tb v
 mu:∀ c o,H0 c=some o->MutO o->Bi c=none
 bl:Bi LF=none
 nt:LF≠tb
 t0:H0 tb=none
 lf:H LF=some (.lst lv)
 d0:∃ ys,H0 d=some (.lst ys)
 P0:∃ q,H0 P=some (.tbl q)
 g0:H0 g=none
 p0:H0 pa=none
 l0:H0 LF=none
 ng:LF≠g
 np:LF≠pa
section
variable {K:PySem.W.Frag}{pos:Pos}{qual:Str}{CL CS P:Addr}{H0 Bi B' H H':Hp}{d g pa LF tb tb':Addr}{n m:Nat}{lv lv':List V}{v v':LogV}
end
end LG
namespace LG
open PySem L2
structure WOd (w:Str):Prop where
 word:wordB w=true
 len:w.length<=5
 ok:PyData.strOk w=true
theorem d1:∀ x∈words1,wordB x=true/\x.length<=5/\PyData.strOk x=true:=by decide +kernel
theorem d2:∀ x∈words2,wordB x=true/\x.length<=5/\PyData.strOk x=true:=by decide +kernel
theorem d3:∀ x∈words3,wordB x=true/\x.length<=5/\PyData.strOk x=true:=by decide +kernel
structure LnOd (m:Nat) (x:Str) (ws:List Str):Prop where
 eq:x=Txt.join " " ws
 pos:1<=ws.length
 le:ws.length<=m
 wd:∀ w∈ws,WOd w
structure WsOd (ws:List Str):Prop where
 pos:1<=ws.length
 le:ws.length<=12
 wd:∀ w∈ws,WOd w
end LG
namespace LG
open PySem L2
def psSh2:Sh:=.list (.list (.tcons .str (.tcons .str .tnil)))
theorem sh_pats2 (pss:List (List Pt)):psSh2.has (.list (pss.map patD)):=⟨_,rfl,λx hx=>by
 obtain ⟨ps,_,rfl⟩:=List.mem_map.mp hx;exact ⟨_,rfl,λy hy=>by
  obtain ⟨p,_,rfl⟩:=List.mem_map.mp hy;cases p <;> exact ⟨_,_,rfl,⟨_,rfl⟩,_,_,rfl,⟨_,rfl⟩,rfl⟩⟩⟩
end LG
namespace LG
open PySem L2
section
variable {v:StV}{s l:Int}
end
end LG
namespace LG
open PySem L2
end LG
namespace LG
open PySem L2
theorem pats_refl (pss:List (List Pt)):PyData.eqv (.list (pss.map patD)) (.list (pss.map patD))=true:=((Sh.ok psSh2).eqv _ _ (sh_pats2 _) (sh_pats2 _)).mpr rfl
theorem dens_int {K:PySem.W.Frag}{H:Hp}:∀ (ns:List Int),Dens K H (ns.map V.int) (ns.map PyData.int)
 | []=>.nil
 | _::ns=>.cons (.int _) (dens_int ns)
end LG
namespace LG
open PySem L2
structure HoOk (ws:List Str) (m:List (Str×Nat)):Prop where
 nd:(m.map (·.1)).Nodup
 mem:∀ y,y∈m.map (·.1)↔y∈ws
 cnt:∀ x∈m,x.2=ws.count x.1
 ord:(m.map λx=>wkD x.1).Pairwise λa b=>ltv b a=false
end LG
namespace LG
open PySem L2
end LG
namespace LG
open PySem L2
open Classical in
noncomputable def fallF (bs fs:List (List Pt)) (z:Str):Option (List Pt):=if h:∃ o,FallR bs fs z o then h.choose else none
end LG
namespace LG
open PySem L2
structure Kp (P d g pa tb:Addr) (Bk H:Hp):Prop where
 sB:Same Bk H
 kd:Bk d=none
 kg:Bk g=none
 kp:Bk pa=none
 kt:Bk tb=none
 kP:Bk P=none
section
variable {P d g pa tb tb':Addr}{Bk H H':Hp}
end
abbrev Wt:=V×(Str ⊕ (V×List Pt))
def lnO:Wt->Option (Int×Str)
 | (_,.inl z)=>some (7,z)
 | _=>none
def hdO:Wt->Option (List Pt)
 | (_,.inr q)=>some q.2
 | _=>none
structure Lp (v:LogV) (Z:List Wt) (s l:Int) (i p:Nat):Prop where
 vs:v.s=s
 vl:v.l=l
 rs:v.cur.rs=(Z.take i).filterMap lnO
 bs:v.cur.bs.Perm ((Z.take i).filterMap hdO)
 ko:KOrd v.cur.bs
 pl:v.past.length<=p
section
variable {P d g pa tb c:Addr}{H H':Hp}
theorem wo_none {x:Addr} (h:H c=none):wo x H c=none:=by
 by_cases e:c=x
 ·rw [e,wo_self]
 ·rw [wo_at e];exact h
end
end LG
namespace K32
open PySem L2 LG
set_option genSizeOf false in
set_option genInjectivity false in
structure Ad where
 f_has_only:Addr
 d_has_only:FuncData
 f_is_word:Addr
 d_is_word:FuncData
 f_kind_of:Addr
 d_kind_of:FuncData
 f_words_of:Addr
 d_words_of:FuncData
 f_word_key:Addr
 d_word_key:FuncData
 f_is_hole:Addr
 d_is_hole:FuncData
 f_part_takes:Addr
 d_part_takes:FuncData
 f_all_taken:Addr
 d_all_taken:FuncData
 f_fits:Addr
 d_fits:FuncData
 f_kind_of_hole_around:Addr
 d_kind_of_hole_around:FuncData
 f_joined_part:Addr
 d_joined_part:FuncData
 f_joined:Addr
 d_joined:FuncData
 f_part_key:Addr
 d_part_key:FuncData
 f_pattern_key:Addr
 d_pattern_key:FuncData
 f_ordered:Addr
 d_ordered:FuncData
 f_grouped:Addr
 d_grouped:FuncData
 f_words_at:Addr
 d_words_at:FuncData
 f_many_unlike_at:Addr
 d_many_unlike_at:FuncData
 f_is_fit_to_part_at:Addr
 d_is_fit_to_part_at:FuncData
 f_place_to_part_at:Addr
 d_place_to_part_at:FuncData
 f_parted:Addr
 d_parted:FuncData
 f_pattern_of_group:Addr
 d_pattern_of_group:FuncData
 f_gathered:Addr
 d_gathered:FuncData
 f_looseness_of_part:Addr
 d_looseness_of_part:FuncData
 f_looseness:Addr
 d_looseness:FuncData
 f_is_news:Addr
 d_is_news:FuncData
 f_news:Addr
 d_news:FuncData
 f__law_deck:Addr
 d__law_deck:FuncData
 f__law_pick:Addr
 d__law_pick:FuncData
 f__law_kind:Addr
 d__law_kind:FuncData
 f__law_word:Addr
 d__law_word:FuncData
 f__law_line:Addr
 d__law_line:FuncData
 f__law_lines:Addr
 d__law_lines:FuncData
 f__law_sieve:Addr
 d__law_sieve:FuncData
 f__law_names:Addr
 d__law_names:FuncData
 f__law_renamed:Addr
 d__law_renamed:FuncData
 f_law:Addr
 d_law:FuncData
 a_HOLE_KINDS:Addr
 a_PLAIN_SIEVE:Addr
 c_lam:Addr
 p_lam:Addr
structure Tx (K:PySem.W.Frag) (mg:Str->Option Value) (A:Ad):Prop where
 n_ValueError:mg "ValueError" = none
 n_all:mg "all" = none
 n_any:mg "any" = none
 n_enumerate:mg "enumerate" = none
 n_isinstance:mg "isinstance" = none
 n_len:mg "len" = none
 n_list:mg "list" = none
 n_min:mg "min" = none
 n_range:mg "range" = none
 n_set:mg "set" = none
 n_sorted:mg "sorted" = none
 n_str:mg "str" = none
 n_zip:mg "zip" = none
 g_FIGURES:∃ t,mg "FIGURES" = some (.str FIGS t)
 g_SMALL_LETTERS:∃ t,mg "SMALL_LETTERS" = some (.str LOWS t)
 g_WORD_SIGNS:∃ t,mg "WORD_SIGNS" = some (.str SIGNS t)
 g_HOLE_KINDS:mg "HOLE_KINDS" = some (.ref A.a_HOLE_KINDS)
 t_HOLE_KINDS:∀ H,SqT K H A.a_HOLE_KINDS [.str "number",.str "name",.str "any"]
 y_HOLE_KINDS:∃ o,K.lookup A.a_HOLE_KINDS=some o/\o.cls = .type "tuple" /\ o.dict=none
 g_PLAIN_SIEVE:mg "PLAIN_SIEVE" = some (.ref A.a_PLAIN_SIEVE)
 t_PLAIN_SIEVE:∀ H,SqT K H A.a_PLAIN_SIEVE [.int 3,.int 2]
 y_PLAIN_SIEVE:∃ o,K.lookup A.a_PLAIN_SIEVE=some o/\o.cls = .type "tuple" /\ o.dict=none
 has_only:DefAt K mg "has_only" (top 7) ["text","signs"] A.f_has_only A.d_has_only
 is_word:DefAt K mg "is_word" (top 8) ["thing"] A.f_is_word A.d_is_word
 kind_of:DefAt K mg "kind_of" (top 9) ["word"] A.f_kind_of A.d_kind_of
 words_of:DefAt K mg "words_of" (top 10) ["line"] A.f_words_of A.d_words_of
 word_key:DefAt K mg "word_key" (top 11) ["word"] A.f_word_key A.d_word_key
 is_hole:DefAt K mg "is_hole" (top 14) ["part"] A.f_is_hole A.d_is_hole
 part_takes:DefAt K mg "part_takes" (top 15) ["part","word"] A.f_part_takes A.d_part_takes
 all_taken:DefAt K mg "all_taken" (top 16) ["parts","words"] A.f_all_taken A.d_all_taken
 fits:DefAt K mg "fits" (top 17) ["pattern","line"] A.f_fits A.d_fits
 kind_of_hole_around:DefAt K mg "kind_of_hole_around" (top 18) ["part"] A.f_kind_of_hole_around A.d_kind_of_hole_around
 joined_part:DefAt K mg "joined_part" (top 19) ["parts"] A.f_joined_part A.d_joined_part
 joined:DefAt K mg "joined" (top 20) ["patterns"] A.f_joined A.d_joined
 part_key:DefAt K mg "part_key" (top 21) ["part"] A.f_part_key A.d_part_key
 pattern_key:DefAt K mg "pattern_key" (top 22) ["pattern"] A.f_pattern_key A.d_pattern_key
 ordered:DefAt K mg "ordered" (top 23) ["patterns"] A.f_ordered A.d_ordered
 grouped:DefAt K mg "grouped" (top 26) ["rows","keys"] A.f_grouped A.d_grouped
 words_at:DefAt K mg "words_at" (top 27) ["group","place"] A.f_words_at A.d_words_at
 many_unlike_at:DefAt K mg "many_unlike_at" (top 28) ["group","place"] A.f_many_unlike_at A.d_many_unlike_at
 is_fit_to_part_at:DefAt K mg "is_fit_to_part_at" (top 29) ["group","place","sieve"] A.f_is_fit_to_part_at A.d_is_fit_to_part_at
 place_to_part_at:DefAt K mg "place_to_part_at" (top 30) ["group","sieve"] A.f_place_to_part_at A.d_place_to_part_at
 parted:DefAt K mg "parted" (top 31) ["group","sieve"] A.f_parted A.d_parted
 pattern_of_group:DefAt K mg "pattern_of_group" (top 32) ["group"] A.f_pattern_of_group A.d_pattern_of_group
 gathered:DefAtD K mg "gathered" (top 33) ["lines","sieve"] A.f_gathered A.d_gathered
 looseness_of_part:DefAt K mg "looseness_of_part" (top 35) ["part"] A.f_looseness_of_part A.d_looseness_of_part
 looseness:DefAt K mg "looseness" (top 36) ["pattern"] A.f_looseness A.d_looseness
 is_news:DefAt K mg "is_news" (top 37) ["line","lines","sieve"] A.f_is_news A.d_is_news
 news:DefAtD K mg "news" (top 38) ["lines","sieve"] A.f_news A.d_news
 _law_deck:DefAt K mg "_law_deck" (top 40) ["cell","turn"] A.f__law_deck A.d__law_deck
 _law_pick:DefAt K mg "_law_pick" (top 41) ["deck","many"] A.f__law_pick A.d__law_pick
 _law_kind:DefAt K mg "_law_kind" (top 42) ["word"] A.f__law_kind A.d__law_kind
 _law_word:DefAt K mg "_law_word" (top 43) ["deck"] A.f__law_word A.d__law_word
 _law_line:DefAt K mg "_law_line" (top 44) ["deck","most"] A.f__law_line A.d__law_line
 _law_lines:DefAt K mg "_law_lines" (top 45) ["deck","most"] A.f__law_lines A.d__law_lines
 _law_sieve:DefAt K mg "_law_sieve" (top 47) ["deck"] A.f__law_sieve A.d__law_sieve
 _law_names:DefAt K mg "_law_names" (top 48) ["deck","lines"] A.f__law_names A.d__law_names
 _law_renamed:DefAt K mg "_law_renamed" (top 49) ["pattern","names"] A.f__law_renamed A.d__law_renamed
 lam:LamTop K mg A.d_place_to_part_at A.c_lam A.p_lam
section
variable {P:Program}{w:World}{K:PySem.W.Frag}{mg:Str->Option Value}{base:Heap}{A:Ad}
theorem sc_has_only:FnScope ["text","signs"] ["text","signs"] (defScope (top 7)):=fsc
set_option maxHeartbeats 8000000 in
theorem ok_has_only (T:Tx K mg A):Okd T.has_only P w base 1 (sp_has_only K):=by
 refine T.has_only.fn.ok sc_has_only (λvs H Q E h=>?_) (λcdv Ar outer s H vs Q E hr h=>?_)
 ·obtain ⟨z,y,rfl,_⟩:=h;rfl
 ·obtain ⟨z,y,rfl,hz,k⟩:=h;refine ⟨_,pss_one (ps_ret (pe_and (pcmp (op_ne) (pv 0) pe_str) (pe_one (pcmp (op_eq) (pe_bm PySem.F.plainAttrs_str PySem.F.slot_str_strip PySem.F.type_str_strip mt_stripC (pv 0) (pa1 (pv 1))) pe_str)))),?_⟩;refine ⟨_,rfl,rfl,_,rfl,?_⟩;have e:=only_eq z y;by_cases hn:z.cps.toList.isEmpty=true
  ·have e1:(!decide (V.str z=V.str ""))=false:=by rw [dec_nil,hn];rfl
   rw [e1,Bool.false_and] at e
   rwa [e1,if_neg Bool.false_ne_true,e]
  ·have e1:(!decide (V.str z=V.str ""))=true:=by rw [dec_nil,Bool.eq_false_iff.mpr hn];rfl
   rw [e1,Bool.true_and] at e;rw [e1,if_pos rfl];refine ⟨_,rfl,rfl,_,rfl,z,y,rfl,rfl,hz.s,rfl,?_⟩
   rwa [e]
theorem sc_is_word:FnScope ["thing"] ["thing"] (defScope (top 8)):=fsc
set_option maxHeartbeats 8000000 in
theorem ok_is_word (T:Tx K mg A):Okd T.is_word P w base 2 (sp_is_word K):=by
 refine T.is_word.fn.ok sc_is_word (λvs H Q E h=>?_) (λcdv Ar outer s H vs Q E hr h=>?_)
 ·obtain ⟨z,rfl,_⟩:=h;rfl
 ·obtain ⟨z,rfl,hz,k⟩:=h;refine ⟨_,pss_one (ps_ret (pe_and (pe_callB (r:=rIsi K) call_isi (by rfl) T.n_isinstance bt_isinstance (pa_cons (pv 0) (pa1 (pe_bltn (v:=.ty "str") (by rfl) T.n_str bt_str rfl)))) (pe_one (pcal T.has_only (ok_has_only T) hr (pa_cons (pv 0) (pa1 (pe_glob (v:=.str SIGNS) (by rfl) (Exists.choose_spec T.g_WORD_SIGNS) ⟨_,rfl⟩))))))),?_⟩;refine ⟨_,rfl,_,"str",_,true,rfl,.str z,by rfl,_,rfl,iteT ?_⟩;refine ⟨_,rfl,z,SIGNS,rfl,hz,?_⟩
  rwa [has_signs]
theorem sc_kind_of:FnScope ["word"] ["word"] (defScope (top 9)):=fsc
set_option maxHeartbeats 8000000 in
theorem ok_kind_of (T:Tx K mg A):Okd T.kind_of P w base 2 (sp_kind_of K):=by
 refine T.kind_of.fn.ok sc_kind_of (λvs H Q E h=>?_) (λcdv Ar outer s H vs Q E hr h=>?_)
 ·obtain ⟨z,rfl,_⟩:=h;rfl
 ·obtain ⟨z,rfl,hz,k⟩:=h;refine ⟨_,pss_cons (ps_if (pt_val (pcal T.has_only (ok_has_only T) hr (pa_cons (pe_bm PySem.F.plainAttrs_str PySem.F.slot_str_removeprefix PySem.F.type_str_removeprefix mt_rmpre (pv 0) (pa1 pe_str)) (pa1 (pe_glob (v:=.str FIGS) (by rfl) (Exists.choose_spec T.g_FIGURES) ⟨_,rfl⟩))))) (pss_one (ps_ret pe_str)) pss_nil)
   (pss_cons (ps_if (pt_val (pcal T.has_only (ok_has_only T) hr (pa_cons (pv 0) (pa1 (pe_glob (v:=.str LOWS) (by rfl) (Exists.choose_spec T.g_SMALL_LETTERS) ⟨_,rfl⟩))))) (pss_one (ps_ret pe_str)) pss_nil)
   (pss_one (ps_ret pe_str))),?_⟩
  refine ⟨_,rfl,rfl,z,"-",rfl,rfl,hz.s,_,FIGS,rfl,Nat.le_trans (minus_len z) hz,_,rfl,?_⟩;rw [has_figs,minus_eq];have e:kindT z=if onlyB dig (unminus z.cps.toList)=true then 0 else if onlyB low z.cps.toList=true then 1 else 2:=rfl;rw [e] at k;by_cases h1:onlyB dig (unminus z.cps.toList)=true
  ·rw [h1,if_pos rfl] at k;rw [h1];exact iteT k
  ·rw [if_neg h1] at k;rw [Bool.eq_false_iff.mpr h1];refine iteF ?_;refine ⟨_,rfl,z,LOWS,rfl,hz,_,rfl,?_⟩;rw [has_lows];by_cases h2:onlyB low z.cps.toList=true
   ·rw [if_pos h2] at k;rw [h2];exact iteT k
   ·rw [if_neg h2] at k;rw [Bool.eq_false_iff.mpr h2];exact iteF k
theorem sc_words_of:FnScope ["line"] ["line"] (defScope (top 10)):=fsc
set_option maxHeartbeats 8000000 in
theorem ok_words_of (T:Tx K mg A):Okd T.words_of P w base 1 (sp_words_of K):=by
 refine T.words_of.fn.ok sc_words_of (λvs H Q E h=>?_) (λcdv Ar outer s H vs Q E hr h=>?_)
 ·obtain ⟨z,rfl,_⟩:=h;rfl
 ·obtain ⟨z,rfl,hz,k⟩:=h;refine ⟨_,pss_one (ps_ret (pe_bm PySem.F.plainAttrs_str PySem.F.slot_str_split PySem.F.type_str_split mt_split (pv 0) (pa1 pe_str))),?_⟩;exact ⟨_,rfl,rfl,z," ",rfl,rfl,by decide +kernel,Nat.le_trans (Nat.add_le_add_right hz 2) (by decide),λl hl=>k l hl⟩
theorem sc_is_hole:FnScope ["part"] ["part"] (defScope (top 14)):=fsc
set_option maxHeartbeats 8000000 in
theorem ok_is_hole (T:Tx K mg A):Okd T.is_hole P w base 1 (sp_is_hole K):=by
 refine T.is_hole.fn.ok sc_is_hole (λvs H Q E h=>?_) (λcdv Ar outer s H vs Q E hr h=>?_)
 ·obtain ⟨v,pt,rfl,_⟩:=h;rfl
 ·obtain ⟨v,pt,rfl,hd,k⟩:=h;obtain ⟨a,x,y,rfl,hq,_,_,hx⟩:=den_pt hd;refine ⟨_,pss_one (ps_ret (pcmp (op_eq) (pixT K (pv 0) pe_int) pe_str)),?_⟩;refine ⟨_,rfl,a,_,0,_,rfl,rfl,hq,rfl,rfl,?_⟩;cases pt with
  | word w=>
   obtain ⟨rfl,_⟩:=hx
   rwa [decide_eq_false (by decide)]
  | hole m=>
   obtain ⟨rfl,_⟩:=hx
   rwa [decide_eq_true rfl]
theorem sc_part_takes:FnScope ["part","word"] ["part","word"] (defScope (top 15)):=fsc
set_option maxHeartbeats 8000000 in
theorem ok_part_takes (T:Tx K mg A):Okd T.part_takes P w base 3 (sp_part_takes K):=by
 refine T.part_takes.fn.ok sc_part_takes (λvs H Q E h=>?_) (λcdv Ar outer s H vs Q E hr h=>?_)
 ·obtain ⟨v,x,p,rfl,_⟩:=h;rfl
 ·obtain ⟨v,x,p,rfl,hd,hok,hw,k⟩:=h;obtain ⟨a,x1,y1,ev,hq,_,_,hx⟩:=den_pt hd;refine ⟨_,pss_cons (ps_if (pt_not (pt_val (pcal T.is_hole (ok_is_hole T) hr (pa1 (pv 0))))) (pss_one (ps_ret (pcmp (op_eq) (pv 1) (pixT K (pv 0) pe_int)))) pss_nil)
   (pss_cons (ps_if (ptcmp (op_eq) (pixT K (pv 0) pe_int) pe_str) (pss_one (ps_ret (pcal T.is_word (ok_is_word T) hr (pa1 (pv 1))))) pss_nil)
   (pss_one (ps_ret (pcmp (op_eq) (pcal T.kind_of (ok_kind_of T) hr (pa1 (pv 1))) (pixT K (pv 0) pe_int))))),?_⟩
  refine ⟨_,rfl,v,p,rfl,hd,_,rfl,?_⟩;subst ev;cases p with
  | word y=>
   obtain ⟨rfl,rfl⟩:=hx;refine iteT ⟨_,rfl,_,rfl,a,_,1,_,rfl,rfl,hq,rfl,rfl,?_⟩;have e:decide (V.str x=V.str y1)=(Pt.word y1).takes x:=by
    rw [Bool.eq_iff_iff];simp [Pt.takes]
   rwa [e]
  | hole m=>
   obtain ⟨rfl,rfl⟩:=hx;have hm:m<3:=hok;refine iteF ?_;refine ⟨_,rfl,a,_,1,_,rfl,rfl,hq,rfl,rfl,_,rfl,?_⟩;rw [hole_any hm];by_cases h2:m=2
   ·rw [decide_eq_true h2];refine iteT ?_;subst h2;exact ⟨_,rfl,x,rfl,hw,k⟩
   ·rw [decide_eq_false h2];refine iteF ?_;refine ⟨_,rfl,x,rfl,hw,_,rfl,a,_,1,_,rfl,rfl,hq,rfl,rfl,?_⟩;have e:(Pt.hole m).takes x=decide (kindT x=m):=by
     have:m=0\/m=1:=by lia
     rcases this with rfl | rfl <;> rfl
    rwa [kind_hole (k:=m) (by lia),<-e]
end
end K32
namespace K32
open PySem L2 LG
section
variable {P:Program}{w:World}{K:PySem.W.Frag}{mg:Str->Option Value}{base:Heap}{A:Ad}
theorem sc__law_deck:FnScope ["cell","turn"] ["cell","turn"] (defScope (top 40)):=fsc
set_option maxHeartbeats 8000000 in
theorem ok__law_deck (T:Tx K mg A):Okd T._law_deck P w base 1 (sp__law_deckT K):=by
 refine T._law_deck.fn.ok sc__law_deck (λvs H Q E h=>?_) (λcdv Ar outer s H vs Q E hr h=>?_)
 ·obtain ⟨c,m,rfl,_⟩:=h;rfl
 ·obtain ⟨c,m,rfl,hm,k⟩:=h;refine ⟨_,pss_cons (ps_if (ptcmp (op_ge) (pv 0) (pe_op op_pow pe_int pe_int)) (pss_one (ps_ret (pe_lst (pa_cons (pe_op op_sub (pv 0) (pe_op op_pow pe_int pe_int)) (pa_cons (pe_op op_mod (pv 0) pe_int) (pa1 (pv 1))))))) pss_nil)
   (pss_one (ps_ret (pe_lst (pa_cons pe_int (pa_cons (pe_op op_mod (pv 0) pe_int) (pa1 (pv 1))))))),?_⟩
  refine ⟨_,rfl,_,_,rfl,rfl,⟨by decide,by decide,by decide⟩,_,_,rfl,rfl,_,rfl,?_⟩;refine ite2 (λhc=>?_) (λhc=>?_)
  ·refine ⟨_,rfl,_,_,rfl,rfl,⟨by decide,by decide,by decide⟩,_,_,rfl,rfl,_,rfl,_,_,rfl,rfl,(by lia),_,rfl,(by show 3<=sizeLine;decide),λd hd=>?_⟩;exact k d _ hd (Same.new hd) ⟨_,_,_,upd_same,by lia,Int.emod_nonneg _ (by decide),Int.emod_lt_of_pos _ (by decide),Int.natCast_nonneg _,Int.le_refl _⟩
  ·refine ⟨_,rfl,_,_,rfl,rfl,(by lia),_,rfl,(by show 3<=sizeLine;decide),λd hd=>?_⟩;exact k d _ hd (Same.new hd) ⟨_,_,_,upd_same,by decide,Int.emod_nonneg _ (by decide),Int.emod_lt_of_pos _ (by decide),Int.natCast_nonneg _,Int.le_refl _⟩
theorem sc__law_pick:FnScope ["deck","many","found","number"] ["deck","many"] (defScope (top 41)):=fsc
set_option maxHeartbeats 8000000 in
theorem ok__law_pick (T:Tx K mg A):Okd T._law_pick P w base 1 (sp__law_pick K):=by
 refine T._law_pick.fn.ok sc__law_pick (λvs H Q E h=>?_) (λcdv Ar outer s H vs Q E hr h=>?_)
 ·obtain ⟨d,m,n,rfl,_⟩:=h;rfl
 ·obtain ⟨d,m,n,rfl,hdk,hn,hm0,hm1,k⟩:=h;refine ⟨_,pss_cons (ps_if (ptcmp (op_gt) (pixL K (pv 0) pe_int) pe_int) (pss_cons (ps_set (i:=2) sc__law_pick.nd rfl (Or.inl rfl) (pe_op op_mod (pixL K (pv 0) pe_int) (pv 1)))
   (pss_cons (ps_asg (pe_op op_fdiv (pixL K (pv 0) pe_int) (pv 1)) (pg_sub (pv 0) pe_int set_list))
   (pss_one (ps_ret (pv 2))))) pss_nil)
   (pss_cons (ps_asg (pe_op op_add (pixL K (pv 0) pe_int) pe_int) (pg_sub (pv 0) pe_int set_list))
   (pss_cons (ps_set (i:=3) sc__law_pick.nd rfl (Or.inl rfl) (pe_op op_mod (pe_op op_pow (pe_op op_add (pixL K (pv 0) pe_int) (pe_op op_mul pe_int (pixL K (pv 0) pe_int))) pe_int) pe_int))
   (pss_cons (ps_set (i:=2) sc__law_pick.nd rfl (Or.inl rfl) (pe_op op_fdiv (pe_op op_mod (pe_op op_pow (pe_op op_add (pv 3) (pe_op op_mul pe_int (pixL K (pv 0) pe_int))) pe_int) pe_int) pe_int))
   (pss_cons (ps_if (ptcmp (op_gt) (pv 1) pe_int) (pss_one ps_never) pss_nil)
   (pss_one (ps_ret (pe_op op_mod (pv 2) (pv 1)))))))),?_⟩
  obtain ⟨a,b,c,hd,ha,hb,hb2,hc,hc2⟩:=hdk;have hq:SqL K H d [.int a,.int b,.int c]:=.of hd;refine ⟨_,rfl,d,_,0,_,rfl,rfl,hq,rfl,_,_,rfl,rfl,_,rfl,?_⟩;refine ite2 (λh1=>?_) (λh1=>?_)
  ·refine ⟨_,rfl,d,_,0,_,rfl,rfl,hq,rfl,_,rfl,_,_,rfl,rfl,hm0,?_⟩;refine ⟨_,rfl,d,_,0,_,rfl,rfl,hq,rfl,_,rfl,_,_,rfl,rfl,⟨hm0,by lia⟩,?_⟩;refine ⟨_,rfl,d,_,0,0,rfl,rfl,hd,rfl,?_⟩;refine ⟨_,rfl,?_⟩;exact k _ _ same_upd ⟨_,_,_,upd_same,Int.ediv_nonneg ha (by lia),hb,hb2,hc,by lia⟩ (Int.emod_nonneg _ (by lia)) (Int.emod_lt_of_pos _ hm0)
  ·refine ⟨_,rfl,d,_,2,_,rfl,rfl,hq,rfl,_,_,rfl,rfl,?_⟩;refine ⟨_,rfl,d,_,2,2,rfl,rfl,hd,rfl,?_⟩;have hq2:SqL K (upd H d (.lst [.int a,.int b,.int (c+1)])) d [.int a,.int b,.int (c+1)]:=.of upd_same;refine ⟨_,rfl,d,_,1,_,rfl,rfl,hq2,rfl,_,rfl,d,_,2,_,rfl,rfl,hq2,rfl,_,_,rfl,rfl,.inl ⟨by decide,by decide⟩,_,_,rfl,rfl,_,_,rfl,rfl,⟨by decide,by decide,by lia⟩,_,_,rfl,rfl,(by lia),?_⟩;refine ⟨_,rfl,_,rfl,d,_,2,_,rfl,rfl,hq2,rfl,_,_,rfl,rfl,.inl ⟨by decide,by decide⟩,_,_,rfl,rfl,_,_,rfl,rfl,⟨by decide,by decide,?_⟩,_,_,rfl,rfl,(by lia),_,_,rfl,rfl,⟨by decide,by decide⟩,?_⟩
   ·lia
   ·refine ⟨_,rfl,_,_,rfl,rfl,_,rfl,?_⟩;rw [decide_eq_false (show ¬ (1000000:Int)<m by lia)];refine iteF ?_;refine ⟨_,rfl,_,rfl,_,_,rfl,rfl,hm0,?_⟩;exact k _ _ same_upd ⟨_,_,_,upd_same,ha,hb,hb2,by lia,by lia⟩ (Int.emod_nonneg _ (by lia)) (Int.emod_lt_of_pos _ hm0)
theorem sc__law_kind:FnScope ["word","figures"] ["word"] (defScope (top 42)):=fsc
set_option maxHeartbeats 8000000 in
theorem ok__law_kind (T:Tx K mg A):Okd T._law_kind P w base 1 (sp__law_kind K):=by
 refine T._law_kind.fn.ok sc__law_kind (λvs H Q E h=>?_) (λcdv Ar outer s H vs Q E hr h=>?_)
 ·obtain ⟨z,rfl,_⟩:=h;rfl
 ·obtain ⟨z,rfl,hz,k⟩:=h;refine ⟨_,pss_cons (ps_set (i:=1) sc__law_kind.nd rfl (Or.inl rfl) (pe_ifExp (ptcmp (op_eq) (pe_slice sl_str (pv 0) (po_none) (po_some pe_int)) pe_str) (pe_slice sl_str (pv 0) (po_some pe_int) (po_none)) (pv 0)))
   (pss_cons (ps_if ((pw_and (ptcmp (op_ne) (pv 1) pe_str) (pw_and1 (ptcmp (r:=rEqD K) (op_eqD hr) (pe_comp (N':=["sign"]) (n:=1) (fi:=[]) (g:=gName 0) rfl (cscope (defScope (top 42)) ["word","figures"] (by decide +kernel)) (pi_str (pv 1)) (λs H fp=>pg_name (i:=0) (show (["sign"]:List Str).Nodup by decide +kernel) rfl (Or.inl rfl) (.inr rfl)) (λs H fp=>pifs_one (pt_not (pt_chain op_le_str op_le_str pe_str (pv 0) pe_str))) (λs H fp=>pv 0)) (pe_lst pa_nil)))).pt) (pss_one (ps_ret pe_str)) pss_nil)
   (pss_one (ps_ret (pe_ifExp (ptcmp (r:=rEqD K) (op_eqD hr) (pe_comp (N':=["sign"]) (n:=1) (fi:=[]) (g:=gName 0) rfl (cscope (defScope (top 42)) ["word","figures"] (by decide +kernel)) (pi_str (pv 0)) (λs H fp=>pg_name (i:=0) (show (["sign"]:List Str).Nodup by decide +kernel) rfl (Or.inl rfl) (.inr rfl)) (λs H fp=>pifs_one (pt_not (pt_chain op_le_str op_le_str pe_str (pv 0) pe_str))) (λs H fp=>pv 0)) (pe_lst pa_nil)) pe_str pe_str)))),?_⟩
  have hl:z.length<=sizeLine:=Nat.le_trans hz.1 (by decide);have hf:=ok_slice (z:=z) (l:=some 1) (u:=none) hz.2;have c0:("0" : Str)=⟨#[48]⟩:=by decide +kernel
  have c9:("9" : Str)=⟨#[57]⟩:=by decide +kernel
  have ek:lawKindL z.cps.toList=if onlyB dig (unminus z.cps.toList)=true then 0 else if z.cps.toList.all low=true then 1 else 2:=rfl;rw [ek] at k;refine ⟨_,rfl,_,rfl,z,rfl,hl,rfl,_,rfl,?_⟩;rw [dash_head];have hfig:∃ f:Str,f.cps.toList=unminus z.cps.toList/\PyData.strOk f=true/\f.length<=10000/\(f=if z.cps.toList.head? = some 45 then Txt.slice z (some 1) none else z):=by
   by_cases hd:z.cps.toList.head? = some 45
   ·exact ⟨_,by rw [if_pos hd,slice_tail];exact unminus_yes hd,by lia,by rw [if_pos hd];exact Nat.le_trans hf.2 hz.1,rfl⟩
   ·exact ⟨_,by rw [if_neg hd];exact unminus_no hd,by rw [if_neg hd];exact hz.2,by rw [if_neg hd];exact hz.1,rfl⟩
  obtain ⟨f,f1,f2,f3,f4⟩:=hfig;have tail:∀ H2,Same H H2->onlyB dig (unminus z.cps.toList)=false->tRet (tIf (tTest (tOp (rEqD K) (tComp (iStr (tVar 0)) (gName 0) (tNot (tTest (tChain (λx y H Q=>∃ i j,x = .str i/\y = .str j/\Q (.bl (!decide (j.cps.toList<i.cps.toList))) H) (λx y H Q=>∃ i j,x = .str i/\y = .str j/\Q (.bl (!decide (j.cps.toList<i.cps.toList))) H) (tC (.str "a")) (tVar 0) (tC (.str "z"))))) (tVar 0) 1 []) (tLst tNil))) (tC (.str "name")) (tC (.str "other"))) { nx:=λ_ H'=>Q .non H',rt:=Q } [some (.str z),some (.str f)] H2:=λH2 s2 hno=>by
   refine no_signsX (λc=>!(decide (97<=c) && decide (c<=122))) rfl hz.2 (Nat.le_trans hz.1 (by decide)) (λc H2 R h=>not_betweenX (by decide +kernel) (by decide +kernel) h) λH3 s3=>?_;have e:(z.cps.toList.all λc=>!(!(decide (97<=c) && decide (c<=122))))=z.cps.toList.all low:=by
    congr 1
    funext c
    simp [low]
   rw [e];have kk:=k H3 (s2.trans s3);rw [hno,if_neg Bool.false_ne_true] at kk;by_cases hb:z.cps.toList.all low=true
   ·rw [if_pos hb] at kk;rw [hb];exact iteT kk
   ·rw [if_neg hb] at kk;rw [Bool.eq_false_iff.mpr hb];exact iteF kk
  by_cases hd:z.cps.toList.head? = some 45
  ·rw [decide_eq_true hd];rw [if_pos hd] at f4;subst f4;refine iteT ⟨_,rfl,_,rfl,z,rfl,hl,?_⟩;refine ⟨_,rfl,rfl,_,rfl,?_⟩;rw [dec_nil,f1];by_cases he:(unminus z.cps.toList).isEmpty=true
   ·rw [he];refine iteF ?_;refine iteF ?_;exact tail H (Same.refl _) (by grind [onlyB])
   ·rw [Bool.eq_false_iff.mpr he];refine iteT ?_;refine no_signsX (λc=>!(decide (48<=c) && decide (c<=57))) rfl f2 (Nat.le_trans f3 (by decide)) (λc H2 R h=>not_betweenX c0 c9 h) λH2 s2=>?_;have e:((Txt.slice z (some 1) none).cps.toList.all λc=>!(!(decide (48<=c) && decide (c<=57))))=(unminus z.cps.toList).all dig:=by
     grind [dig]
    rw [e];by_cases hb:(unminus z.cps.toList).all dig=true
    ·rw [hb];refine iteT ?_;have ho:onlyB dig (unminus z.cps.toList)=true:=by grind [onlyB]
     have kk:=k H2 s2
     rwa [ho,if_pos rfl] at kk
    ·rw [Bool.eq_false_iff.mpr hb];refine iteF ?_;exact tail H2 s2 (by unfold onlyB;rw [Bool.eq_false_iff.mpr hb,Bool.and_false])
  ·rw [decide_eq_false hd];rw [if_neg hd] at f4;subst f4;refine iteF ⟨_,rfl,?_⟩;refine ⟨_,rfl,rfl,_,rfl,?_⟩;rw [dec_nil,f1];by_cases he:(unminus f.cps.toList).isEmpty=true
   ·rw [he];refine iteF ?_;refine iteF ?_;exact tail H (Same.refl _) (by grind [onlyB])
   ·rw [Bool.eq_false_iff.mpr he];refine iteT ?_;refine no_signsX (λc=>!(decide (48<=c) && decide (c<=57))) rfl f2 (Nat.le_trans f3 (by decide)) (λc H2 R h=>not_betweenX c0 c9 h) λH2 s2=>?_;have e:(f.cps.toList.all λc=>!(!(decide (48<=c) && decide (c<=57))))=(unminus f.cps.toList).all dig:=by
     grind [dig]
    rw [e];by_cases hb:(unminus f.cps.toList).all dig=true
    ·rw [hb];refine iteT ?_;have ho:onlyB dig (unminus f.cps.toList)=true:=by grind [onlyB]
     have kk:=k H2 s2
     rwa [ho,if_pos rfl] at kk
    ·rw [Bool.eq_false_iff.mpr hb];refine iteF ?_;exact tail H2 s2 (by unfold onlyB;rw [Bool.eq_false_iff.mpr hb,Bool.and_false])
theorem sc__law_word:FnScope ["deck","way","some"] ["deck"] (defScope (top 43)):=fsc
set_option maxHeartbeats 8000000 in
theorem ok__law_word (T:Tx K mg A):Okd T._law_word P w base 2 (sp__law_word K):=by
 refine T._law_word.fn.ok sc__law_word (λvs H Q E h=>?_) (λcdv Ar outer s H vs Q E hr h=>?_)
 ·obtain ⟨d,n,rfl,_⟩:=h;rfl
 ·obtain ⟨d,n,rfl,hdk,hn,k⟩:=h;refine ⟨_,pss_cons (ps_set (i:=1) sc__law_word.nd rfl (Or.inl rfl) (pcal T._law_pick (ok__law_pick T) hr (pa_cons (pv 0) (pa1 pe_int))))
   (pss_cons (ps_if (ptcmp (op_lt) (pv 1) pe_int) (pss_one (ps_ret (pixL K (pe_lst (pa_cons pe_str (pa_cons pe_str (pa1 pe_str)))) (pcal T._law_pick (ok__law_pick T) hr (pa_cons (pv 0) (pa1 pe_int)))))) pss_nil)
   (pss_cons (ps_if (ptcmp (op_lt) (pv 1) pe_int) (pss_one (ps_ret (pixL K (pe_lst (pa_cons pe_str (pa_cons pe_str (pa_cons pe_str (pa_cons pe_str (pa1 pe_str)))))) (pcal T._law_pick (ok__law_pick T) hr (pa_cons (pv 0) (pa1 pe_int)))))) pss_nil)
   (pss_cons (ps_if (ptcmp (op_lt) (pv 1) pe_int) (pss_one (ps_ret (pixL K (pe_lst (pa_cons pe_str (pa_cons pe_str (pa_cons pe_str (pa_cons pe_str (pa_cons pe_str (pa_cons pe_str (pa_cons pe_str (pa1 pe_str))))))))) (pcal T._law_pick (ok__law_pick T) hr (pa_cons (pv 0) (pa1 pe_int)))))) pss_nil)
   (pss_cons (ps_set (i:=2) sc__law_word.nd rfl (Or.inr rfl) (pixL K (pe_lst (pa_cons pe_str (pa_cons pe_str (pa_cons pe_str (pa1 pe_str))))) (pe_op op_sub (pv 1) pe_int)))
   (pss_one (ps_ret (pe_bm (r:=rJoin K) PySem.F.plainAttrs_str PySem.F.slot_str_join PySem.F.type_str_join mt_join pe_str (pa1 (pcm ["k","some","deck"] [2,0] (defScope (top 43)) ["deck","way","some"] (pi_range1 (by rfl) T.n_range (pa1 (pe_op op_add pe_int (pcal T._law_pick (ok__law_pick T) hr (pa_cons (pv 0) (pa1 pe_int)))))) (λs H fp=>pe_ix ix_str (pv 1) (pcal T._law_pick (ok__law_pick T) hr (pa_cons (pv 2) (pa1 (pe_callB call_len_str (by rfl) T.n_len PySem.boot_len (pa1 (pv 1)))))) (λ_ _=>rfl))))))))))),?_⟩
  refine ⟨_,rfl,d,12,n,rfl,hdk,by lia,by decide,by decide,λway H1 s1 dk1 w0 w12=>?_⟩;refine ⟨_,rfl,_,_,rfl,rfl,_,rfl,?_⟩;refine ite2 (λ_=>?_) (λ_=>?_)
  ·refine ⟨(by decide),λp hp=>⟨_,rfl,d,3,n+1,rfl,dk1.same (Same.new hp),by lia,by decide,by decide,λr H2 s2 dk2 r0 r1=>?_⟩⟩;obtain ⟨x,hx,ha⟩:=at_strs (l:=words1) r0 r1;have hw:=w1 x hx;exact ⟨p,_,r,_,rfl,rfl,.of (keepN s2 upd_same (dk1.ne hp)),ha,k x H2 (wo_trans (s1.trans (Same.new hp)) s2) (dk2.mono (by lia)) ⟨hw.1,hw.2.1,hw.2.2⟩⟩
  ·refine ⟨_,rfl,_,_,rfl,rfl,_,rfl,?_⟩;refine ite2 (λ_=>?_) (λ_=>?_)
   ·refine ⟨(by decide),λp hp=>⟨_,rfl,d,5,n+1,rfl,dk1.same (Same.new hp),by lia,by decide,by decide,λr H2 s2 dk2 r0 r1=>?_⟩⟩;obtain ⟨x,hx,ha⟩:=at_strs (l:=words2) r0 r1;have hw:=w2 x hx;exact ⟨p,_,r,_,rfl,rfl,.of (keepN s2 upd_same (dk1.ne hp)),ha,k x H2 (wo_trans (s1.trans (Same.new hp)) s2) (dk2.mono (by lia)) ⟨hw.1,hw.2.1,hw.2.2⟩⟩
   ·refine ⟨_,rfl,_,_,rfl,rfl,_,rfl,?_⟩;refine ite2 (λ_=>?_) (λh8=>?_)
    ·refine ⟨(by decide),λp hp=>⟨_,rfl,d,8,n+1,rfl,dk1.same (Same.new hp),by lia,by decide,by decide,λr H2 s2 dk2 r0 r1=>?_⟩⟩;obtain ⟨x,hx,ha⟩:=at_strs (l:=words3) r0 r1;have hw:=w3 x hx;exact ⟨p,_,r,_,rfl,rfl,.of (keepN s2 upd_same (dk1.ne hp)),ha,k x H2 (wo_trans (s1.trans (Same.new hp)) s2) (dk2.mono (by lia)) ⟨hw.1,hw.2.1,hw.2.2⟩⟩
    ·have h8':¬ way<8:=λh=>h8 (decide_eq_true h);obtain ⟨x,hx,ha⟩:=at_strs (l:=words4) (r:=way - 8) (by lia) (by show way - 8<4;lia);have hxx:=w4 x hx;refine ⟨(by decide),λp hp=>⟨_,rfl,_,_,rfl,rfl,p,_,way - 8,_,rfl,rfl,.of upd_same,ha,?_⟩⟩;refine ⟨rfl,_,rfl,d,4,n+1,rfl,(dk1.same (Same.new hp)),by lia,by decide,by decide,λr4 H2 s2 dk2 r0 r1=>?_⟩;refine ⟨_,_,rfl,rfl,1+r4,rfl,by lia,by lia,λD hD=>?_⟩;have hdD:=dk2.ne hD;refine comp_range (λi acc σ H3=>(∃ u,σ=[u,some (.str x),some (.ref d)])/\Same (wo d H2) H3/\Dk H3 d (n+2+i)/\∃ l:List Str,acc=l.map V.str/\l.length=i/\∀ y∈l,PyData.strOk y=true/\y.length<=1/\∃ c,y=⟨#[c]⟩/\sgn c=true) upd_same ⟨⟨_,rfl⟩,wo_same.trans (Same.new hD),dk2.same (Same.new hD),[],rfl,rfl,λy hy=>by cases hy⟩ (λi acc σ H3 hi hD3 q=>?_) (λacc σ H3 hD3 q=>?_)
     ·obtain ⟨q0,s3,dk3,l,rfl,hl,hok⟩:=q;apply ex_1 q0;clear q0;intro u;refine compY ⟨_,rfl,_,rfl,_,rfl,x,rfl,Nat.le_trans hxx.2.1 (by decide),d,x.length,n+2+i,rfl,dk3,by lia,by lia,by lia,λr H4 s4 dk4 q0 q1=>?_⟩;obtain ⟨c,j,hc,hj⟩:=at_sign q0 q1;refine ⟨x,r,c,rfl,rfl,Nat.le_trans hxx.2.1 (by decide),hc,_,keepN s4 hD3 hdD,small (by grind),_,upd_same,⟨_,rfl⟩,snap_upd (by rwa [wo_at hdD.symm]) (wo_trans s3 s4),dk4.upd hdD,l++[⟨#[c]⟩],by simp,by simp [hl],λy hy=>?_⟩;rcases List.mem_append.mp hy with hy | hy
      ·exact hok y hy
      ·simp only [List.mem_singleton] at hy;subst hy;exact ⟨ok_sign hxx.1 hj,Nat.le_refl _,c,rfl,(List.all_eq_true.mp hxx.2.2.2 c (by simpa using Array.mem_of_getElem? hj))⟩
     ·obtain ⟨_,s3,dk3,l,rfl,hl,hok⟩:=q;refine ⟨"",D,l,rfl,rfl,.of hD3,join_fits (λy hy=>(hok y hy).2.1) ?_,?_⟩
      ·have:(("" : Str)).length=0:=rfl;rw [this];lia
      ·exact k _ H3 (wo_trans (wo_trans (s1.trans (Same.new hp)) s2) s3) (dk3.mono (by lia)) (join_word (by lia) (by lia) hok)
theorem sc__law_line:FnScope ["deck","most"] ["deck","most"] (defScope (top 44)):=fsc
set_option maxHeartbeats 8000000 in
theorem ok__law_line (T:Tx K mg A):Okd T._law_line P w base 3 (sp__law_line K):=by
 refine T._law_line.fn.ok sc__law_line (λvs H Q E h=>?_) (λcdv Ar outer s H vs Q E hr h=>?_)
 ·obtain ⟨d,m,n,rfl,_⟩:=h;rfl
 ·obtain ⟨d,m,n,rfl,hdk,hn,hm0,hm1,k⟩:=h;refine ⟨_,pss_one (ps_ret (pe_bm (r:=rJoin K) PySem.F.plainAttrs_str PySem.F.slot_str_join PySem.F.type_str_join mt_join pe_str (pa1 (pcm ["k","deck"] [0] (defScope (top 44)) ["deck","most"] (pi_range1 (by rfl) T.n_range (pa1 (pe_op op_add pe_int (pcal T._law_pick (ok__law_pick T) hr (pa_cons (pv 0) (pa1 (pv 1))))))) (λs H fp=>pcal T._law_word (ok__law_word T) hr (pa1 (pv 1))))))),?_⟩;refine ⟨rfl,_,rfl,_,rfl,d,m,n,rfl,hdk,by lia,hm0,by lia,λr4 H2 s2 dk2 r0 r1=>?_⟩;refine ⟨_,_,rfl,rfl,1+r4,rfl,by lia,by lia,λD hD=>?_⟩;have hdD:=dk2.ne hD;refine comp_range (λi acc σ H3=>(∃ u,σ=[u,some (.ref d)])/\Same (wo d H2) H3/\Dk H3 d (n+1+6 * i)/\∃ l:List Str,acc=l.map V.str/\l.length=i/\∀ y∈l,WOk y) upd_same ⟨⟨_,rfl⟩,wo_same.trans (Same.new hD),dk2.same (Same.new hD),[],rfl,rfl,λy hy=>by cases hy⟩ (λi acc σ H3 hi hD3 q=>?_) (λacc σ H3 hD3 q=>?_)
  ·obtain ⟨q0,s3,dk3,l,rfl,hl,hok⟩:=q;apply ex_1 q0;clear q0;intro u;refine compY ⟨_,rfl,d,n+1+6 * i,rfl,dk3,by lia,λx H4 s4 dk4 hx=>?_⟩;refine ⟨_,keepN s4 hD3 hdD,small (by grind),_,upd_same,⟨_,rfl⟩,snap_upd (by rwa [wo_at hdD.symm]) (wo_trans s3 s4),(dk4.upd hdD).mono (by lia),l++[x],by simp,by simp [hl],λy hy=>?_⟩
   grind
  ·obtain ⟨_,s3,dk3,l,rfl,hl,hok⟩:=q;have h1:((" " : Str)).length=1:=rfl;refine ⟨" ",D,l,rfl,rfl,.of hD3,join_fits (λy hy=>(hok y hy).len) ?_,?_⟩
   ·rw [h1];lia
   ·exact k _ l H3 (wo_trans s2 s3) (dk3.mono (by lia)) ⟨rfl,by lia,by lia,hok⟩
end
end K32
namespace K32
open PySem L2 LG
section
variable {P:Program}{w:World}{K:PySem.W.Frag}{mg:Str->Option Value}{base:Heap}{A:Ad}
theorem sc__law_lines:FnScope ["deck","most","shapes","found","k","words","turn"] ["deck","most"] (defScope (top 45)):=fsc
set_option maxHeartbeats 8000000 in
theorem ok__law_lines (T:Tx K mg A):Okd T._law_lines P w base 4 (sp__law_linesW K):=by
 refine T._law_lines.fn.ok sc__law_lines (λvs H Q E h=>?_) (λcdv Ar outer s H vs Q E hr h=>?_)
 ·obtain ⟨d,m,n,rfl,_⟩:=h;rfl
 ·obtain ⟨d,m,n,rfl,hdk,hn,hm0,hm1,k⟩:=h;refine ⟨_,pss_cons (ps_comp (i:=2) (N':=["k","deck"]) (n:=1) (fi:=[0]) (g:=gName 0) sc__law_lines.nd rfl (Or.inl rfl) rfl (cscope (defScope (top 45)) ["deck","most","shapes","found","k","words","turn"] (by decide +kernel)) (pi_range1 (by rfl) T.n_range (pa1 (pe_op op_add pe_int (pcal T._law_pick (ok__law_pick T) hr (pa_cons (pv 0) (pa1 pe_int)))))) (λs H fp=>pg_name (i:=0) (show (["k","deck"]:List Str).Nodup by decide +kernel) rfl (Or.inl rfl) (.inr rfl)) (λs H fp=>pifs_nil) (λs H fp=>pe_bmK (K:=K) rfl PySem.F.plainAttrs_str PySem.F.slot_str_split PySem.F.type_str_split mt_split (pcal T._law_line (ok__law_line T) hr (pa_cons (pv 1) (pa1 (pixL K (pe_lst (pa_cons pe_int (pa_cons pe_int (pa1 pe_int)))) (pcal T._law_pick (ok__law_pick T) hr (pa_cons (pv 1) (pa1 pe_int))))))) (pa1 pe_str)))
   (pss_cons (ps_set (i:=3) sc__law_lines.nd rfl (Or.inl rfl) (pe_lst pa_nil))
   (pss_cons (ps_for PassesOwn.never rfl (pi_range1 (by rfl) T.n_range (pa1 (pcal T._law_pick (ok__law_pick T) hr (pa_cons (pv 0) (pa1 (pe_op op_add (pv 1) pe_int)))))) (pn 4 sc__law_lines.nd) (pss_cons (ps_set (i:=5) sc__law_lines.nd rfl (Or.inl rfl) (pe_callTy (r:=rListOf K) call_listO (by rfl) T.n_list bt_list (pa1 (pixL K (pv 2) (pcal T._law_pick (ok__law_pick T) hr (pa_cons (pv 0) (pa1 (pe_callB (r:=rLenS K) call_lenS (by rfl) T.n_len PySem.boot_len (pa1 (pv 2))))))))))
   (pss_cons (ps_for PassesOwn.never rfl (pi_range1 (by rfl) T.n_range (pa1 (pcal T._law_pick (ok__law_pick T) hr (pa_cons (pv 0) (pa1 pe_int))))) (pn 6 sc__law_lines.nd) (pss_one (ps_asg (pcal T._law_word (ok__law_word T) hr (pa1 (pv 0))) (pg_sub (pv 5) (pcal T._law_pick (ok__law_pick T) hr (pa_cons (pv 0) (pa1 (pe_callB (r:=rLenS K) call_lenS (by rfl) T.n_len PySem.boot_len (pa1 (pv 5)))))) set_list))))
   (pss_cons (ps_expr (pe_bm PySem.F.plainAttrs_list PySem.F.slot_list_append PySem.F.type_list_append mt_append (pv 3) (pa1 (pe_bm (r:=rJoin K) PySem.F.plainAttrs_str PySem.F.slot_str_join PySem.F.type_str_join mt_join pe_str (pa1 (pv 5))))))
   (pss_one (ps_if (ptcmp (op_eq) (pcal T._law_pick (ok__law_pick T) hr (pa_cons (pv 0) (pa1 pe_int))) pe_int) (pss_one (ps_expr (pe_bm PySem.F.plainAttrs_list PySem.F.slot_list_append PySem.F.type_list_append mt_append (pv 3) (pa1 (pixL K (pv 3) (pcal T._law_pick (ok__law_pick T) hr (pa_cons (pv 0) (pa1 (pe_callB (r:=rLenS K) call_lenS (by rfl) T.n_len PySem.boot_len (pa1 (pv 3))))))))))) pss_nil))))))
   (pss_one (ps_ret (pe_slice (r:=rSlL K) sl_list (pv 3) (po_none) (po_some (pv 1))))))),?_⟩
  have h1:((" " : Str)).length=1:=rfl;refine ⟨_,rfl,d,3,n,rfl,hdk,by lia,by decide,by decide,λr H1 s1 dk1 r0 r1=>⟨_,_,rfl,rfl,1+r,rfl,by lia,by lia,λSH hSH=>?_⟩⟩;have hdSH:=dk1.ne hSH;refine comp_range (λi acc σ H3=>(∃ u,σ=[u,some (.ref d)])/\Same (wo d H1) H3/\Dk H3 d (n+1+81 * i)/\acc.length=i/\∃ U:List Str,U.length<=12 * i/\∀ x∈acc,∃ (s:Addr) (ws:List Str),x = .ref s/\s≠d/\s≠SH/\H3 s=some (.lst (ws.map V.str))/\WsOk ws/\∀ w∈ws,w∈U) upd_same ⟨⟨_,rfl⟩,wo_same.trans (Same.new hSH),dk1.same (Same.new hSH),rfl,[],Nat.le_refl _,λx hx=>by cases hx⟩ (λi acc σ H3 hi hD3 q=>?_) (λacc σ H3 hD3 q=>?_)
  ·obtain ⟨q0,s3,dk3,hal,U,hU,hsh⟩:=q;apply ex_1 q0;clear q0;intro u;refine compY ?_;refine ⟨_,rfl,(by decide),λp hp=>⟨_,rfl,d,3,_,rfl,dk3.same (Same.new hp),by lia,by decide,by decide,λr3 H4 s4 dk4 q0 q1=>?_⟩⟩;obtain ⟨v,hv,hv0,hv1⟩:=at_ints q0 q1;refine ⟨p,_,r3,_,rfl,rfl,.of (keepN s4 upd_same (dk3.ne hp)),hv,d,v,_,rfl,dk4,by lia,hv0,hv1,λx ws H5 s5 dk5 hln=>?_⟩;have hs35:=wo_trans (wo_trans (wo_same.trans (Same.new hp)) s4) s5;have hSH5:=keepN hs35 hD3 hdSH;refine ⟨rfl,x," ",rfl,rfl,by rw [h1];decide,Nat.le_trans (Nat.add_le_add_right (hln.ok (by lia)).2 2) (by decide),λl hl=>?_⟩;have sl:Same H5 (upd H5 l (.lst ((Txt.split x " ").map V.str))):=Same.new hl;have hlSH:=(ne_of_none hSH5 hl).symm;refine ⟨acc,sl _ _ hSH5,small (by lia),_,upd_same,⟨_,rfl⟩,snap_upd (by rwa [wo_at hdSH.symm]) (wo_trans s3 (hs35.trans sl)),((dk5.same sl).upd hdSH).mono (by lia),by rw [List.length_append,hal];rfl,U++ws,by rw [List.length_append];have:=hln.le;lia,λy hy=>?_⟩;rcases List.mem_append.mp hy with hy | hy
   ·obtain ⟨s,ws',rfl,g1,g2,g3,g4,g5⟩:=hsh y hy;exact ⟨s,ws',rfl,g1,g2,by rw [upd_ne g2];exact sl _ _ (keepN hs35 g3 g1.symm),g4,λw hw=>List.mem_append_left _ (g5 w hw)⟩
   ·simp only [List.mem_singleton] at hy;subst hy;refine ⟨l,ws,rfl,((dk5.ne hl).symm),hlSH,by rw [upd_ne hlSH,upd_same,hln.split],⟨hln.pos,Nat.le_trans hln.le (by lia),hln.wd⟩,λw hw=>List.mem_append_right _ hw⟩
  ·obtain ⟨_,s3,dk3,hal,U0,hU0,hsh⟩:=q;have hU36:U0.length<=36:=by lia
   clear hU0;have hHs1:=same_wo wo_self (wo_trans s1 s3);have hSHs:(wo d H3) SH=some (.lst acc):=by rwa [wo_at hdSH.symm]
   have hshs:ShapesU U0 (wo d H3) acc:=λx hx=>by
    obtain ⟨s,ws,rfl,g1,g2,g3,g4⟩:=hsh x hx;exact ⟨s,ws,rfl,by rwa [wo_at g1],g4⟩
   have hds:(wo d H3) d=none:=wo_self;have hsm0:Same (wo d H3) H3:=wo_same;refine ⟨Nat.zero_le _,λF hF=>?_⟩;have hdF:=dk3.ne hF;have hFs:=hsm0.free hF;have hFH:H F=none:=by
    have:=hHs1.free hFs
    rwa [wo_at hdF.symm] at this
   generalize wo d H3=Hs at hHs1 hSHs hshs hds hsm0 hFs;have sF:Same H3 (upd H3 F (.lst [])):=Same.new hF;refine ⟨_,rfl,_,rfl,_,_,rfl,rfl,d,_,_,rfl,dk3.same sF,by lia,by lia,by lia,λr2 H4 s4 dk4 q0 q1=>⟨r2,rfl,by lia,by lia,?_⟩⟩;refine for_range (λi σ H5=>(∃ u4 u5 u6,σ=[some (.ref d),some (.int m),some (.ref SH),some (.ref F),u4,u5,u6])/\Same Hs H5/\Dk H5 d (n+400+20 * i)/\∃ ls U:List Str,H5 F=some (.lst (ls.map V.str))/\ls.length<=2 * i/\U.length<=36+2 * i/\(∀ w∈U0,w∈U)/\∀ x∈ls,∃ ws,LnOk 12 x ws/\∀ w∈ws,w∈U)
    ⟨⟨_,_,_,rfl⟩,λb o e=>s4 b o (by rw [wo_at (ne_of_none e hds)];exact sF b o (hsm0 b o e)),dk4.mono (by lia),[],U0,keepN s4 upd_same hdF,Nat.le_refl _,hU36,λw hw=>hw,λx hx=>by cases hx⟩ (λi σ H5 hi q=>?_) (λσ H5 q=>?_)
   ·obtain ⟨q0,s5,dk5,ls,U,hF5,hll,hUl,hU0U,hlok⟩:=q;apply ex_3 q0;clear q0;intro u4 u5 u6;have i62:i<62:=by lia
    have keepS:∀ {Ha Hb:Hp},Same Hs Ha->Same (wo d Ha) Hb->Same Hs Hb:=λsa sb b o e=>sb b o (by rw [wo_at (ne_of_none e hds)];exact sa b o e);refine ⟨_,rfl,_,rfl,_,rfl,SH,_,rfl,.inl (.of (s5 _ _ hSHs)),d,_,_,rfl,dk5,by lia,by lia,by lia,λrk H6 s6 dk6 k0 k1=>?_⟩;have s6':=keepS s5 s6;have hF6:=keepN s6 hF5 hdF;obtain ⟨jj,rfl⟩:=Int.eq_ofNat_of_zero_le (k0:(0:Int)<=rk);have hjj:jj<acc.length:=by lia
    have hxj:=List.getElem?_eq_getElem hjj;obtain ⟨sA,ws,ex,hsA,hws,hwU⟩:=hshs acc[jj] (List.mem_of_getElem? hxj);refine ⟨SH,acc,_,_,rfl,rfl,.of (s6' _ _ hSHs),atI_nat hxj,sA,_,by rw [ex],.inl (.of (s6' _ _ hsA)),λW hW=>?_⟩;have sW:Same H6 (upd H6 W (.lst (ws.map V.str))):=Same.new hW;have hdW:=dk6.ne hW;refine ⟨_,rfl,d,3,_,rfl,dk6.same sW,by lia,by decide,by decide,λr3 H8 s8 dk8 g0 g1=>⟨r3,rfl,by lia,by lia,?_⟩⟩;refine for_range (λj σ H9=>(∃ u4 u6,σ=[some (.ref d),some (.int m),some (.ref SH),some (.ref F),u4,some (.ref W),u6])/\Same Hs H9/\Dk H9 d (n+400+20 * i+2+7 * j)/\H9 F=some (.lst (ls.map V.str))/\∃ l U':List Str,H9 W=some (.lst (l.map V.str))/\WsOk l/\U'.length<=U.length+j/\(∀ w∈U,w∈U')/\∀ w∈l,w∈U')
     ⟨⟨_,_,rfl⟩,keepS (s6'.trans sW) s8,dk8.mono (by lia),keepN s8 (sW _ _ hF6) hdF,ws,U,keepN s8 upd_same hdW,hws,Nat.le_refl _,λw hw=>hw,λw hw=>hU0U w (hwU w hw)⟩ (λj σ H9 hj q=>?_) (λσ H9 q=>?_)
    ·obtain ⟨q0,s9,dk9,hF9,l,U',hW9,hl9,hU'l,hUU',hlU'⟩:=q;apply ex_2 q0;clear q0;intro u4 u6;have hlq:=hl9.le;have j3:j<3:=by lia
     have hlp:=hl9.pos;clear hj hi q0 q1 g0 g1 k0 k1 hal;refine ⟨_,rfl,d,_,rfl,dk9,by lia,λx H10 s10 dk10 hx=>?_⟩;have hW10:=keepN s10 hW9 hdW;refine ⟨_,rfl,_,rfl,_,rfl,W,_,rfl,.inl (.of hW10),d,_,_,rfl,dk10,by lia,by rw [List.length_map];lia,by rw [List.length_map];lia,λrj H11 s11 dk11 j0 j1=>?_⟩;exact ⟨W,_,rj,_,rfl,rfl,(keepN s11 hW10 hdW),ixN_in j0 j1,⟨_,_,rfl⟩,snap_upd (s6'.free hW) (keepS (keepS s9 s10) s11),(dk11.upd hdW).mono (by lia),by rw [upd_ne (ne_of_none hF6 hW)];exact keepN s11 (keepN s10 hF9 hdF) hdF,l.set rj.toNat x,U'++[x],by rw [upd_same,List.map_set],hl9.set hx,by rw [List.length_append,List.length_singleton];lia,λw hw=>List.mem_append_left _ (hUU' w hw),λw hw=>by
      rcases List.mem_or_eq_of_mem_set hw with hw | hw
      ·exact List.mem_append_left _ (hlU' w hw)
      ·rw [hw];exact List.mem_append_right _ (List.mem_singleton.mpr rfl)⟩
    ·obtain ⟨q0,s9,dk9,hF9,l,U',hW9,hl9,hU'l,hUU',hlU'⟩:=q;apply ex_2 q0;clear q0;intro u4 u6;have hlq:=hl9.le;have U3:U'.length<=U.length+2:=by lia
     have r32:r3.toNat<=2:=by lia
     clear hi hU'l q0 q1 k0 k1 hal;refine ⟨_,rfl,.inl ⟨rfl,_,.of hF9⟩,rfl,_,rfl," ",W,l,rfl,rfl,.of hW9,join_fits (λy hy=>(hl9.wd y hy).len) (by rw [h1];lia),F,_,_,rfl,rfl,hF9,small (by rw [List.length_map];lia),?_⟩;have hF12:(upd H9 F (.lst (ls.map V.str++[.str (Txt.join " " l)]))) F=some (.lst ((ls++[Txt.join " " l]).map V.str)):=by rw [upd_same];simp
     have hok12:∀ x∈ls++[Txt.join " " l],∃ ws,LnOk 12 x ws/\∀ w∈ws,w∈U':=λx hx=>by
      rcases List.mem_append.mp hx with hx | hx
      ·obtain ⟨ws',a,b⟩:=hlok x hx;exact ⟨ws',a,λw hw=>hUU' w (b w hw)⟩
      ·simp only [List.mem_singleton] at hx;subst hx;exact ⟨l,hl9.line,hlU'⟩
     have hU2:U'.length<=36+2 * (i+1):=by lia
     have hU00:∀ w∈U0,w∈U':=λw hw=>hUU' w (hU0U w hw);refine ⟨_,rfl,d,6,_,rfl,dk9.upd hdF,by lia,by decide,by decide,λr5 H13 s13 dk13 t0 t1=>⟨rfl,_,rfl,?_⟩⟩;have hF13:=keepN s13 hF12 hdF;have s13':=keepS (snap_upd (D:=F) (o:=.lst (ls.map V.str++[.str (Txt.join " " l)])) hFs s9) s13;have hlen12:(ls++[Txt.join " " l]).length=ls.length+1:=by simp
     refine ite2 (λ_=>?_) (λ_=>?_)
     ·refine ⟨_,rfl,.inl ⟨rfl,_,.of hF13⟩,_,rfl,_,rfl,_,rfl,F,_,rfl,.inl (.of hF13),d,_,_,rfl,dk13,by lia,by rw [List.length_map];lia,by rw [List.length_map];lia,λrq H14 s14 dk14 z0 z1=>?_⟩;rw [List.length_map] at z1;obtain ⟨x,hx,hat⟩:=at_strs z0 z1;have hF14:=keepN s14 hF13 hdF;refine ⟨F,_,_,_,rfl,rfl,.of hF14,hat,F,_,_,rfl,rfl,hF14,small (by rw [List.length_map];lia),⟨_,_,_,rfl⟩,snap_upd hFs (keepS s13' s14),(dk14.upd hdF).mono (by lia),(ls++[Txt.join " " l])++[x],U',by rw [upd_same];simp,by rw [List.length_append,hlen12];simp;lia,hU2,hU00,λy hy=>?_⟩;rcases List.mem_append.mp hy with hy | hy
      ·exact hok12 y hy
      ·rw [List.mem_singleton.mp hy];exact hok12 x hx
     ·exact ⟨⟨_,_,_,rfl⟩,s13',dk13.mono (by lia),ls++[Txt.join " " l],U',hF13,by lia,hU2,hU00,hok12⟩
   ·obtain ⟨q0,s5,dk5,ls,U,hF5,hll,hUl,hU0U,hlok⟩:=q;apply ex_3 q0;clear q0;intro u4 u5 u6;refine ⟨_,rfl,_,rfl,m,rfl,F,_,rfl,.of hF5,λD hD=>?_⟩;rw [cut_take hm0,<-List.map_take];have hDH:H D=none:=by
     have:=(hHs1.trans s5).free hD
     rwa [wo_at (dk5.ne hD).symm] at this
    exact k D (ls.take m.toNat) U _ hDH ((hHs1.trans s5).trans (Same.new hD)) ((dk5.same (Same.new hD)).mono (by lia)) upd_same (λx hx=>hlok x (List.mem_of_mem_take hx)) (by rw [List.length_take];lia) (by lia)
end
end K32
namespace K32
open PySem L2 LG
section
variable {P:Program}{w:World}{K:PySem.W.Frag}{mg:Str->Option Value}{base:Heap}{A:Ad}
def sp__law_names (K:PySem.W.Frag):Sp:=λvs H Q _=>∃ (d D:Addr) (zs U:List Str) (n:Nat),vs=[.ref d,.ref D]/\Dk H d n/\n<900000/\H D=some (.lst (zs.map V.str))/\zs.length<=63/\(∀ z∈zs,∃ ws,LnOk 12 z ws/\∀ w∈ws,w∈U)/\U.length<=126/\d≠D /\
 ∀ (F:Addr) (us:List Str) (f:Str->Str) H',H F=none->Same (wo d H) H'->Dk H' d (n+128)->H' F=some (.dK (nmK f us))->us.length<128->(zs≠[]->∀ w,w∈us↔∃ z∈zs,w∈Txt.split z " ")->(zs=[]->∀ w∈us,w=Str.empty)->(∀ w∈us,TOk w)->us.Nodup->NmOk us f->Q (.ref F) H'
theorem sc__law_names:FnScope ["deck","lines","words","order","k","letters","found","word","place","name","new"] ["deck","lines"] (defScope (top 48)):=fsc
set_option maxHeartbeats 8000000 in
theorem ok__law_names (T:Tx K mg A):Okd T._law_names P w base 2 (sp__law_names K):=by
 refine T._law_names.fn.ok sc__law_names (λvs H Q E h=>?_) (λcdv Ar outer s H vs Q E hr h=>?_)
 ·obtain ⟨d,D,zs,U,n,rfl,_⟩:=h;rfl
 ·obtain ⟨d,D,zs,U,n,rfl,hdk,hn,hD,h63,hz,hU,hdD,k⟩:=h;refine ⟨_,pss_cons (ps_set (i:=2) sc__law_names.nd rfl (Or.inl rfl) (pe_fset (call_sortedB rfl hr) rfl (by rfl) T.n_sorted bt_sorted (by rfl) T.n_set bt_set (pa1 (pe_bm PySem.F.plainAttrs_str PySem.F.slot_str_split PySem.F.type_str_split mt_split (pe_bm (r:=rJoin K) PySem.F.plainAttrs_str PySem.F.slot_str_join PySem.F.type_str_join mt_join pe_str (pa1 (pv 1))) (pa1 pe_str)))))
   (pss_cons (ps_set (i:=3) sc__law_names.nd rfl (Or.inl rfl) (pe_lst pa_nil))
   (pss_cons (ps_for PassesOwn.never rfl (pi_range1 (by rfl) T.n_range (pa1 (pe_callB (r:=rLenS K) call_lenS (by rfl) T.n_len PySem.boot_len (pa1 (pv 2))))) (pn 4 sc__law_names.nd) (pss_one (ps_expr (pe_bm (r:=rInsI) PySem.F.plainAttrs_list PySem.F.slot_list_insert PySem.F.type_list_insert mt_insI (pv 3) (pa_cons (pcal T._law_pick (ok__law_pick T) hr (pa_cons (pv 0) (pa1 (pe_op op_add (pv 4) pe_int)))) (pa1 (pv 4)))))))
   (pss_cons (ps_set (i:=5) sc__law_names.nd rfl (Or.inl rfl) pe_str)
   (pss_cons (ps_set (i:=6) sc__law_names.nd rfl (Or.inl rfl) (pe_dnewK))
   (pss_cons (ps_for PassesOwn.never rfl (pi_enum (by rfl) T.n_enumerate (pa1 (pv 2))) (pg_tup rfl (pgs_cons (pn 4 sc__law_names.nd) (pgs_cons (pn 7 sc__law_names.nd) pgs_nil))) (pss_cons (ps_set (i:=8) sc__law_names.nd rfl (Or.inl rfl) (pixL K (pv 3) (pv 4)))
   (pss_cons (ps_set (i:=9) sc__law_names.nd rfl (Or.inl rfl) (pe_op op_add_str (pe_ix ix_str (pv 5) (pe_op op_mod (pe_op op_fdiv (pv 8) pe_int) pe_int) (λ_ _=>rfl)) (pe_ix ix_str (pv 5) (pe_op op_mod (pv 8) pe_int) (λ_ _=>rfl))))
   (pss_cons (ps_set (i:=9) sc__law_names.nd rfl (Or.inl rfl) (pe_op op_add_str (pv 9) (pe_ix ix_str (pv 5) (pe_op op_fdiv (pv 8) pe_int) (λ_ _=>rfl))))
   (pss_cons (ps_set (i:=10) sc__law_names.nd rfl (Or.inl rfl) (pe_disp (pps_cons pe_str (pe_callTy (r:=rStr K) (call_strD hr) (by rfl) T.n_str bt_str' (pa1 (pe_op op_add pe_int (pv 8)))) (pps_cons pe_str (pv 9) (pps_cons pe_str (pe_op op_add_str pe_str (pe_callTy (r:=rStr K) (call_strD hr) (by rfl) T.n_str bt_str' (pa1 (pv 8)))) (pps_nil)))) rfl rfl (by intro h;cases h) (by decide)))
   (pss_one (ps_dput (hu_of hr) (pv 6) (pv 7) (pe_dget (hu_of hr) (pv 10) (pcal T._law_kind (ok__law_kind T) hr (pa1 (pv 7))) (λ_ _=>rfl)) rfl)))))))
   (pss_one (ps_ret (pv 6)))))))),?_⟩
  have h1:((" " : Str)).length=1:=rfl;have z84:∀ z∈zs,z.length<=84:=λz h=>let ⟨_,a,_⟩:=hz z h;(a.ok (Nat.le_refl _)).2;obtain ⟨wA,wB,wC,wD,wE⟩:=lines_words hz h63 hU;refine ⟨rfl,_,rfl," ",D,zs,rfl,rfl,.of hD,join_fits z84 (by rw [h1];lia),rfl,_," ",rfl,rfl,by rw [h1];decide,Nat.le_trans (join_len z84 h63) (by decide),λl hl=>⟨l,_,rfl,.of upd_same,wC,wD,ded_nodup (by simp),λW us hW hpu hup=>?_⟩⟩;have su:∀ w,w∈us↔w∈Txt.split (Txt.join " " zs) " " :=λw=>by rw [hpu.mem_iff,mem_ded0]
  have und:us.Nodup:=hpu.nodup_iff.mpr (ded_nodup (by simp));have ul:us.length<128:=by rw [hpu.length_eq];exact wD
  have sl:Same H (upd H l (.lst ((Txt.split (Txt.join " " zs) " ").map V.str))):=Same.new hl;have hdW:=(hdk.same sl).ne hW;have sW:=sl.trans (Same.new (o:=.lst (us.map V.str)) hW);have hWW:(upd (upd H l (.lst ((Txt.split (Txt.join " " zs) " ").map V.str))) W (.lst (us.map V.str))) W=some (.lst (us.map V.str)):=upd_same;generalize upd (upd H l (.lst ((Txt.split (Txt.join " " zs) " ").map V.str))) W (.lst (us.map V.str))=H1 at sW hWW;clear hW sl hl;have dk1:=hdk.same sW;refine ⟨Nat.zero_le _,λO hO=>?_⟩;have sO:=sW.trans (Same.new (o:=.lst []) hO);have dkO:=dk1.same (Same.new (o:=.lst []) hO);have hdO:=dk1.ne hO;have hOO:(upd H1 O (.lst [])) O=some (.lst []):=upd_same;have hWO:(upd H1 O (.lst [])) W=some (.lst (us.map V.str)):=Same.new (o:=.lst []) hO _ _ hWW;refine ⟨_,rfl,W,_,rfl,.inl (.of hWO),_,rfl,by rw [List.length_map];lia,by rw [List.length_map];lia,?_⟩;rw [List.length_map,Int.toNat_natCast];have hBO:(wo d H1) O=none:=by rwa [wo_at hdO.symm]
  refine for_range (λi σ H2=>(∃ u4 u5 u6 u7 u8 u9 u10,σ=[some (.ref d),some (.ref D),some (.ref W),some (.ref O),u4,u5,u6,u7,u8,u9,u10])/\Same (wo d H1) H2/\Dk H2 d (n+i)/\∃ os:List Nat,H2 O=some (.lst (os.map nV))/\os.Perm (List.range i)) ⟨⟨_,_,_,_,_,_,_,rfl⟩,wo_same.trans (Same.new hO),dkO,[],hOO,.refl _⟩ (λi σ H2 hi q=>?_) (λσ H2 q=>?_)
  ·obtain ⟨q0,s2,dk2,os,hO2,hp⟩:=q;apply ex_7 q0;clear q0;intro u4 u5 u6 u7 u8 u9 u10;have hl:=hp.length_eq;rw [List.length_range] at hl;refine ⟨_,rfl,.inl ⟨rfl,_,.of hO2⟩,_,rfl,_,rfl,_,_,rfl,rfl,d,_,n+i,rfl,dk2,by lia,by lia,by lia,λr H3 s3 dk3 r0 r1=>?_⟩;obtain ⟨j,rfl⟩:=Int.eq_ofNat_of_zero_le (r0:(0:Int)<=r);have hO3:=keepN s3 hO2 hdO;refine ⟨_,rfl,O,j,_,_,rfl,rfl,hO3,by rw [List.length_map];lia,small (by rw [List.length_map];lia),⟨_,_,_,_,_,_,_,rfl⟩,snap_upd hBO (wo_trans s2 s3),(dk3.upd hdO).mono (by lia),os.take j++i::os.drop j,?_,?_⟩
   ·rw [upd_same,List.map_append,List.map_cons,List.map_take,List.map_drop];show _=some (HO.lst (_++V.int (i:Int)::_));rw [Int.zero_add]
   ·rw [List.range_succ];have:=hp;rw [<-List.take_append_drop j os] at this;exact List.perm_middle.trans ((this.cons i).trans (List.perm_append_singleton i _).symm)
  ·obtain ⟨q0,s2,dk2,os,hO2,hp⟩:=q;apply ex_7 q0;clear q0;intro u4 u5 u6 u7 u8 u9 u10;have ol:=hp.length_eq;rw [List.length_range] at ol;have nok:=nmF_ok hp ul;have hW2:=s2 W _ (by rw [wo_at hdW.symm];exact hWW);intro F hF;have sF:Same H2 (upd H2 F (.dK [])):=Same.new hF;have hFF:(upd H2 F (.dK [])) F=some (.dK (nmK (nmF us os) (us.take 0))):=upd_same;have hdF:=dk2.ne hF;have hFW:F≠W:=(ne_of_none hW2 hF).symm;have hFO:F≠O:=(ne_of_none hO2 hF).symm;have hF1:(wo d H1) F=none:=s2.free hF;refine ⟨_,rfl,W,rfl,⟨_,.of (sF _ _ hW2)⟩,?_⟩;refine for_enum (K:=K) (xs:=us.map V.str) (λi σ H3=>(∃ u4 u7 u8 u9 u10,σ=[some (.ref d),some (.ref D),some (.ref W),some (.ref O),u4,some (.str lets),some (.ref F),u7,u8,u9,u10])/\Same (wo F (upd H2 F (.dK []))) H3/\H3 F=some (.dK (nmK (nmF us os) (us.take i)))) ⟨⟨_,_,_,_,_,rfl⟩,wo_same,hFF⟩ (λi σ H3 q=>.of (q.2.1 _ _ (by rw [wo_at hFW.symm];exact sF _ _ hW2))) (λi x σ H3 t hx q ht=>?_) (λσ H3 q=>?_)
   ·obtain ⟨q0,s3,hF3⟩:=q;apply ex_5 q0;clear q0;intro u4 u7 u8 u9 u10;obtain ⟨w,hw,rfl⟩:=strs_at hx;have hi:=ge_len hw;have hwm:=List.mem_of_getElem? hw;have hw':w∈Txt.split (Txt.join " " zs) " " :=(su w).mp hwm;obtain ⟨p,ep⟩:∃ p,os[i]? = some p:=⟨_,List.getElem?_eq_getElem (by lia)⟩;have p128:p<128:=by have:=List.mem_range.mp (hp.mem_iff.mp (List.mem_of_getElem? ep));lia
    have efw:nmF us os w=nm (lawKindL w.cps.toList) p:=by rw [nmF_at und hw,List.getD_eq_getElem?_getD,ep];rfl
    have sT:=Same.new (o:=.tup [.int i,.str w]) ht;have hF4:=sT _ _ hF3;have s4:=s3.trans sT;have hT:(upd H3 t (.tup [.int i,.str w])) t=some (.tup [.int i,.str w]):=upd_same;generalize upd H3 t (.tup [.int i,.str w])=H4 at s4 hF4 hT ⊢;clear sT ht s3 hF3;have hO4:=s4 O _ (by rw [wo_at hFO.symm];exact sF _ _ hO2);have l20:lets.length<=sizeLine:=by decide +kernel
    have at20:∀ j:Nat,j<20->atI lets.cps.toList (j:Int)=some (ltr j):=λj hj=>atI_nat (ltr_at j hj);refine ⟨t,_,rfl,.of hT,rfl,_,_,rfl,_,_,rfl,rfl,?_⟩;refine ⟨_,rfl,_,rfl,O,_,_,_,rfl,rfl,.of hO4,atI_nat (by rw [List.getElem?_map,ep];rfl),?_⟩;refine ⟨_,rfl,_,rfl,_,_,rfl,rfl,⟨by decide,by decide⟩,_,_,rfl,rfl,(by show (0:Int)<20;decide),lets,_,ltr (p / 20 % 20),rfl,rfl,l20,at20 (p / 20 % 20) (by lia),?_⟩;refine ⟨_,rfl,_,rfl,_,_,rfl,rfl,(by show (0:Int)<20;decide),lets,_,ltr (p % 20),rfl,rfl,l20,at20 (p % 20) (by lia),_,_,rfl,rfl,(by show 1+1<=sizeLine;decide),?_⟩;refine ⟨_,rfl,_,rfl,_,rfl,_,_,rfl,rfl,⟨by decide,by decide⟩,lets,_,ltr (p / 400),rfl,rfl,l20,at20 (p / 400) (by lia),_,_,rfl,rfl,(by rw [Str.length_append];show 1+1+1<=sizeLine;decide),?_⟩;obtain ⟨n1,n2,n3,n4⟩:=nm_show p p128;intro M hM;have hFM:F≠M:=ne_of_none hF4 hM;refine ⟨_,rfl,_,_,rfl,rfl,_,_,rfl,.int _,showy_int n2 n4,?_⟩;refine ⟨_,rfl,_,rfl,_,_,rfl,.int _,showy_int n1 n3,_,_,rfl,rfl,?_,upd_same,kvN p,rfl,(by decide:3<=15),?_⟩
    ·show 1+_<=sizeLine;exact Nat.le_trans (Nat.add_le_add_left n1 1) (by decide)
    have s5:Same H4 (upd (upd H4 M (.dK [])) M (.dK (mergeK [] (kvN p)))):=snap_upd hM (Same.new hM);have hM5:(upd (upd H4 M (.dK [])) M (.dK (mergeK [] (kvN p)))) M=_:=upd_same;generalize upd (upd H4 M (.dK [])) M (.dK (mergeK [] (kvN p)))=H5 at s5 hM5;refine ⟨_,rfl,_,rfl,w,rfl,wE w hw',λH6 s6=>⟨M,.str (nmF us os w),rfl,?_,_,rfl,_,rfl,F,_,rfl,DPut.k (k:=Sum.inr w) (s6 _ _ (s5 _ _ hF4)) (small (by unfold nmK;rw [List.length_map,List.length_take];lia)),?_⟩⟩
    ·have g:=DGet.k (k:=Sum.inr (kindW (lawKindL w.cps.toList))) (s6 _ _ hM5)
     rwa [val_kinds (lawKind_lt _),<-efw] at g
    have hnt:w∉us.take i:=λh=>by
     obtain ⟨j,hj,e⟩:=List.mem_iff_getElem.mp h;rw [List.length_take] at hj;have hj':j<us.length:=by lia
     rw [List.getElem_take] at e;obtain ⟨hi',e'⟩:=List.getElem?_eq_some_iff.mp hw;have:=(List.getElem_inj und).mp (e.trans e'.symm);lia
    rw [put_nmK hnt];have et:us.take i++[w]=us.take (i+1):=by rw [List.take_add_one,hw];rfl
    rw [et];exact ⟨⟨_,_,_,_,_,rfl⟩,snap_upd wo_self (s4.trans (s5.trans s6)),upd_same⟩
   ·obtain ⟨q0,s3,hF3⟩:=q;apply ex_5 q0;clear q0;intro u4 u7 u8 u9 u10;rw [List.length_map,List.take_length] at hF3;have sA:Same (wo d H) H2:=(wo_mono sW).trans s2;have hF0:(wo d H) F=none:=sA.free hF;have sB:=(same_wo hF0 (sA.trans sF)).trans s3;obtain ⟨a,b,c,e,r⟩:=dk2.mono (m:=n+128) (by lia);exact ⟨_,rfl,k F us (nmF us os) _ (by rwa [wo_at hdF.symm] at hF0) sB ⟨a,b,c,s3 _ _ (by rw [wo_at hdF];exact sF _ _ e),r⟩ hF3 ul (λh w=>(su w).trans (wA h w)) (λh w hw=>wB h w ((su w).mp hw)) (λw hw=>wE w ((su w).mp hw)) und nok⟩
def sp__law_renamed (K:PySem.W.Frag):Sp:=λvs H Q _=>∃ (v:V) (F:Addr) (ps:List Pt) (us:List Str) (f:Str->Str),vs=[v,.ref F]/\Den K H v (patD ps)/\POk ps/\Rd H F (.dK (nmK f us))/\(∀ w∈us,PyData.strOk (f w)=true)/\(∀ w,Pt.word w∈ps->w∈us) /\
 ∀ D ys H',H D=none->Same H H'->H' D=some (.lst ys)->Dens K (lim H H') ys ((ps.map (Pt.ren f)).map Pt.dat)->Q (.ref D) H'
theorem sc__law_renamed:FnScope ["pattern","names"] ["pattern","names"] (defScope (top 49)):=fsc
set_option maxHeartbeats 8000000 in
theorem ok__law_renamed (T:Tx K mg A):Okd T._law_renamed P w base 1 (sp__law_renamed K):=by
 refine T._law_renamed.fn.ok sc__law_renamed (λvs H Q E h=>?_) (λcdv Ar outer s H vs Q E hr h=>?_)
 ·obtain ⟨v,F,ps,us,f,rfl,_⟩:=h;rfl
 ·obtain ⟨v,F,ps,us,f,rfl,hd,hok,hF,hfo,hus,k⟩:=h;obtain ⟨a,xs,rfl,hq,hds⟩:=den_pat hd;have hxl:xs.length=ps.length:=by rw [hds.length,List.length_map]
  have hpl:=hok.1;refine ⟨_,pss_one (ps_ret (pcm ["part","names"] [1] (defScope (top 49)) ["pattern","names"] (pi_list (pv 0)) (λs H fp=>pe_ifExp (ptcmp (op_eq) (pixT K (pv 0) pe_int) pe_str) (pe_tup (pa_cons pe_str (pa1 (pe_dget (hu_of hr) (pv 1) (pixT K (pv 0) pe_int) (λ_ _=>rfl))))) (pv 0)))),?_⟩;refine ⟨_,rfl,a,rfl,⟨_,hq⟩,λD hD=>?_⟩;have sD:Same H (upd H D (.lst [])):=Same.new hD;refine comp_list (K:=K) (xs:=xs) (λi acc σ H2=>(∃ u,σ=[u,some (.ref F)])/\Same H H2/\acc.length=i/\Dens K (lim (upd H D (.lst [])) H2) acc (((ps.take i).map (Pt.ren f)).map Pt.dat)) upd_same ⟨⟨_,rfl⟩,sD,rfl,.nil⟩ (λi acc σ H2 _ _ q=>q.2.1.seq hq) (λi x acc σ H2 hx hDx q=>?_) (λacc σ H2 hDx q=>?_)
  ·obtain ⟨q0,s2,hal,dn⟩:=q;apply ex_1 q0;clear q0;intro u;obtain ⟨p,hpi,hdp⟩:=dens_pt hds hx;have hi:=ge_len hpi;have hpm:=List.mem_of_getElem? hpi;have fin:∀ (v:V) (H3:Hp),Same H2 H3->Den K (lim (upd H D (.lst [])) H3) v (p.ren f).dat->∃ ys,H3 D=some (.lst ys)/\ys.length<sizeLine/\CN D (λacc σ H2=>(∃ u,σ=[u,some (.ref F)])/\Same H H2/\acc.length=i+1/\Dens K (lim (upd H D (.lst [])) H2) acc (((ps.take (i+1)).map (Pt.ren f)).map Pt.dat)) [some x,some (.ref F)] (upd H3 D (.lst (ys++[v]))):=λv H3 s3 d3=>by
    refine ⟨acc,s3 _ _ hDx,small (by lia),_,upd_same,⟨_,rfl⟩,snap_upd hD (s2.trans s3),by rw [List.length_append,hal];rfl,?_⟩;rw [lim_upd (ys:=[]) upd_same];have e:((ps.take (i+1)).map (Pt.ren f)).map Pt.dat=((ps.take i).map (Pt.ren f)).map Pt.dat++[(p.ren f).dat]:=by rw [List.take_add_one,hpi,List.map_append,List.map_append];rfl
    rw [e];exact (dn.same (lim_mono s3)).append (.cons d3 .nil)
   obtain ⟨t,x1,y1,ex,hqt,q1,q2,hxy⟩:=den_pt hdp;have hqt2:=s2.seqT hqt;subst ex;refine compY ⟨_,rfl,t,_,0,_,rfl,rfl,hqt2,rfl,rfl,_,rfl,?_⟩;cases p with
   | word w=>
    obtain ⟨rfl,rfl⟩:=hxy;refine iteT ⟨_,rfl,_,rfl,t,_,1,_,rfl,rfl,hqt2,rfl,F,.str (f y1),rfl,?_,(by show 2<=sizeLine;decide),λb hb=>?_⟩
    ·exact .inl ⟨_,Sum.inr y1,hF.elim (λe=>.inl (s2 _ _ e)) λ⟨o,e⟩=>.inr ⟨o,s2 _ _ e⟩,rfl,(val_nmK (hus y1 hpm)).symm⟩
    ·refine fin _ _ (Same.new hb) ?_;have hbD:b≠D:=(ne_of_none hDx hb).symm;have hbn:(upd H D (.lst [])) b=none:=by rw [upd_ne hbD];exact s2.free hb
     exact .tup (.of ((lim_new hbn).trans upd_same)) (.cons (.str q1) (.cons (.str (hfo y1 (hus y1 hpm))) .nil))
   | hole m=>
    obtain ⟨rfl,rfl⟩:=hxy;refine iteF ⟨_,rfl,fin _ _ (Same.refl _) ?_⟩;exact pt_lim sD s2 hdp
  ·obtain ⟨_,s2,hal,dn⟩:=q;rw [hxl,List.take_length] at dn;exact k D acc H2 hD s2 hDx (dn.same λb o e=>by grind [lim,upd_same,upd_ne])
end
end K32
namespace K32
open PySem L2 LG
section
variable {P:Program}{w:World}{K:PySem.W.Frag}{mg:Str->Option Value}{base:Heap}{A:Ad}
def sp_grouped (K:PySem.W.Frag):Sp:=λvs H Q _=>∃ (a b:Addr) (xs:List V) (ks:List Key),vs=[.ref a,.ref b]/\SqL K H a xs/\SqL K H b (ks.map kV)/\ks.length=xs.length/\xs.length<=1000 /\
 ∀ (D:Addr) (as:List Addr) H',H D=none->Same H H'->H' D=some (.lst (as.map V.ref))->(∀ a∈as,H a=none)->All2 (λa g=>H' a=some (.lst g)) as (grp ks xs)->Q (.ref D) H'
theorem sc_grouped:FnScope ["rows","keys","groups","row","key"] ["rows","keys"] (defScope (top 26)):=fsc
set_option maxHeartbeats 8000000 in
theorem ok_grouped (T:Tx K mg A):Okd T.grouped P w base 1 (sp_grouped K):=by
 refine T.grouped.fn.ok sc_grouped (λvs H Q E h=>?_) (λcdv Ar outer s H vs Q E hr h=>?_)
 ·obtain ⟨a,b,xs,ks,rfl,_⟩:=h;rfl
 ·obtain ⟨a,b,xs,ks,rfl,hqa,hqb,hl,hle,k⟩:=h;refine ⟨_,pss_cons (ps_set (i:=2) sc_grouped.nd rfl (Or.inl rfl) (pe_dnewK))
   (pss_cons (ps_for PassesOwn.never rfl (pi_zip (by rfl) T.n_zip (pa_cons (pv 0) (pa1 (pv 1)))) (pg_tup rfl (pgs_cons (pn 3 sc_grouped.nd) (pgs_cons (pn 4 sc_grouped.nd) pgs_nil))) (pss_one (ps_expr (pe_bm PySem.F.plainAttrs_list PySem.F.slot_list_append PySem.F.type_list_append mt_append (pe_setd (pv 2) (pv 4) (pe_lst pa_nil) ⟨rfl,rfl,rfl,rfl⟩) (pa1 (pv 3))))))
   (pss_one (ps_ret (pe_lvals rfl (by rfl) T.n_list bt_list (pv 2))))),?_⟩
  intro G hG;have sG:Same H (upd H G (.dK [])):=Same.new hG;have hGG:(upd H G (.dK [])) G=some (.dK []):=upd_same;refine ⟨_,rfl,_,rfl,a,b,rfl,⟨_,sG.seq hqa⟩,⟨_,sG.seq hqb⟩,?_⟩;generalize upd H G (.dK [])=H1 at sG hGG ⊢;refine for_zip (K:=K) (xs:=xs) (ys:=ks.map kV) (λi σ H2=>(∃ u v,σ=[some (.ref a),some (.ref b),some (.ref G),u,v])/\Same H H2/\∃ (as:List Addr) (kvs:List (Key×V)),H2 G=some (.dK kvs)/\GL H H2 G as kvs (grpAll ((ks.zip xs).take i))/\kvs.length<=i/\∀ g∈(grpAll ((ks.zip xs).take i)).map (·.2),g.length<=i)
   ⟨⟨_,_,rfl⟩,sG,[],[],hGG,.nil,Nat.le_refl _,λg hg=>by cases hg⟩ (λi σ H2 q=>⟨q.2.1.seq hqa,q.2.1.seq hqb⟩) (λi x y σ H2 p hx hy q hp=>?_) (λσ H2 q=>?_)
  ·obtain ⟨q0,s2,as,kvs,hG2,gl,hkl,hgl⟩:=q;apply ex_2 q0;clear q0;intro u v;have hi:=ge_len hx;rw [List.getElem?_map] at hy;obtain ⟨ky,hky,rfl⟩:∃ ky,ks[i]? = some ky/\y=kV ky:=by
    simp_all
   have hz:(ks.zip xs)[i]? = some (ky,x):=by simp_all
   have sp:Same H2 (upd H2 p (.tup [x,kV ky])):=Same.new hp;have hpp:(upd H2 p (.tup [x,kV ky])) p=some (.tup [x,kV ky]):=upd_same;have s3:=s2.trans sp;have hG3:=sp _ _ hG2;have gl3:GL H (upd H2 p (.tup [x,kV ky])) G as kvs (grpAll ((ks.zip xs).take i)):=gl.keep λc hc=>by
    obtain ⟨⟨g,e⟩,_⟩:=gl.mem c hc;exact upd_ne (ne_of_none e hp)
   generalize upd H2 p (.tup [x,kV ky])=H3 at sp hpp s3 hG3 gl3 ⊢;refine ⟨p,_,rfl,.of hpp,rfl,_,_,rfl,_,_,rfl,rfl,?_⟩;refine ⟨_,rfl,G,rfl,.inl ⟨kvs,.of hG3⟩,_,rfl,Nat.zero_le _,λL hL=>?_⟩;have sL:Same H3 (upd H3 L (.lst [])):=Same.new hL;have hLL:(upd H3 L (.lst [])) L=some (.lst []):=upd_same;have hGL:L≠G:=(ne_of_none hG3 hL).symm;have hLas:L∉as:=λz=>by
    obtain ⟨⟨g,e⟩,_⟩:=gl3.mem L z;rw [hL] at e;cases e
   have hL0:H L=none:=s3.free hL;have s4:=s3.trans sL;have hG4:=sL _ _ hG3;have gl4:GL H (upd H3 L (.lst [])) G as kvs (grpAll ((ks.zip xs).take i)):=gl3.keep λc hc=>by
    obtain ⟨⟨g,e⟩,_⟩:=gl3.mem c hc;exact upd_ne (ne_of_none e hL)
   generalize upd H3 L (.lst [])=H4 at sL hLL s4 hG4 gl4 ⊢;have hex:grpAll ((ks.zip xs).take (i+1))=grpPut (grpAll ((ks.zip xs).take i)) ky x:=grpAll_next hz;have hlen:∀ g∈(grpPut (grpAll ((ks.zip xs).take i)) ky x).map (·.2),g.length<=i+1:=λg hg=>by
    obtain ⟨q,hq,rfl⟩:=List.mem_map.mp hg;unfold grpPut at hq
    grind
   refine ⟨kvs,ky,hG4,rfl,small (by lia),λv' hv'=>?_,λhn=>?_⟩
   ·obtain ⟨c,g,rfl,hc,hcg,hgm,glN⟩:=gl4.grow (x:=x) hv';have hcm:=gl4.mem c hc;refine ⟨.inl ⟨rfl,_,.of hcg⟩,_,rfl,c,g,_,rfl,rfl,hcg,small (by have:=hgl g hgm;lia),?_⟩;refine ⟨⟨_,_,rfl⟩,snap_upd hcm.2.1 s4,as,kvs,by rwa [upd_ne hcm.2.2.symm],by rwa [hex],by lia,by rwa [hex]⟩
   ·have hGn:H G=none:=hG;have hLu:(upd H4 G (.dK (putK kvs ky (.ref L)))) L=some (.lst []):=by rwa [upd_ne hGL]
    refine ⟨.inl ⟨rfl,_,.of hLu⟩,_,rfl,L,[],_,rfl,rfl,hLu,small (by decide),?_⟩;have gl6:GL H (upd (upd H4 G (.dK (putK kvs ky (.ref L)))) L (.lst ([]++[x]))) G as kvs (grpAll ((ks.zip xs).take i)):=gl4.keep λc hc=>by
     have:=gl4.mem c hc
     grind [upd_ne]
    obtain ⟨e1,glN⟩:=gl6.more hn upd_same hL0 hGL hLas;refine ⟨⟨_,_,rfl⟩,snap_upd hL0 (snap_upd hGn s4),as++[L],kvs++[(ky,.ref L)],by rw [upd_ne hGL.symm,upd_same,e1],by rwa [hex],by simp_all,by rwa [hex]⟩
  ·obtain ⟨q0,s2,as,kvs,hG2,gl,hkl,hgl⟩:=q;apply ex_2 q0;clear q0;intro u v;have hm:min xs.length (ks.map kV).length=(ks.zip xs).length:=by simp_all
   rw [hm,List.take_of_length_le (Nat.le_refl _)] at gl;refine ⟨_,rfl,G,kvs,rfl,.of hG2,λD hD=>?_⟩;rw [gl.vals];have sD:Same H2 (upd H2 D (.lst (as.map V.ref))):=Same.new hD;exact k D as _ (s2.free hD) (s2.trans sD) upd_same (λc hc=>(gl.mem c hc).2.1) (gl.lists.mono λc g e=>sD _ _ e)
end
end K32
namespace K32
open PySem L2 LG
section
variable {P:Program}{w:World}{K:PySem.W.Frag}{mg:Str->Option Value}{base:Heap}{A:Ad}
def sp_words_at (K:PySem.W.Frag):Sp:=λvs H Q _=>∃ (u:V) (p n:Nat) (wss:List (List Str)),vs=[u,.int p]/\Den K H u (gD wss)/\GOk n wss/\p<n /\
 ∀ (D:Addr) H',H D=none->Same H H'->H' D=some (.lst ((wAt wss p).map V.str))->Q (.ref D) H'
def sp_many_unlike_at (K:PySem.W.Frag):Sp:=λvs H Q _=>∃ (u:V) (p n:Nat) (wss:List (List Str)),vs=[u,.int p]/\Den K H u (gD wss)/\GOk n wss/\p<n /\
 ∀ H',Same H H'->Q (.int (uAt wss p).length) H'
def sp_is_fit_to_part_at (K:PySem.W.Frag):Sp:=λvs H Q _=>∃ (u:V) (p n:Nat) (wss:List (List Str)) (t:Addr) (s l:Int),vs=[u,.int p,.ref t]/\Den K H u (gD wss)/\GOk n wss/\p<n/\SqT K H t [.int s,.int l] /\
 ∀ H',Same H H'->Q (.bl (fitAt wss p s l)) H'
theorem sc_words_at:FnScope ["group","place"] ["group","place"] (defScope (top 27)):=fsc
set_option maxHeartbeats 8000000 in
theorem ok_words_at (T:Tx K mg A):Okd T.words_at P w base 1 (sp_words_at K):=by
 refine T.words_at.fn.ok sc_words_at (λvs H Q E h=>?_) (λcdv Ar outer s H vs Q E hr h=>?_)
 ·obtain ⟨u,p,n,wss,rfl,_⟩:=h;rfl
 ·obtain ⟨u,p,n,wss,rfl,hd,ok,hp,k⟩:=h;obtain ⟨a,xs,rfl,hq,hds⟩:=den_g hd;have hxl:xs.length=wss.length:=by rw [hds.length,List.length_map]
  refine ⟨_,pss_one (ps_ret (pcm ["words","place"] [1] (defScope (top 27)) ["group","place"] (pi_list (pv 0)) (λs H fp=>pixL K (pv 0) (pv 1)))),?_⟩;refine ⟨_,rfl,a,rfl,⟨_,hq⟩,λD hD=>?_⟩;refine comp_list (K:=K) (xs:=xs) (λi acc σ H4=>(∃ u,σ=[u,some (.int p)])/\Same H H4/\acc=(wAt (wss.take i) p).map V.str) upd_same ⟨⟨_,rfl⟩,Same.new hD,rfl⟩ (λi acc σ H4 _ _ q=>q.2.1.seq hq) (λi x acc σ H4 hx hDx q=>?_) (λacc σ H4 hD4 q=>?_)
  ·obtain ⟨q0,s4,rfl⟩:=q;apply ex_1 q0;clear q0;intro u;obtain ⟨ws,r,hw,rfl,hqr⟩:=dens_ws hds hx;have hrow:=ok.row ws (List.mem_of_getElem? hw);have hat:(ws.map V.str)[p]? = some (.str (ws.getD p Str.empty)):=by simp_all
   have hle:=ok.le;refine compY ⟨_,rfl,_,rfl,r,_,_,_,rfl,rfl,s4.seq hqr,atI_nat hat,_,hDx,small (by unfold wAt;rw [List.length_map,List.length_map,List.length_take];lia),_,upd_same,⟨_,rfl⟩,snap_upd hD s4,?_⟩;rw [wAt_next hw,List.map_append];rfl
  ·simp_all
theorem sc_many_unlike_at:FnScope ["group","place"] ["group","place"] (defScope (top 28)):=fsc
set_option maxHeartbeats 8000000 in
theorem ok_many_unlike_at (T:Tx K mg A):Okd T.many_unlike_at P w base 2 (sp_many_unlike_at K):=by
 refine T.many_unlike_at.fn.ok sc_many_unlike_at (λvs H Q E h=>?_) (λcdv Ar outer s H vs Q E hr h=>?_)
 ·obtain ⟨u,p,n,wss,rfl,_⟩:=h;rfl
 ·obtain ⟨u,p,n,wss,rfl,hd,ok,hp,k⟩:=h;refine ⟨_,pss_one (ps_ret (pe_fset call_lenU rfl (by rfl) T.n_len PySem.boot_len (by rfl) T.n_set bt_set (pa1 (pcal T.words_at (ok_words_at T) hr (pa_cons (pv 0) (pa1 (pv 1))))))),?_⟩;refine ⟨_,rfl,_,rfl,u,p,n,wss,rfl,hd,ok,hp,λD H1 hD s1 hDD=>⟨D,_,rfl,.of hDD,Nat.lt_trans (ok.wlen p) (by decide),k H1 s1⟩⟩
theorem all_perm {α:Type}{l m:List α}{f:α->Bool} (h:l.Perm m):l.all f=m.all f:=by
 grind
theorem flat_strs (ws:List Str):(ws.map V.str).all flatV=true:=by
 rw [List.all_eq_true];intro x hx;obtain ⟨w,_,rfl⟩:=List.mem_map.mp hx;rfl
theorem count_strs (ws:List Str) (w:Str):(ws.map V.str).countP (λz=>eqV z (.str w))=ws.countP λz=>decide (z=w):=by
 rw [List.countP_map];rfl
theorem sc_is_fit_to_part_at:FnScope ["group","place","sieve","spread","least","words","unlike"] ["group","place","sieve"] (defScope (top 29)):=fsc
set_option maxHeartbeats 8000000 in
theorem ok_is_fit_to_part_at (T:Tx K mg A):Okd T.is_fit_to_part_at P w base 2 (sp_is_fit_to_part_at K):=by
 refine T.is_fit_to_part_at.fn.ok sc_is_fit_to_part_at (λvs H Q E h=>?_) (λcdv Ar outer s H vs Q E hr h=>?_)
 ·obtain ⟨u,p,n,wss,t,s,l,rfl,_⟩:=h;rfl
 ·obtain ⟨u,p,n,wss,t,s,l,rfl,hd,ok,hp,hqt,k⟩:=h;refine ⟨_,pss_cons (ps_asg (pv 2) (pg_tup rfl (pgs_cons (pn 3 sc_is_fit_to_part_at.nd) (pgs_cons (pg_name (i:=4) sc_is_fit_to_part_at.nd rfl (Or.inr rfl)) pgs_nil))))
   (pss_cons (ps_set (i:=5) sc_is_fit_to_part_at.nd rfl (Or.inr rfl) (pcal T.words_at (ok_words_at T) hr (pa_cons (pv 0) (pa1 (pv 1)))))
   (pss_cons (ps_set (i:=6) sc_is_fit_to_part_at.nd rfl (Or.inl rfl) (pe_fset (call_sortedS rfl hr) rfl (by rfl) T.n_sorted bt_sorted (by rfl) T.n_set bt_set (pa1 (pv 5))))
   (pss_one (ps_ret (pe_and (pe_chain op_le op_le pe_int (pe_callB (r:=rLenS K) call_lenS (by rfl) T.n_len PySem.boot_len (pa1 (pv 6))) (pv 3)) (pe_one (pe_callB (r:=rAll K) (call_all rfl) (by rfl) T.n_all bt_all (pa1 (pcm ["word","least","words"] [4,5] (defScope (top 29)) ["group","place","sieve","spread","least","words","unlike"] (pi_list (pv 6)) (λs H fp=>pcmp (op_ge) (pe_bmK (K:=K) rfl (r:=rCount K) PySem.F.plainAttrs_list PySem.F.slot_list_count PySem.F.type_list_count mt_count (pv 2) (pa1 (pv 0))) (pv 1))))))))))),?_⟩
  refine ⟨_,rfl,t,_,rfl,hqt,rfl,_,_,rfl,_,_,rfl,rfl,?_⟩;refine ⟨_,rfl,_,rfl,u,p,n,wss,rfl,hd,ok,hp,λW H1 hW s1 hWW=>?_⟩;refine ⟨_,rfl,W,_,rfl,.of hWW,Nat.lt_trans (ok.wlen p) (by decide),ok.ulen p,λU ms hU hperm hup=>?_⟩;have sU:Same H1 (upd H1 U (.lst (ms.map V.str))):=Same.new hU;have hUU:(upd H1 U (.lst (ms.map V.str))) U=some (.lst (ms.map V.str)):=upd_same;have hW2:=sU _ _ hWW;have s2:=s1.trans sU;generalize upd H1 U (.lst (ms.map V.str))=H2 at sU hUU hW2 s2 ⊢;have hml:ms.length=(uAt wss p).length:=hperm.length_eq;have hlen:((ms.map V.str).length:Int)=((uAt wss p).length:Int):=by simp_all
  refine ⟨_,rfl,U,_,rfl,.inl (.of hUU),_,_,rfl,rfl,_,rfl,?_⟩;rw [hlen];cases c1:decide ((2:Int)<=((uAt wss p).length:Int)) with
  | false=>
   refine iteF ⟨_,rfl,iteF ?_⟩
   grind [fitAt]
  | true=>
   refine iteT ⟨_,rfl,_,_,rfl,rfl,_,rfl,?_⟩;cases c2:decide (((uAt wss p).length:Int)<=s) with
   | false=>
    refine iteF ?_
    grind [fitAt]
   | true=>
    refine iteT ⟨_,rfl,U,rfl,⟨_,.of hUU⟩,λB hB=>?_⟩;refine comp_list (K:=K) (xs:=ms.map V.str) (λi acc σ H4=>(∃ u,σ=[u,some (.int l),some (.ref W)])/\Same H2 H4/\acc=((ms.take i).map λw=>decide (l<=((wAt wss p).countP λz=>decide (z=w):Nat))).map V.bl) upd_same ⟨⟨_,rfl⟩,Same.new hB,rfl⟩ (λi acc σ H4 _ _ q=>.of (q.2.1 _ _ hUU)) (λi x acc σ H4 hx hBx q=>?_) (λacc σ H4 hB4 q=>?_)
    ·obtain ⟨q0,s4,rfl⟩:=q;apply ex_1 q0;clear q0;intro u';obtain ⟨w',hw,rfl⟩:=strs_at hx;have hu:=ok.ulen p;have hW4:=s4 _ _ hW2;refine compY ⟨_,rfl,.inl ⟨rfl,_,.of hW4⟩,_,rfl,W,_,_,rfl,rfl,.of hW4,rfl,flat_strs _,_,rfl,_,_,rfl,rfl,?_⟩;refine ⟨_,hBx,small (by rw [List.length_map,List.length_map,List.length_take];lia),_,upd_same,⟨_,rfl⟩,snap_upd hB s4,?_⟩;rw [count_strs,List.take_add_one,hw];simp
    ·obtain ⟨_,s4,rfl⟩:=q;rw [List.length_map,List.take_of_length_le (Nat.le_refl _)] at hB4;refine ⟨B,_,rfl,.of hB4,?_⟩;have e:fitAt wss p s l=((ms.map λw=>decide (l<=((wAt wss p).countP λz=>decide (z=w):Nat))).all id):=by
      unfold fitAt;rw [c1,c2,List.all_map,Bool.true_and,Bool.true_and];exact (all_perm hperm).symm
     rw [<-e];exact k H4 (s2.trans s4)
end
end K32
namespace K32
open PySem L2 LG
section
variable {P:Program}{w:World}{K:PySem.W.Frag}{mg:Str->Option Value}{base:Heap}{A:Ad}
def lamQ:Str:=("place_to_part_at" : Str) ++ ".<locals>." ++ "<lambda>"
def LamOk (P:Addr) (H:Hp):Prop:=LamAt P ⟨89,27,89,69⟩ lamQ H
def sp_place_to_part_at (K:PySem.W.Frag) (P:Addr):Sp:=λvs H Q _=>∃ (u:V) (n:Nat) (wss:List (List Str)) (t:Addr) (s l:Int),vs=[u,.ref t]/\Den K H u (gD wss)/\GOk n wss/\SqT K H t [.int s,.int l]/\LamOk P H /\
 ∀ H',Same (wo P H) H'->LamOk P H'->Q (pOpt (plc wss n s l)) H'
theorem sc_place_to_part_at:FnScope ["group","sieve","places"] ["group","sieve"] (defScope (top 30)):=fsc
set_option maxHeartbeats 8000000 in
theorem ok_place_to_part_at (T:Tx K mg A):Okd T.place_to_part_at P w base 5 (sp_place_to_part_at K A.p_lam):=by
 refine T.place_to_part_at.fn.okC T.lam.code sc_place_to_part_at (λvs H Q E h=>?_) (λAr outer s H vs Q E hr h=>?_)
 ·obtain ⟨u,n,wss,t,s,l,rfl,_⟩:=h;rfl
 ·obtain ⟨u,n,wss,t,s',l,rfl,hd,ok,hqt,hla,k⟩:=h;obtain ⟨a,xs,rfl,hq,hds⟩:=den_g hd;have hxl:xs.length=wss.length:=by rw [hds.length,List.length_map]
  have hlen:0<wss.length:=List.length_pos_iff.mpr ok.ne;have hx0:xs[0]? = some xs[0]:=List.getElem?_eq_getElem (by lia);obtain ⟨ws0,r0,hw0,er0,hqr0⟩:=dens_ws hds hx0;have h12:=ok.le12;refine ⟨_,pss_cons (ps_comp (i:=2) (N':=["place","group","sieve"]) (n:=1) (fi:=[0,1]) (g:=gName 0) sc_place_to_part_at.nd rfl (Or.inl rfl) rfl (cscope (defScope (top 30)) ["group","sieve","places"] (by decide +kernel)) (pi_range1 (by rfl) T.n_range (pa1 (pe_callB (r:=rLenS K) call_lenS (by rfl) T.n_len PySem.boot_len (pa1 (pixL K (pv 0) pe_int))))) (λs H fp=>pg_name (i:=0) (show (["place","group","sieve"]:List Str).Nodup by decide +kernel) rfl (Or.inl rfl) (.inr rfl)) (λs H fp=>pifs_one (pt_val (pcal T.is_fit_to_part_at (ok_is_fit_to_part_at T) hr (pa_cons (pv 1) (pa_cons (pv 0) (pa1 (pv 2))))))) (λs H fp=>pv 0))
   (pss_one (ps_ret (pe_minL (P:=A.p_lam) (y:= "place") (N':=["place","group"]) (fi:=[0]) rfl hr (lscope (defScope (top 30)) ["group","sieve","places"] (by decide +kernel)) rfl T.lam.hd T.lam.bm (λq c' s H=>pe_call ((ok_many_unlike_at T).mono (by decide)) (hr.in1.deeper _) (by rfl) T.many_unlike_at.mg T.many_unlike_at.fn.kp T.many_unlike_at.bd .nil pass0 (pa_cons (pv 1) (pa1 (pv 0)))) (by rfl) T.n_min (pa1 (pv 2))))),?_⟩
  rw [er0] at hx0;refine ⟨_,rfl,a,xs,0,_,rfl,rfl,hq,atI_nat (j:=0) hx0,r0,_,rfl,.inl hqr0,(n:Int),?_,by lia,by lia,λD hD=>?_⟩
  ·rw [List.length_map,(ok.row ws0 (List.mem_of_getElem? hw0)).1]
  refine comp_range (λi acc σ H4=>(∃ u,σ=[u,some (.ref a),some (.ref t)])/\Same H H4/\acc=(plcs wss i s' l).map λp=>V.int (p:Nat)) upd_same ⟨⟨_,rfl⟩,Same.new hD,rfl⟩ (λi acc σ H4 hi hDx q=>?_) (λacc σ H4 hD4 q=>?_)
  ·obtain ⟨q0,s4,rfl⟩:=q;apply ex_1 q0;clear q0;intro u';have hpl:=plcs_len (wss:=wss) (i:=i) (s:=s') (l:=l);have e0:((0:Int)+(i:Int))=((i:Nat):Int):=by lia
   refine ⟨_,rfl,_,rfl,_,rfl,.ref a,i,n,wss,t,s',l,?_,hd.same s4,ok,(by lia),s4.seqT hqt,λH5 s5=>⟨_,rfl,?_⟩⟩
   ·rw [e0];rfl
   rw [plcs_next];cases hf:fitAt wss i s' l with
   | true=>
    refine iteT ⟨_,rfl,_,s5 _ _ hDx,small (by grind),_,upd_same,⟨_,rfl⟩,snap_upd hD (s4.trans s5),?_⟩
    simp_all
   | false=>
    refine iteF ⟨_,s5 _ _ hDx,⟨_,rfl⟩,s4.trans s5,?_⟩
    simp_all
  ·obtain ⟨_,s4,rfl⟩:=q;have la4:LamOk A.p_lam H4:=lam_same hla s4;refine ⟨_,rfl,.ref D,rfl,la4,λc H5 hn la5 hcx=>?_⟩;have sw:Same (wo A.p_lam H4) H5:=lam_next hn;obtain ⟨ps,htb⟩:=lam_tbl la4;have s05:Same (wo A.p_lam H) H5:=(wo_mono s4).trans sw;have en:(n:Int).toNat=n:=by lia
   refine rmin_data (kds:=(plcs wss n s' l).map λp=>.int (uAt wss p).length) (Sh.ok .int) (.of (wo_keep sw htb hD4 λqs e=>by cases e)) (by simp) (λd hd=>?_) (λm x d H6 Q6 hx hd s6 kk=>?_) (λhnil=>?_) (λhnn H6 s6=>?_)
   ·obtain ⟨p,_,rfl⟩:=List.mem_map.mp hd;exact ⟨⟨_,rfl⟩,dep_int _⟩
   ·rw [en,List.getElem?_map] at hx;rw [List.getElem?_map] at hd;cases e:(plcs wss n s' l)[m]? with
    | none=>rw [e] at hx;cases hx
    | some p=>
     rw [e] at hx hd;cases hx;cases hd;exact ⟨_,rfl,s6 _ _ hcx,_,rfl,_,rfl,.ref a,p,n,wss,rfl,((den_tbl htb (hd.same s4)).same sw).same s6,ok,((plcs_mem (List.mem_of_getElem? e)).1),λH7 s7=>kk _ H7 s7 (.int _)⟩
   ·have e:plc wss n s' l=none:=by
     unfold plc
     simp_all
    have:=k H5 s05 la5
    rwa [e] at this
   ·rw [en] at hnn ⊢;have hne:plcs wss n s' l≠[]:=λe=>hnn (by rw [e];rfl);have e:plc wss n s' l=some ((plcs wss n s' l).getD (leastIx ((plcs wss n s' l).map λp=>.int (uAt wss p).length)) 0):=by unfold plc;rw [if_neg hne]
    have:=k H6 (s05.trans s6) (lam_same la5 s6);rw [e] at this;have e2:((plcs wss n s' l).map λp=>V.int (p:Nat)).getD (leastIx ((plcs wss n s' l).map λp=>.int (uAt wss p).length)) .non=V.int ((plcs wss n s' l).getD (leastIx ((plcs wss n s' l).map λp=>.int (uAt wss p).length)) 0:Nat):=by
     rw [List.getD_eq_getElem?_getD,List.getElem?_map,List.getD_eq_getElem?_getD,List.getElem?_eq_getElem (least_lt wss _ hne)];rfl
    rwa [e2]
end
end K32
namespace K32
open PySem L2 LG
section
variable {P:Program}{w:World}{K:PySem.W.Frag}{mg:Str->Option Value}{base:Heap}{A:Ad}
def sp_part (N:Nat) (K:PySem.W.Frag) (P:Addr):Sp:=λvs H Q _=>∃ (B:Hp) (u:V) (n:Nat) (wss:List (List Str)) (t:Addr) (s l:Int),vs=[u,.ref t]/\Same B H/\B P=none/\Den K B u (gD wss)/\GOk n wss/\SqT K H t [.int s,.int l]/\LamOk P H/\mu n wss<N /\
 ∀ (D:Addr) (ys:List V) (C H':Hp),H D=none->Same (wo P H) H'->LamOk P H'->H' D=some (.lst ys)->Same B C->Same C H'->(∀ b,C b≠none->B b≠none\/H b=none)->C P=none->Dens K C ys ((prt n s l N wss).map gD)->Q (.ref D) H'
def sp_parted (K:PySem.W.Frag) (P:Addr):Sp:=sp_part 13 K P
theorem sc_parted:FnScope ["group","sieve","place","groups","smaller"] ["group","sieve"] (defScope (top 31)):=fsc
set_option maxHeartbeats 8000000 in
theorem ok_part (T:Tx K mg A):∀ N,Okd T.parted P w base (6+N) (sp_part N K A.p_lam)
 | 0=>⟨λvs H Q E h=>by obtain ⟨B,u,n,wss,t,s,l,rfl,_⟩:=h;rfl,λ_ _ _ _ _ _ _ _ _ _ _ _ _ h=>by obtain ⟨B,u,n,wss,t,s,l,_,_,_,_,_,_,_,h1,_⟩:=h;lia⟩
 | N+1=>by
  refine T.parted.fn.ok sc_parted (λvs H Q E h=>?_) (λcdv Ar outer s H vs R E hr h=>?_)
  ·obtain ⟨B,u,n,wss,t,s,l,rfl,_⟩:=h;rfl
  ·obtain ⟨B,u,n,wss,t,s',l,rfl,hBH,hBP,hdB,ok,hqt,hla,hmu,k⟩:=h;refine ⟨_,pss_cons (ps_set (i:=2) sc_parted.nd rfl (Or.inl rfl) (pe_call ((ok_place_to_part_at T).mono (by lia)) hr (by rfl) T.place_to_part_at.mg T.place_to_part_at.fn.kp T.place_to_part_at.bd .nil pass0 (pa_cons (pv 0) (pa1 (pv 1)))))
   (pss_cons (ps_if (ptcmp (op_isN) (pv 2) (pe_non)) (pss_one (ps_ret (pe_lst (pa1 (pv 0))))) pss_nil)
   (pss_cons (ps_set (i:=3) sc_parted.nd rfl (Or.inl rfl) (pe_lst pa_nil))
   (pss_cons (ps_for PassesOwn.never rfl (pi_list (pe_call ((ok_grouped T).mono (by lia)) hr (by rfl) T.grouped.mg T.grouped.fn.kp T.grouped.bd .nil pass0 (pa_cons (pv 0) (pa1 (pe_call ((ok_words_at T).mono (by lia)) hr (by rfl) T.words_at.mg T.words_at.fn.kp T.words_at.bd .nil pass0 (pa_cons (pv 0) (pa1 (pv 2)))))))) (pn 4 sc_parted.nd) (pss_one (ps_expr (pe_bm PySem.F.plainAttrs_list PySem.F.slot_list_extend PySem.F.type_list_extend mt_extend (pv 3) (pa1 (pe_call (ok_part T N) hr (by rfl) T.parted.mg T.parted.fn.kp T.parted.bd .nil pass0 (pa_cons (pv 4) (pa1 (pv 1)))))))))
   (pss_one (ps_ret (pv 3)))))),?_⟩
   obtain ⟨a,xs,rfl,hqB,hdsB⟩:=den_g hdB;have hxl:xs.length=wss.length:=by rw [hdsB.length,List.length_map]
   obtain ⟨tb,htb⟩:=lam_tbl hla;refine ⟨_,rfl,_,rfl,.ref a,n,wss,t,s',l,rfl,hdB.same hBH,ok,hqt,hla,λH1 s1 la1=>?_⟩;have hB1:Same B H1:=(same_wo hBP hBH).trans s1;obtain ⟨tb1,htb1⟩:=lam_tbl la1;have old:∀ {b:Addr}{H':Hp},Same (wo A.p_lam H) H'->H' b=none->b≠A.p_lam->H b=none:=λ{b H'} s' e ne=>by
    have:=s'.free e
    rwa [wo_at ne] at this
   refine ⟨_,rfl,rfl,_,rfl,?_⟩;cases hpl:plc wss n s' l with
   | none=>
    refine iteT ⟨_,rfl,(by show 1<=sizeLine;decide),λD hD=>?_⟩;have sD:Same H1 (upd H1 D (.lst [.ref a])):=Same.new hD;have e:prt n s' l (N+1) wss=[wss]:=by unfold prt;rw [hpl]
    exact k D _ B _ (old s1 hD (ne_of_none htb1 hD).symm) (s1.trans sD) (lam_same la1 sD) upd_same (Same.refl B) (hB1.trans sD) (λb h=>.inl h) hBP (by rw [e];exact .cons hdB .nil)
   | some p=>
    obtain ⟨hp,hfit⟩:=plc_ok hpl;have epr:prt n s' l (N+1) wss=(byW wss p).flatMap (prt n s' l N):=by
     conv=>lhs;unfold prt
     rw [hpl]
    refine iteF ?_;refine ⟨Nat.zero_le _,λG hG=>?_⟩;have sG:Same H1 (upd H1 G (.lst [])):=Same.new hG;have hGG:(upd H1 G (.lst [])) G=some (.lst []):=upd_same;have hGP:G≠A.p_lam:=(ne_of_none htb1 hG).symm;have la2:=lam_same la1 sG;have s2:Same (wo A.p_lam H) (upd H1 G (.lst [])):=s1.trans sG;generalize upd H1 G (.lst [])=H2 at sG hGG la2 s2 ⊢;refine ⟨_,rfl,_,rfl,_,rfl,.ref a,p,n,wss,rfl,hdB.same (hB1.trans sG),ok,hp,λW H3 hW s3 hWW=>?_⟩;have s13:=sG.trans s3;have ek:((wAt wss p).map V.str)=((wAt wss p).map (Sum.inr:Str->Key)).map kV:=by rw [List.map_map];rfl
    rw [ek] at hWW;have hwl:=ok.le;refine ⟨a,W,xs,(wAt wss p).map Sum.inr,rfl,(hB1.trans s13).seq hqB,.of hWW,by rw [List.length_map];unfold wAt;rw [List.length_map,hxl],by lia,λD as H4 hD s4 hDD has hall=>⟨D,rfl,⟨_,.of hDD⟩,?_⟩⟩;have s14:=s13.trans s4;have hG3:=s3 _ _ hGG;have hG4:=s4 _ _ hG3;have la4:LamOk A.p_lam H4:=lam_same la2 (s3.trans s4);have s04:Same (wo A.p_lam H) H4:=s2.trans (s3.trans s4);obtain ⟨tb4,htb4⟩:=lam_tbl la4;have hGH:H G=none:=old s1 hG hGP;have hBG:B G=none:=by
     cases e:B G with
     | none=>rfl
     | some o=>rw [hBH _ _ e] at hGH;cases hGH
    have hC:∃ C4:Hp,Same B C4/\Same C4 H4/\C4 G=none/\C4 A.p_lam=none/\(∀ b,C4 b≠none->B b≠none\/H b=none)/\∀ c∈as,(∀ g,H4 c=some (.lst g)->g≠[]->C4 c=H4 c):=by
     refine ⟨λb=>if b=G\/b=A.p_lam then none else if B b≠none\/b∈as then H4 b else none,λb o e=>?_,λb o e=>?_,by simp,by simp,λb hb=>?_,λc hc g hg hne=>?_⟩
     ·have h1:b≠G:=λz=>by rw [z,hBG] at e;cases e
      have h2:b≠A.p_lam:=λz=>by lia
      show (if b=G\/b=A.p_lam then none else _)=_;rw [if_neg (by rintro (z | z) <;> contradiction),if_pos (.inl (by rw [e];simp))];exact (hB1.trans s14) _ _ e
     ·lia
     ·dsimp only at hb
      split at hb
      ·exact absurd rfl hb
      ·rename_i hn
       split at hb
       ·rename_i hor;rcases hor with z | z
        ·exact .inl z
        ·refine .inr (old (s2.trans s3) (has b z) λw=>hn (.inr w))
       ·exact absurd rfl hb
     ·lia
    obtain ⟨C4,hBC,hC4,hCG,hCP,hCb,hCa⟩:=hC;have hrel:=grp_rel (dens_all2 (hdsB.same hBC)) ((wAt wss p).map Sum.inr);refine for_list (K:=K) (xs:=as.map V.ref) (λi σ H5=>(∃ v,σ=[some (.ref a),some (.ref t),some (.int p),some (.ref G),v])/\Same (wo A.p_lam (wo G H4)) H5/\LamOk A.p_lam H5/\∃ (acc:List V) (C:Hp),H5 G=some (.lst acc)/\Same C4 C/\Same C H5/\C G=none/\C A.p_lam=none/\(∀ b,C b≠none->B b≠none\/H b=none)/\Dens K C acc ((((byW wss p).take i).flatMap (prt n s' l N)).map gD))
     ⟨⟨_,rfl⟩,wo_same.trans wo_same,la4,[],C4,hG4,Same.refl _,hC4,hCG,hCP,hCb,.nil⟩ (λi σ H5 _ q=>.of (q.2.1 _ _ (by
      have h1:D≠G:=λz=>by rw [z,hG3] at hD;cases hD
      have h2:D≠A.p_lam:=λz=>by rw [z,htb4] at hDD;cases hDD
      rwa [wo_at h2,wo_at h1]))) (λi x σ H5 hx q=>?_) (λσ H5 q=>?_)
    ·obtain ⟨q0,s5,la5,acc,C,hG5,sC,sC5,cG,cP,cb,dn⟩:=q;apply ex_1 q0;clear q0;intro v;rw [List.getElem?_map] at hx;obtain ⟨c,hci,rfl⟩:∃ c,as[i]? = some c/\x = .ref c:=by
      cases e:as[i]? with
      | none=>rw [e] at hx;cases hx
      | some c=>rw [e] at hx;cases hx;exact ⟨c,rfl,rfl⟩
     obtain ⟨g,hgi,hcg⟩:=hall.at hci;obtain ⟨wg,hwi,hgw⟩:=hrel.at hgi;have hwm:wg∈byW wss p:=List.mem_of_getElem? hwi;have hwne:=(byW_ok hwm).1;have hgne:g≠[]:=λe=>by
      have:=hgw.len;rw [e] at this;exact hwne (List.length_eq_zero_iff.mp this.symm)
     have s05:Same (wo A.p_lam H) H5:=λb o e=>by
      by_cases h1:b=G
      ·rw [h1,wo_at hGP,hGH] at e;cases e
      ·have h2:=(wo_get e).1;exact s5 b o (by rw [wo_at h2,wo_at h1];exact s04 b o e)
     refine ⟨_,rfl,.inl ⟨rfl,_,.of hG5⟩,_,rfl,_,rfl,C4,.ref c,n,wg,t,s',l,rfl,(sC.trans sC5),hCP,(.lst (.of ((hCa c (List.mem_of_getElem? hci) g hcg hgne).trans hcg)) (all2_dens hgw)),ok.sub hwm,(s05.seqT (sqt_tbl htb hqt)),la5,by have:=mu_lt hp (fit_two hfit) hwm;lia,λD2 ys C' H6 hD2 s6 la6 hDD2 sC' sC'6 cb' cP' dn'=>?_⟩;obtain ⟨tb5,htb5⟩:=lam_tbl la5;have hG6:H6 G=some (.lst acc):=wo_keep s6 htb5 hG5 λqs e=>by cases e
     have sC6:Same C H6:=(same_wo cP sC5).trans s6;have cG':C' G=none:=by
      grind
     have hal:acc.length<=wss.length:=by rw [dn.length,List.length_map];exact take_le i
     have hyl:ys.length<=wg.length:=by rw [dn'.length,List.length_map];exact prt_len hwne
     have hgl:=(byW_ok hwm).2.1;refine ⟨G,D2,acc,ys,rfl,rfl,hG6,hDD2,Nat.le_trans (show _<=1000 by lia) (by decide),?_⟩;refine ⟨⟨_,rfl⟩,snap_upd (by rw [wo_at hGP,wo_self]) (wo_trans s5 s6),lam_upd la6 hG6,acc++ys,hU C C',upd_same,sC.trans hU_l,snap_upd (hU_none cG cG') (hU_up sC6 sC'6),hU_none cG cG',hU_none cP cP',λb hb=>?_,?_⟩
     ·rcases hU_ne hb with z | z
      ·exact cb b z
      ·rcases cb' b z with w | w
       ·exact hCb b w
       ·refine .inr (old s05 w λe=>z (by rwa [e]))
     ·rw [List.take_add_one,show (byW wss p)[i]? = some wg from hwi];simp only [Option.toList,List.flatMap_append,List.map_append,List.flatMap_cons,List.flatMap_nil,List.append_nil];exact (dn.same hU_l).append (dn'.same (hU_r sC6 sC'6))
    ·obtain ⟨q0,s5,la5,acc,C,hG5,sC,sC5,cG,cP,cb,dn⟩:=q;apply ex_1 q0;clear q0;intro v;have hbl:as.length=(byW wss p).length:=by rw [hall.len,hrel.len];rfl
     rw [List.length_map,hbl,List.take_of_length_le (Nat.le_refl _)] at dn;have s05:Same (wo A.p_lam H) H5:=λb o e=>by
      by_cases h1:b=G
      ·rw [h1,wo_at hGP,hGH] at e;cases e
      ·have h2:=(wo_get e).1;exact s5 b o (by rw [wo_at h2,wo_at h1];exact s04 b o e)
     refine ⟨_,rfl,k G acc C H5 hGH s05 la5 hG5 (hBC.trans sC) sC5 cb cP ?_⟩
     rwa [epr]
theorem ok_parted (T:Tx K mg A):Okd T.parted P w base 19 (sp_parted K A.p_lam):=ok_part T 13
end
end K32
namespace K32
open PySem L2 LG
section
variable {P:Program}{w:World}{K:PySem.W.Frag}{mg:Str->Option Value}{base:Heap}{A:Ad}
theorem sc_all_taken:FnScope ["parts","words","part","word"] ["parts","words"] (defScope (top 16)):=fsc
set_option maxHeartbeats 8000000 in
theorem ok_all_taken (T:Tx K mg A):Okd T.all_taken P w base 4 (sp_all_taken K):=by
 refine T.all_taken.fn.ok sc_all_taken (λvs H Q E h=>?_) (λcdv Ar outer s H vs Q E hr h=>?_)
 ·obtain ⟨a,b,xs,ps,ws,rfl,_⟩:=h;rfl
 ·obtain ⟨a,b,xs,ps,ws,rfl,hq,hds,hok,hqb,hws,k⟩:=h;have hxl:xs.length=ps.length:=by rw [hds.length,List.length_map]
  refine ⟨_,pss_cons (ps_if (ptcmp (op_ne) (pe_callB (r:=rLenS K) call_lenS (by rfl) T.n_len PySem.boot_len (pa1 (pv 0))) (pe_callB (r:=rLenS K) call_lenS (by rfl) T.n_len PySem.boot_len (pa1 (pv 1)))) (pss_one (ps_ret (pe_bl))) pss_nil)
   (pss_cons (ps_for PassesOwn.never rfl (pi_zip (by rfl) T.n_zip (pa_cons (pv 0) (pa1 (pv 1)))) (pg_tup rfl (pgs_cons (pn 2 sc_all_taken.nd) (pgs_cons (pn 3 sc_all_taken.nd) pgs_nil))) (pss_one (ps_if (pt_not (pt_val (pcal T.part_takes (ok_part_takes T) hr (pa_cons (pv 2) (pa1 (pv 3)))))) (pss_one (ps_ret (pe_bl))) pss_nil)))
   (pss_one (ps_ret (pe_bl)))),?_⟩
  refine ⟨_,rfl,a,xs,rfl,.inl hq,_,rfl,b,_,rfl,.inl hqb,rfl,_,rfl,?_⟩;rw [List.length_map];by_cases hl:ps.length=ws.length
  ·have e:decide (V.int (xs.length:Int)=V.int (ws.length:Int))=true:=decide_eq_true (by rw [hxl,hl]);rw [e];refine iteF ?_;refine ⟨_,rfl,_,rfl,a,b,rfl,⟨_,hq⟩,⟨_,hqb⟩,?_⟩;refine for_zip (K:=K) (xs:=xs) (ys:=ws.map V.str) (λi σ H2=>(∃ u v,σ=[some (.ref a),some (.ref b),u,v])/\Same H H2/\∀ (j:Nat) p x,j<i->ps[j]? = some p->ws[j]? = some x->p.takes x=true) ⟨⟨_,_,rfl⟩,Same.refl _,λj p x hj=>absurd hj (Nat.not_lt_zero _)⟩ (λi σ H2 q=>⟨q.2.1.seq hq,q.2.1.seq hqb⟩) (λi x y σ H2 t hx hy q ht=>?_) (λσ H2 q=>?_)
   ·obtain ⟨q0,s2,hall⟩:=q;apply ex_2 q0;clear q0;intro u v;obtain ⟨p,hp,hden⟩:=dens_pt hds hx;obtain ⟨x',hw',rfl⟩:=strs_at hy;have st:Same H2 (upd H2 t (.tup [x,.str x'])):=Same.new ht;refine ⟨t,_,rfl,.of upd_same,rfl,_,_,rfl,_,_,rfl,rfl,?_⟩;refine ⟨_,rfl,_,rfl,x,x',p,rfl,hden.same (s2.trans st),hok p (List.mem_of_getElem? hp),hws x' (List.mem_of_getElem? hw'),_,rfl,?_⟩;by_cases ht':p.takes x' = true
    ·rw [ht'];refine iteF ⟨⟨_,_,rfl⟩,s2.trans st,λj p2 x2 hj hp2 hx2=>?_⟩
     grind
    ·rw [Bool.eq_false_iff.mpr ht'];refine iteT ?_;have e2:takesAll ps ws=false:=by
      unfold takesAll;rw [zip_none hp hw' (Bool.eq_false_iff.mpr ht'),Bool.and_false]
     have:=k _ (s2.trans st)
     rwa [e2] at this
   ·obtain ⟨q0,s2,hall⟩:=q;apply ex_2 q0;clear q0;intro u v;have e2:takesAll ps ws=true:=by
     unfold takesAll;rw [decide_eq_true hl,Bool.true_and]
     grind [zip_all,List.length_map]
    have:=k _ s2
    rwa [e2] at this
  ·have e:decide (V.int (xs.length:Int)=V.int (ws.length:Int))=false:=decide_eq_false (λq=>hl (by lia));rw [e];refine iteT ?_;have:=k H (Same.refl _)
   rwa [takes_len hl] at this
theorem sc_fits:FnScope ["pattern","line"] ["pattern","line"] (defScope (top 17)):=fsc
set_option maxHeartbeats 8000000 in
theorem ok_fits (T:Tx K mg A):Okd T.fits P w base 5 (sp_fits K):=by
 refine T.fits.fn.ok sc_fits (λvs H Q E h=>?_) (λcdv Ar outer s H vs Q E hr h=>?_)
 ·obtain ⟨v,z,ps,rfl,_⟩:=h;rfl
 ·obtain ⟨v,z,ps,rfl,hd,hok,hz,hzs,k⟩:=h;obtain ⟨a,xs,ev,hq,hds⟩:=den_pat hd;refine ⟨_,pss_one (ps_ret (pcal T.all_taken (ok_all_taken T) hr (pa_cons (pv 0) (pa1 (pcal T.words_of (ok_words_of T) hr (pa1 (pv 1))))))),?_⟩;subst ev;refine ⟨_,rfl,_,rfl,z,rfl,hz,λl hl=>?_⟩;have sl:Same H (upd H l (.lst ((Txt.split z " ").map V.str))):=Same.new hl;exact ⟨a,l,xs,ps,Txt.split z " ",rfl,sl.seq hq,hds.same sl,hok,.of upd_same,λx hx=>Nat.le_trans (ok_split hzs x hx).2 hz,λH' s'=>k H' (sl.trans s')⟩
theorem sc_kind_of_hole_around:FnScope ["part","kind"] ["part"] (defScope (top 18)):=fsc
set_option maxHeartbeats 8000000 in
theorem ok_kind_of_hole_around (T:Tx K mg A):Okd T.kind_of_hole_around P w base 3 (sp_kind_of_hole_around K):=by
 refine T.kind_of_hole_around.fn.ok sc_kind_of_hole_around (λvs H Q E h=>?_) (λcdv Ar outer s H vs Q E hr h=>?_)
 ·obtain ⟨v,p,rfl,_⟩:=h;rfl
 ·obtain ⟨v,p,rfl,hd,hok,k⟩:=h;obtain ⟨a,x1,y1,ev,hq,_,_,hx⟩:=den_pt hd;refine ⟨_,pss_cons (ps_if (pt_val (pcal T.is_hole (ok_is_hole T) hr (pa1 (pv 0)))) (pss_one (ps_ret (pixT K (pv 0) pe_int))) pss_nil)
   (pss_cons (ps_set (i:=1) sc_kind_of_hole_around.nd rfl (Or.inl rfl) (pcal T.kind_of (ok_kind_of T) hr (pa1 (pixT K (pv 0) pe_int))))
   (pss_one (ps_ret (pe_ifExp (pt_cmpR (r:=rIn K false) (op_in_seq) (pv 1) (pe_glob (v:=.ref A.a_HOLE_KINDS) (by rfl) T.g_HOLE_KINDS rfl) (by rfl)) (pv 1) pe_str)))),?_⟩
  refine ⟨_,rfl,v,p,rfl,hd,_,rfl,?_⟩;cases p with
  | hole m=>
   obtain ⟨rfl,rfl⟩:=hx;subst ev;exact iteT ⟨_,rfl,a,_,1,_,rfl,rfl,hq,rfl,k⟩
  | word y=>
   obtain ⟨rfl,rfl⟩:=hx;subst ev;refine iteF ?_;refine ⟨_,rfl,a,_,1,_,rfl,rfl,hq,rfl,y1,rfl,hok.1,?_⟩;refine ⟨_,rfl,A.a_HOLE_KINDS,_,rfl,.inr (T.t_HOLE_KINDS _),rfl,rfl,_,rfl,?_⟩;have hk:∀ i<3,(inV (.str (kindW i)) [.str "number",.str "name",.str "any"])=decide (i<2):=by decide +kernel
   rw [if_neg Bool.false_ne_true,hk _ (kindT_lt _)];by_cases h2:kindT y1<2
   ·rw [decide_eq_true h2];refine iteT ⟨_,rfl,?_⟩;have e:kindW (kindT y1)=kindS (Pt.word y1).around:=by
     show kindW (kindT y1)=kindS (kindT y1);have:kindT y1=0\/kindT y1=1:=by lia
     rcases this with e | e <;> rw [e] <;> rfl
    rwa [e]
   ·rw [decide_eq_false h2];refine iteF ?_;have e:kindS (Pt.word y1).around = "any" :=by
     show kindS (kindT y1) = "any";have h3:=kindT_lt y1;have:kindT y1=2:=by lia
     rw [this];rfl
    rwa [e] at k
theorem sc_looseness_of_part:FnScope ["part"] ["part"] (defScope (top 35)):=fsc
set_option maxHeartbeats 8000000 in
theorem ok_looseness_of_part (T:Tx K mg A):Okd T.looseness_of_part P w base 2 (sp_looseness_of_part K):=by
 refine T.looseness_of_part.fn.ok sc_looseness_of_part (λvs H Q E h=>?_) (λcdv Ar outer s H vs Q E hr h=>?_)
 ·obtain ⟨v,p,rfl,_⟩:=h;rfl
 ·obtain ⟨v,p,rfl,hd,hok,k⟩:=h;obtain ⟨a,x1,y1,ev,hq,_,_,hx⟩:=den_pt hd;refine ⟨_,pss_cons (ps_if (pt_not (pt_val (pcal T.is_hole (ok_is_hole T) hr (pa1 (pv 0))))) (pss_one (ps_ret pe_int)) pss_nil)
   (pss_one (ps_ret (pe_ifExp (ptcmp (op_eq) (pixT K (pv 0) pe_int) pe_str) pe_int pe_int))),?_⟩
  refine ⟨_,rfl,v,p,rfl,hd,_,rfl,?_⟩;cases p with
  | word y=>exact iteT k
  | hole m=>
   obtain ⟨rfl,rfl⟩:=hx;subst ev;refine iteF ?_;have hm:m<3:=hok;refine ⟨_,rfl,a,_,1,_,rfl,rfl,hq,rfl,rfl,_,rfl,?_⟩;rw [hole_any hm];by_cases h2:m=2
   ·rw [decide_eq_true h2];subst h2;exact iteT k
   ·rw [decide_eq_false h2];refine iteF ?_;have e:(Pt.hole m).loose=1:=by
     have:m=0\/m=1:=by lia
     rcases this with rfl | rfl <;> rfl
    rwa [e] at k
end
end K32
namespace K32
open PySem L2 LG
section
variable {P:Program}{w:World}{K:PySem.W.Frag}{mg:Str->Option Value}{base:Heap}{A:Ad}
theorem sc_looseness:FnScope ["pattern"] ["pattern"] (defScope (top 36)):=fsc
set_option maxHeartbeats 8000000 in
theorem ok_looseness (T:Tx K mg A):Okd T.looseness P w base 3 (sp_looseness K):=by
 refine T.looseness.fn.ok sc_looseness (λvs H Q E h=>?_) (λcdv Ar outer s H vs Q E hr h=>?_)
 ·obtain ⟨v,ps,rfl,_⟩:=h;rfl
 ·obtain ⟨v,ps,rfl,hd,hok,k⟩:=h;obtain ⟨a,xs,ev,hq,hds⟩:=den_pat hd;have hxl:xs.length=ps.length:=by rw [hds.length,List.length_map]
  have hpl:=hok.1;refine ⟨_,pss_one (ps_ret (pcm ["part"] [] (defScope (top 36)) ["pattern"] (pi_list (pv 0)) (λs H fp=>pcal T.looseness_of_part (ok_looseness_of_part T) hr (pa1 (pv 0))))),?_⟩;subst ev;refine ⟨_,rfl,a,rfl,⟨_,hq⟩,λD hD=>?_⟩;refine comp_list (K:=K) (xs:=xs) (λi acc σ H2=>(∃ u,σ=[u])/\Same H H2/\acc=(ps.take i).map λp=>V.int p.loose) upd_same ⟨⟨_,rfl⟩,Same.new hD,rfl⟩ (λi acc σ H2 _ _ q=>q.2.1.seq hq) (λi x acc σ H2 hx hDx q=>?_) (λacc σ H2 hDx q=>?_)
  ·obtain ⟨q0,s2,rfl⟩:=q;apply ex_1 q0;clear q0;intro u;obtain ⟨p,hpi,hdp⟩:=dens_pt hds hx;refine compY ⟨_,rfl,x,p,rfl,hdp.same s2,hok.2 p (List.mem_of_getElem? hpi),?_⟩;refine ⟨_,hDx,small (by grind),_,upd_same,⟨_,rfl⟩,snap_upd hD s2,?_⟩;rw [take_next hpi]
  ·simp_all
theorem sc_joined_part:FnScope ["parts","kinds"] ["parts"] (defScope (top 19)):=fsc
set_option maxHeartbeats 8000000 in
theorem ok_joined_part (T:Tx K mg A):Okd T.joined_part P w base 4 (sp_joined_part K):=by
 refine T.joined_part.fn.ok sc_joined_part (λvs H Q E h=>?_) (λcdv Ar outer s H vs Q E hr h=>?_)
 ·obtain ⟨a,xs,ps,rfl,_⟩:=h;rfl
 ·obtain ⟨a,xs,ps,rfl,hq,hds,hne,hok,k⟩:=h;have hxl:xs.length=ps.length:=by rw [hds.length,List.length_map]
  have hpl:=hok.1;obtain ⟨p0,pr,rfl⟩:∃ p0 pr,ps=p0::pr:=by
   cases ps with
   | nil=>exact (hne rfl).elim
   | cons p r=>exact ⟨p,r,rfl⟩
  obtain ⟨x0,xr,rfl⟩:∃ x0 xr,xs=x0::xr:=by
   cases xs with
   | nil=>simp at hxl
   | cons x r=>exact ⟨x,r,rfl⟩
  have hd0:Den K H x0 p0.dat:=by cases hds with | cons h1 _=>exact h1
  have hok0:=hok.2 p0 (List.mem_cons_self ..);refine ⟨_,pss_cons (ps_if (pt_val (pe_callB (r:=rAll K) (call_all rfl) (by rfl) T.n_all bt_all (pa1 (pcm ["part","parts"] [0] (defScope (top 19)) ["parts","kinds"] (pi_list (pv 0)) (λs H fp=>pcmp (r:=rEqD K) (op_eqD hr) (pv 0) (pixL K (pv 1) pe_int)))))) (pss_one (ps_ret (pixL K (pv 0) pe_int))) pss_nil)
   (pss_cons (ps_set (i:=1) sc_joined_part.nd rfl (Or.inr rfl) (pcm ["part"] [] (defScope (top 19)) ["parts","kinds"] (pi_list (pv 0)) (λs H fp=>pcal T.kind_of_hole_around (ok_kind_of_hole_around T) hr (pa1 (pv 0)))))
   (pss_cons (ps_if (pt_val (pe_callB (r:=rAll K) (call_all rfl) (by rfl) T.n_all bt_all (pa1 (pcm ["kind","kinds"] [1] (defScope (top 19)) ["parts","kinds"] (pi_list (pv 1)) (λs H fp=>pcmp (op_eq) (pv 0) (pixL K (pv 1) pe_int)))))) (pss_one (ps_ret (pe_tup (pa_cons pe_str (pa1 (pixL K (pv 1) pe_int)))))) pss_nil)
   (pss_one (ps_ret (pe_tup (pa_cons pe_str (pa1 pe_str))))))),?_⟩
  refine ⟨_,rfl,a,rfl,⟨_,hq⟩,λD hD=>?_⟩;refine comp_list (K:=K) (xs:=x0::xr) (λi acc σ H2=>(∃ u,σ=[u,some (.ref a)])/\Same H H2/\acc=(((p0::pr).take i).map λp=>decide (p=p0)).map V.bl) upd_same ⟨⟨_,rfl⟩,Same.new hD,rfl⟩ (λi acc σ H2 _ _ q=>q.2.1.seq hq) (λi x acc σ H2 hx hDx q=>?_) (λacc σ H2 hDx q=>?_)
  ·obtain ⟨q0,s2,rfl⟩:=q;apply ex_1 q0;clear q0;intro u;obtain ⟨p,hpi,hdp⟩:=dens_pt hds hx;refine compY ⟨_,rfl,_,rfl,a,_,0,x0,rfl,rfl,s2.seq hq,atI_nat (j:=0) rfl,_,_,hdp.same s2,hd0.same s2,Nat.le_trans (dep_dat _) (by decide),?_⟩;rw [pt_eqv (hok.2 p (List.mem_of_getElem? hpi)) hok0];refine ⟨_,hDx,small (by simp only [List.length_map,List.length_take];lia),_,upd_same,⟨_,rfl⟩,snap_upd hD s2,?_⟩;rw [take_next hpi,List.map_append];rfl
  ·obtain ⟨_,s2,rfl⟩:=q;rw [List.take_of_length_le (by lia)] at hDx;refine ⟨D,_,rfl,.of hDx,_,rfl,?_⟩;have e1:(((p0::pr).map λp=>decide (p=p0)).all id)=pr.all λq=>decide (q=p0):=by
    simp
   rw [e1];have ej:joinP (p0::pr)=if pr.all (λq=>decide (q=p0))=true then p0 else if pr.all (λq=>decide (q.around=p0.around))=true then .hole p0.around else .hole 2:=rfl;by_cases ha:pr.all (λq=>decide (q=p0))=true
   ·rw [ha];refine iteT ⟨_,rfl,a,_,0,x0,rfl,rfl,s2.seq hq,atI_nat (j:=0) rfl,k x0 H2 s2 ?_⟩;rw [ej,if_pos ha];exact hd0.same s2
   ·rw [Bool.eq_false_iff.mpr ha];refine iteF ?_;refine ⟨_,rfl,a,rfl,⟨_,s2.seq hq⟩,λD2 hD2=>?_⟩;refine comp_list (K:=K) (xs:=x0::xr) (λi acc σ H3=>(∃ u,σ=[u])/\Same H2 H3/\acc=((p0::pr).take i).map λp=>V.str (kindS p.around)) upd_same ⟨⟨_,rfl⟩,Same.new hD2,rfl⟩ (λi acc σ H3 _ _ q=>(s2.trans q.2.1).seq hq) (λi x acc σ H3 hx hDx3 q=>?_) (λacc σ H3 hDx3 q=>?_)
    ·obtain ⟨q0,s3,rfl⟩:=q;apply ex_1 q0;clear q0;intro u;obtain ⟨p,hpi,hdp⟩:=dens_pt hds hx;refine compY ⟨_,rfl,x,p,rfl,hdp.same (s2.trans s3),hok.2 p (List.mem_of_getElem? hpi),?_⟩;refine ⟨_,hDx3,small (by grind),_,upd_same,⟨_,rfl⟩,snap_upd hD2 s3,?_⟩;rw [take_next hpi]
    ·obtain ⟨_,s3,rfl⟩:=q;rw [List.take_of_length_le (by lia)] at hDx3;refine ⟨_,rfl,D2,rfl,⟨_,.of hDx3⟩,λD4 hD4=>?_⟩;refine comp_list (K:=K) (xs:=(p0::pr).map λp=>V.str (kindS p.around)) (λi acc σ H4=>(∃ u,σ=[u,some (.ref D2)])/\Same H3 H4/\acc=(((p0::pr).take i).map λp=>decide (p.around=p0.around)).map V.bl) upd_same ⟨⟨_,rfl⟩,Same.new hD4,rfl⟩ (λi acc σ H4 _ _ q=>.of (q.2.1 _ _ hDx3)) (λi x acc σ H4 hx hDx4 q=>?_) (λacc σ H4 hDx4 q=>?_)
     ·obtain ⟨q0,s4,rfl⟩:=q;apply ex_1 q0;clear q0;intro u;rw [List.getElem?_map] at hx;cases hpi:(p0::pr)[i]? with
      | none=>rw [hpi] at hx;cases hx
      | some p=>
       rw [hpi] at hx;cases hx;refine compY ⟨_,rfl,_,rfl,D2,_,0,V.str (kindS p0.around),rfl,rfl,.of (s4 _ _ hDx3),atI_nat (j:=0) rfl,rfl,?_⟩;have e2:decide (V.str (kindS p.around)=V.str (kindS p0.around))=decide (p.around=p0.around):=by
        rw [Bool.eq_iff_iff,decide_eq_true_eq,decide_eq_true_eq];exact ⟨λh=>kindS_inj (around_lt (hok.2 p (List.mem_of_getElem? hpi))) (around_lt hok0) (by injection h),λh=>by rw [h]⟩
       rw [e2];refine ⟨_,hDx4,small (by simp only [List.length_map,List.length_take];lia),_,upd_same,⟨_,rfl⟩,snap_upd hD4 s4,?_⟩;rw [take_next hpi,List.map_append];rfl
     ·obtain ⟨_,s4,rfl⟩:=q;have hl5:((p0::pr).map λp=>V.str (kindS p.around)).length=(p0::pr).length:=by simp
      rw [hl5,List.take_of_length_le (Nat.le_refl _)] at hDx4;refine ⟨D4,_,rfl,.of hDx4,_,rfl,?_⟩;have e3:(((p0::pr).map λp=>decide (p.around=p0.around)).all id)=pr.all λq=>decide (q.around=p0.around):=by
       simp
      rw [e3];have s24:=(s2.trans s3).trans s4;by_cases hb:pr.all (λq=>decide (q.around=p0.around))=true
      ·rw [hb];refine iteT ⟨_,rfl,D2,_,0,V.str (kindS p0.around),rfl,rfl,.of (s4 _ _ hDx3),atI_nat (j:=0) rfl,(by show 2<=sizeLine;decide),λt ht=>?_⟩;refine k _ _ (s24.trans (Same.new ht)) ?_;rw [ej,if_neg ha,if_pos hb];exact .tup (.of upd_same) (.cons (.str (by decide +kernel)) (.cons (.str kindS_ok) .nil))
      ·rw [Bool.eq_false_iff.mpr hb];refine iteF ⟨(by decide),λt ht=>?_⟩;refine k _ _ (s24.trans (Same.new ht)) ?_;rw [ej,if_neg ha,if_neg hb];exact .tup (.of upd_same) (.cons (.str (by decide +kernel)) (.cons (.str (by decide +kernel)) .nil))
end
end K32
namespace K32
open PySem L2 LG
section
variable {P:Program}{w:World}{K:PySem.W.Frag}{mg:Str->Option Value}{base:Heap}{A:Ad}
theorem sc_joined:FnScope ["patterns","width"] ["patterns"] (defScope (top 20)):=fsc
set_option maxHeartbeats 8000000 in
theorem ok_joined (T:Tx K mg A):Okd T.joined P w base 5 (sp_joined K):=by
 refine T.joined.fn.ok sc_joined (λvs H Q E h=>?_) (λcdv Ar outer s H vs Q E hr h=>?_)
 ·obtain ⟨a,xs,pss,n,rfl,_⟩:=h;rfl
 ·obtain ⟨a,xs,pss,n,rfl,hq,hds,hne,hpl,hok,k⟩:=h;have hxl:xs.length=pss.length:=by rw [hds.length,List.length_map]
  have hpos:=List.length_pos_iff.mpr hne;obtain ⟨x0,hx0⟩:∃ x0,xs[0]? = some x0:=⟨_,List.getElem?_eq_getElem (by lia)⟩;obtain ⟨ps0,hps0,hd0⟩:=dens_pat hds hx0;obtain ⟨a0,ys0,rfl,hq0,hds0⟩:=den_pat hd0;have hn0:ys0.length=n:=by rw [hds0.length,List.length_map];exact (hok ps0 (List.mem_of_getElem? hps0)).2
  have hn1:n<=10000:=by rw [<-(hok ps0 (List.mem_of_getElem? hps0)).2];exact (hok ps0 (List.mem_of_getElem? hps0)).1.1
  refine ⟨_,pss_cons (ps_if (ptcmp (op_eq) (pe_callB (r:=rLenS K) call_lenS (by rfl) T.n_len PySem.boot_len (pa1 (pv 0))) pe_int) (pss_one (ps_never)) pss_nil)
   (pss_cons (ps_set (i:=1) sc_joined.nd rfl (Or.inr rfl) (pe_callB (r:=rLenS K) call_lenS (by rfl) T.n_len PySem.boot_len (pa1 (pixL K (pv 0) pe_int))))
   (pss_cons (ps_if (pt_val (pe_callB (r:=rAny K) (call_any rfl) (by rfl) T.n_any bt_any (pa1 (pcm ["pattern","width"] [1] (defScope (top 20)) ["patterns","width"] (pi_list (pv 0)) (λs H fp=>pcmp (op_ne) (pe_callB (r:=rLenS K) call_lenS (by rfl) T.n_len PySem.boot_len (pa1 (pv 0))) (pv 1)))))) (pss_one (ps_never)) pss_nil)
   (pss_one (ps_ret (pe_comp (N':=["at","patterns"]) (n:=1) (fi:=[0]) (g:=gName 0) rfl (cscope (defScope (top 20)) ["patterns","width"] (by decide +kernel)) (pi_range1 (by rfl) T.n_range (pa1 (pv 1))) (λs H fp=>pg_name (i:=0) (show (["at","patterns"]:List Str).Nodup by decide +kernel) rfl (Or.inr rfl) (.inl rfl)) (λs H fp=>pifs_nil) (λs H fp=>pcal T.joined_part (ok_joined_part T) hr (pa1 (pe_comp (wi:=iList K (tVar 1)) (N':=["pattern","at"]) (n:=1) (fi:=[0]) (g:=gName 0) rfl (cscopeN (defScope (top 20)) (by decide +kernel)) (pi_list (pv 1)) (λs H fp=>pg_name (i:=0) (show (["pattern","at"]:List Str).Nodup by decide +kernel) rfl (Or.inl rfl) (.inr rfl)) (λs H fp=>pifs_nil) (λs H fp=>pixL K (pv 0) (pv 1)))))))))),?_⟩
  refine ⟨_,rfl,a,xs,rfl,.inl hq,rfl,_,rfl,?_⟩;rw [(decide_eq_false (λq=>by lia))];refine iteF ?_;refine ⟨_,rfl,a,xs,0,_,rfl,rfl,hq,atI_nat (j:=0) hx0,a0,ys0,rfl,.inl hq0,?_⟩;rw [hn0];refine ⟨_,rfl,a,rfl,⟨_,hq⟩,λD hD=>?_⟩;refine comp_list (K:=K) (xs:=xs) (λi acc σ H2=>(∃ u,σ=[u,some (.int n)])/\Same H H2/\acc=((pss.take i).map λ_=>false).map V.bl) upd_same ⟨⟨_,rfl⟩,Same.new hD,rfl⟩ (λi acc σ H2 _ _ q=>q.2.1.seq hq) (λi x acc σ H2 hx hDx q=>?_) (λacc σ H2 hDx q=>?_)
  ·obtain ⟨q0,s2,rfl⟩:=q;apply ex_1 q0;clear q0;intro u;obtain ⟨ps,hpi,hdp⟩:=dens_pat hds hx;obtain ⟨ai,yi,rfl,hqi,hdi⟩:=den_pat hdp;have hyl:yi.length=n:=by rw [hdi.length,List.length_map];exact (hok ps (List.mem_of_getElem? hpi)).2
   refine compY ⟨_,rfl,ai,yi,rfl,.inl (s2.seq hqi),_,rfl,rfl,?_⟩;rw [hyl,decide_eq_true rfl];refine ⟨_,hDx,small (by grind),_,upd_same,⟨_,rfl⟩,snap_upd hD s2,?_⟩;rw [take_next hpi,List.map_append];rfl
  ·obtain ⟨_,s2,rfl⟩:=q;refine ⟨D,_,rfl,.of hDx,_,rfl,?_⟩;have e1:(((pss.take xs.length).map λ_=>false).any id)=false:=by
    simp_all
   rw [e1];refine iteF ?_;refine ⟨_,rfl,n,rfl,by lia,by lia,λD3 hD3=>?_⟩;have hs3:Same H2 (upd H2 D3 (.lst [])):=Same.new hD3;refine comp_range (λi acc σ H4=>(∃ u,σ=[u,some (.ref a)])/\Same H2 H4/\Dens K (lim (upd H2 D3 (.lst [])) H4) acc ((joinAll pss i).map Pt.dat)) upd_same ⟨⟨_,rfl⟩,hs3,.nil⟩ (λi acc σ H4 hi hD4 q=>?_) (λacc σ H4 hD4 q=>?_)
   ·obtain ⟨q0,s4,dn⟩:=q;apply ex_1 q0;clear q0;intro u;have hal:acc.length=i:=by rw [dn.length,List.length_map];simp [joinAll]
    have s24:=s2.trans s4;refine compY ?_;refine ⟨_,rfl,a,rfl,⟨_,s24.seq hq⟩,λD5 hD5=>?_⟩;refine comp_list (K:=K) (xs:=xs) (λm acc5 σ H5=>(∃ u,σ=[u,some (.int (0+(i:Int)))])/\Same H4 H5/\Dens K H acc5 (((pss.take m).map λps=>ps.getD i (.hole 2)).map Pt.dat)) upd_same ⟨⟨_,rfl⟩,Same.new hD5,.nil⟩ (λm acc5 σ H5 _ _ q=>(s24.trans q.2.1).seq hq) (λm x acc5 σ H5 hx hDx5 q=>?_) (λacc5 σ H5 hDx5 q=>?_)
    ·obtain ⟨q0,s5,dn5⟩:=q;apply ex_1 q0;clear q0;intro u;obtain ⟨ps,hpi,hdp⟩:=dens_pat hds hx;obtain ⟨ai,yi,rfl,hqi,hdi⟩:=den_pat hdp;have hm:=ge_len hpi;have hpn:=(hok ps (List.mem_of_getElem? hpi)).2;have hpe:ps[i]? = some (ps.getD i (.hole 2)):=by
      simp_all
     obtain ⟨y,hy,hyd⟩:=hdi.getD (i:=i) (d:=(ps.getD i (.hole 2)).dat) (by simp_all);have hal5:acc5.length=m:=by rw [dn5.length,List.length_map,List.length_map,List.length_take];lia
     refine compY ⟨_,rfl,_,rfl,ai,yi,_,y,rfl,rfl,(s24.trans s5).seq hqi,?_,acc5,hDx5,small (by lia),_,upd_same,⟨_,rfl⟩,snap_upd hD5 s5,?_⟩
     ·rw [Int.zero_add];exact atI_nat hy
     ·rw [take_next hpi,List.map_append];exact dn5.append (.cons hyd .nil)
    ·obtain ⟨_,s5,dn5⟩:=q;rw [List.take_of_length_le (by lia)] at dn5;refine ⟨D5,acc5,pss.map (λps=>ps.getD i (.hole 2)),rfl,.of hDx5,dn5.same (s24.trans s5),by simp_all,⟨by rwa [List.length_map],λp hp=>?_⟩,λr H6 s6 dr=>?_⟩
     ·obtain ⟨ps,hps,rfl⟩:=List.mem_map.mp hp;have hpn:=hok ps hps;have hlt:i<ps.length:=by lia
      have:ps.getD i (.hole 2)∈ps:=by simp_all
      exact hpn.1.2 _ this
     ·have s56:=s5.trans s6;have hD6:=s56 _ _ hD4;refine ⟨acc,hD6,small (by lia),_,upd_same,⟨_,rfl⟩,snap_upd hD3 (s4.trans s56),?_⟩;rw [lim_upd (ys:=[]) upd_same,joinAll_next,List.map_append];exact (dn.same (lim_mono s56)).append (.cons (pt_limL (ll_new (s4.trans s56) hD6) (Same.refl _) dr) .nil)
   ·obtain ⟨_,s4,dn⟩:=q;refine k D3 acc H4 (s2.free hD3) (s2.trans s4) hD4 ?_;rw [(Int.toNat_natCast n)] at dn;exact dn.same (lim_back (s2.trans hs3).ll)
end
end K32
namespace K32
open PySem L2 LG
section
variable {P:Program}{w:World}{K:PySem.W.Frag}{mg:Str->Option Value}{base:Heap}{A:Ad}
theorem sc_word_key:FnScope ["word"] ["word"] (defScope (top 11)):=fsc
set_option maxHeartbeats 8000000 in
theorem ok_word_key (T:Tx K mg A):Okd T.word_key P w base 1 (sp_word_key K):=by
 refine T.word_key.fn.ok sc_word_key (λvs H Q E h=>?_) (λcdv Ar outer s H vs Q E hr h=>?_)
 ·obtain ⟨x,rfl,_⟩:=h;rfl
 ·obtain ⟨x,rfl,hw,k⟩:=h;refine ⟨_,pss_one (ps_ret (pe_tup (pa_cons (pe_callB call_len_str (by rfl) T.n_len PySem.boot_len (pa1 (pv 0))) (pa1 (pv 0))))),?_⟩;exact ⟨_,rfl,x,rfl,hw.s,_,rfl,(by show 2<=sizeLine;decide),λp hp=>k p hp⟩
theorem sc_part_key:FnScope ["part","length","text"] ["part"] (defScope (top 21)):=fsc
set_option maxHeartbeats 8000000 in
theorem ok_part_key (T:Tx K mg A):Okd T.part_key P w base 2 (sp_part_key K):=by
 refine T.part_key.fn.ok sc_part_key (λvs H Q E h=>?_) (λcdv Ar outer s H vs Q E hr h=>?_)
 ·obtain ⟨v,pt,rfl,_⟩:=h;rfl
 ·obtain ⟨v,pt,rfl,hd,hok,k⟩:=h;obtain ⟨a,x,y,ev,hq,_,_,hx⟩:=den_pt hd;refine ⟨_,pss_cons (ps_if (pt_val (pcal T.is_hole (ok_is_hole T) hr (pa1 (pv 0)))) (pss_one (ps_ret (pe_tup (pa_cons pe_int (pa_cons (pe_bm (r:=rIndex K) PySem.F.plainAttrs_tuple PySem.F.slot_tuple_index PySem.F.type_tuple_index mt_index (pe_glob (v:=.ref A.a_HOLE_KINDS) (by rfl) T.g_HOLE_KINDS rfl) (pa1 (pixT K (pv 0) pe_int))) (pa1 pe_str)))))) pss_nil)
   (pss_cons (ps_asg (pcal T.word_key (ok_word_key T) hr (pa1 (pixT K (pv 0) pe_int))) (pg_tup rfl (pgs_cons (pn 1 sc_part_key.nd) (pgs_cons (pn 2 sc_part_key.nd) pgs_nil))))
   (pss_one (ps_ret (pe_tup (pa_cons pe_int (pa_cons (pv 1) (pa1 (pv 2)))))))),?_⟩
  refine ⟨_,rfl,v,pt,rfl,hd,_,rfl,?_⟩;cases pt with
  | hole m=>
   obtain ⟨rfl,rfl⟩:=hx;refine iteT ?_;subst ev;have hm:=hok;refine ⟨.inr (.inl ⟨rfl,T.y_HOLE_KINDS⟩),_,rfl,a,_,1,_,rfl,rfl,hq,rfl,A.a_HOLE_KINDS,_,_,m,rfl,rfl,T.t_HOLE_KINDS _,rfl,hk_flat,hm,hk_hit hm,hk_no hm,(by show 3<=sizeLine;decide),λp hp=>?_⟩;exact k _ _ (Same.new hp) (.tup (.of ((lim_new hp).trans upd_same)) (.cons (.int 1) (.cons (.int _) (.cons (.str (by decide +kernel)) .nil))))
  | word z=>
   obtain ⟨rfl,rfl⟩:=hx;refine iteF ?_;subst ev;have hw:=hok;refine ⟨_,rfl,a,_,1,_,rfl,rfl,hq,rfl,y,rfl,hw.1,λp hp=>?_⟩;refine ⟨p,_,rfl,.of upd_same,rfl,_,_,rfl,_,_,rfl,rfl,?_⟩;refine ⟨_,rfl,_,rfl,(by show 3<=sizeLine;decide),λp2 hp2=>?_⟩;exact k _ _ ((Same.new hp).trans (Same.new hp2)) (.tup (.of ((lim_new ((Same.new hp).free hp2)).trans upd_same)) (.cons (.int 0) (.cons (.int _) (.cons (.str hw.2) .nil))))
theorem sc_pattern_key:FnScope ["pattern"] ["pattern"] (defScope (top 22)):=fsc
set_option maxHeartbeats 8000000 in
theorem ok_pattern_key (T:Tx K mg A):Okd T.pattern_key P w base 3 (sp_pattern_key K):=by
 refine T.pattern_key.fn.ok sc_pattern_key (λvs H Q E h=>?_) (λcdv Ar outer s H vs Q E hr h=>?_)
 ·obtain ⟨v,ps,rfl,_⟩:=h;rfl
 ·obtain ⟨v,ps,rfl,hd,hok,k⟩:=h;obtain ⟨a,xs,ev,hq,hds⟩:=den_pat hd;refine ⟨_,pss_one (ps_ret (pe_tup (pa_cons (pe_callB (r:=rLenS K) call_lenS (by rfl) T.n_len PySem.boot_len (pa1 (pv 0))) (pa1 (pcm ["part"] [] (defScope (top 22)) ["pattern"] (pi_list (pv 0)) (λs H fp=>pcal T.part_key (ok_part_key T) hr (pa1 (pv 0)))))))),?_⟩;subst ev;have hlen:xs.length=ps.length:=by rw [hds.length,List.length_map]
  have hpl:=hok.1;refine ⟨_,rfl,a,xs,rfl,.inl hq,?_⟩;refine ⟨_,rfl,a,rfl,⟨_,hq⟩,λD hD=>?_⟩;refine comp_list (K:=K) (xs:=xs) (λi acc σ H2=>(∃ u,σ=[u])/\Same H H2/\Dens K (lim (upd H D (.lst [])) H2) acc ((ps.take i).map Pt.key)) upd_same ⟨⟨_,rfl⟩,Same.new hD,.nil⟩ (λi acc σ H2 _ _ p=>p.2.1.seq hq) (λi x acc σ H2 hx hDx p=>?_) (λacc σ H2 hDx p=>?_)
  ·obtain ⟨⟨u,rfl⟩,p⟩:=p;obtain ⟨pt,e,hden⟩:=dens_pt hds hx;have hi:=ge_len e;have hal:acc.length=i:=by rw [p.2.length,List.length_map,List.length_take];lia
   refine compY ⟨_,rfl,x,pt,rfl,hden.same p.1,hok.2 pt (List.mem_of_getElem? e),λr H4 s4 dr=>⟨acc,s4 _ _ hDx,small (by lia),_,upd_same,⟨_,rfl⟩,snap_upd hD (p.1.trans s4),?_⟩⟩;rw [lim_upd (ys:=[]) upd_same,take_next e];exact (p.2.same (lim_mono s4)).append (.cons (dr.same (lim_back (ll_new p.1 hDx))) .nil)
  ·obtain ⟨_,p⟩:=p;refine ⟨(by show 2<=sizeLine;decide),λt ht=>?_⟩;rw [List.take_of_length_le (by lia)] at p;refine k _ _ (p.1.trans (Same.new ht)) ?_;have e:keyD ps = .tuple [.int xs.length,.list (ps.map Pt.key)]:=by rw [hlen];rfl
   rw [e];refine .tup (.of ((lim_new (p.1.free ht)).trans upd_same)) (.cons (.int _) (.cons (.lst (.of ((lim_new hD).trans (by rwa [upd_ne (ne_of_none hDx ht)]))) ?_) .nil));exact (p.2.same (lim_mono (Same.new ht))).same (lim_back (Same.new hD).ll)
theorem sc_ordered:FnScope ["patterns"] ["patterns"] (defScope (top 23)):=fsc
set_option maxHeartbeats 8000000 in
theorem ok_ordered (T:Tx K mg A):Okd T.ordered P w base 6 (sp_ordered K):=by
 refine T.ordered.fn.ok sc_ordered (λvs H Q E h=>?_) (λcdv Ar outer s H vs Q E hr h=>?_)
 ·obtain ⟨a,xs,pss,rfl,_⟩:=h;rfl
 ·obtain ⟨a,xs,pss,rfl,hq,hlen,hds,hok,k⟩:=h;refine ⟨_,pss_one (ps_ret (pcm ["pattern"] [] (defScope (top 23)) ["patterns"] (pi_list (pe_sortK (a:=.int) (r:=keySh) .int ((ok_pattern_key T).mono (by decide)) hr T.pattern_key.bd (by rfl) T.n_sorted (by rfl) T.pattern_key.mg (pa1 (pv 0)))) (λs H fp=>pe_callTy (r:=rListOf K) call_listO (by rfl) T.n_list bt_list (pa1 (pv 0))))),?_⟩;have hxl:xs.length=pss.length:=by rw [hds.length,List.length_map]
  refine ⟨_,rfl,_,rfl,a,xs,rfl,hq,hlen,?_⟩;refine tkeys_all (K:=K) (H0:=H) xs (pss.map keyD) [] [] H (by rwa [List.length_map]) (Same.refl H) .nil (λi x d H2 Q2 hx hd s2 kk=>?_) (λks H1 s1 d1=>?_)
  ·obtain ⟨ps,e,hden⟩:=dens_pat hds hx;rw [List.getElem?_map,e] at hd;cases hd;exact ⟨x,ps,rfl,hden.same s2,hok ps (List.mem_of_getElem? e),λr H' sr dr=>kk r H' sr (dr.same lim_same)⟩
  ·have d1':Dens K H1 ks (pss.map keyD):=by simpa using d1
   refine ⟨pss.map keyD,d1',λd hd=>?_,λd hd=>?_,λD0 p hD0 hp ho=>?_⟩
   ·obtain ⟨ps,_,rfl⟩:=List.mem_map.mp hd;exact sh_key ps
   ·obtain ⟨ps,_,rfl⟩:=List.mem_map.mp hd;exact dep_keyD ps
   ·refine ⟨D0,rfl,⟨_,.of upd_same⟩,λD hD=>?_⟩;have hpl:p.length=xs.length:=by rw [hp.length_eq,List.length_range]
    have hp2:p.Perm (List.range pss.length):=by rwa [<-hxl]
    have hsl:(sel pss p).length=xs.length:=by unfold sel;rw [List.length_map,hpl]
    have sb:Same H (upd H1 D0 (.lst (picked xs p))):=s1.trans (Same.new hD0);generalize hHb:upd H1 D0 (HO.lst (picked xs p))=Hb at sb hD;have hsD:Same Hb (upd Hb D (.lst [])):=Same.new hD;refine comp_list (K:=K) (xs:=picked xs p) (λi acc σ H2=>(∃ u,σ=[u])/\Same Hb H2/\Fresh (upd Hb D (.lst [])) H2 acc/\Dens K (lim (upd Hb D (.lst [])) H2) acc (((sel pss p).take i).map patD)) upd_same ⟨⟨_,rfl⟩,hsD,(λx hx=>by cases hx),.nil⟩ (λi acc σ H2 _ _ q=>.of (q.2.1 _ _ (by rw [<-hHb];exact upd_same))) (λi x acc σ H2 hx hDx q=>?_) (λacc σ H2 hDx q=>?_)
    ·obtain ⟨q0,s2,fr,dn⟩:=q;apply ex_1 q0;clear q0;intro u;obtain ⟨ps,hps,hmem,hden⟩:=pick_at hds hp2 hx;obtain ⟨a',ys',rfl,hq',hd'⟩:=den_pat hden;have hal:acc.length=i:=by rw [dn.length,List.length_map,List.length_take];have:=ge_len hps;lia
     have hil:i<xs.length:=by rw [<-hsl];exact ge_len hps
     refine compY ⟨_,rfl,a',ys',rfl,.inl ((sb.trans s2).seq hq'),λl hl=>?_⟩;have hlD:l≠D:=(ne_of_none hDx hl).symm;have hlb:(upd Hb D (.lst [])) l=none:=by rw [upd_ne hlD];exact s2.free hl
     have sl:Same H2 (upd H2 l (.lst ys')):=Same.new hl;refine ⟨acc,sl _ _ hDx,small (by lia),_,upd_same,⟨_,rfl⟩,snap_upd hD (s2.trans sl),?_,?_⟩
     ·intro x hx;rcases List.mem_append.mp hx with hx | hx
      ·obtain ⟨t,ys,rfl,h1,h2,h3⟩:=fr x hx;have htD:t≠D:=λe=>by subst e;rw [upd_same] at h1;cases h1
       exact ⟨t,ys,rfl,h1,by rw [upd_ne htD];exact sl _ _ h2,h3⟩
      ·simp only [List.mem_singleton] at hx;subst hx;exact ⟨l,ys',rfl,hlb,by rw [upd_ne hlD];exact upd_same,by rw [hd'.length,List.length_map];exact (hok ps hmem).1⟩
     ·rw [lim_upd (ys:=[]) upd_same,take_next hps];exact (dn.same (lim_mono sl)).append (.cons (.lst (.of ((lim_new hlb).trans upd_same)) (pts_lim (sb.trans hsD) ((sb.trans s2).trans sl) hd')) .nil)
    ·obtain ⟨_,s2,fr,dn⟩:=q;have hpk:(picked xs p).length=xs.length:=by rw [picked_len,hpl]
     rw [List.take_of_length_le (by lia)] at dn;refine k D acc H2 (sel pss p) (sb.free hD) (sb.trans s2) hDx (sel_perm hp2) (inord_keys hp2 ho) (λx hx=>?_) (λx hx=>?_) (dn.same (lim_back (sb.trans hsD).ll))
     ·obtain ⟨t,ys,rfl,h1,h2,h3⟩:=fr x hx;exact ⟨t,ys,rfl,(sb.trans hsD).free h1,h2,h3⟩
     ·obtain ⟨t,ys,rfl,h1,h2,h3⟩:=fr x hx
      grind [upd_same]
end
end K32
namespace K32
open PySem L2 LG
section
variable {P:Program}{w:World}{K:PySem.W.Frag}{mg:Str->Option Value}{base:Heap}{A:Ad}
def sp_pattern_of_group (K:PySem.W.Frag):Sp:=λvs H Q _=>∃ (u:V) (n:Nat) (wss:List (List Str)),vs=[u]/\Den K H u (gD wss)/\GOk n wss /\
 ∀ D acc H',H D=none->Same H H'->H' D=some (.lst acc)->Dens K (lim H H') acc ((joinAll (wss.map wPat) n).map Pt.dat)->Q (.ref D) H'
theorem tO_wo {H:Hp}{M:Addr}{xs:List V} (h:H M=some (.lst xs)):Same (tO H) (wo M H):=λb o e=>by
 obtain ⟨n,e⟩:=tO_some e;have:b≠M:=λz=>by rw [z,h] at e;cases e;exact n _ rfl
 rwa [wo_at this]
theorem sc_pattern_of_group:FnScope ["group"] ["group"] (defScope (top 32)):=fsc
set_option maxHeartbeats 8000000 in
theorem ok_pattern_of_group (T:Tx K mg A):Okd T.pattern_of_group P w base 6 (sp_pattern_of_group K):=by
 refine T.pattern_of_group.fn.ok sc_pattern_of_group (λvs H Q E h=>?_) (λcdv Ar outer s H vs Q E hr h=>?_)
 ·obtain ⟨u,n,wss,rfl,_⟩:=h;rfl
 ·obtain ⟨u,n,wss,rfl,hd,ok,k⟩:=h;obtain ⟨a,xs,rfl,hq,hds⟩:=den_g hd;have hxl:xs.length=wss.length:=by rw [hds.length,List.length_map]
  have hle:=ok.le;have h12:=ok.le12;refine ⟨_,pss_one (ps_ret (pcal T.joined (ok_joined T) hr (pa1 (pcm ["words"] [] (defScope (top 32)) ["group"] (pi_list (pv 0)) (λs H fp=>pe_comp (wi:=iList K (tVar 0)) (N':=["word"]) (n:=1) (fi:=[]) (g:=gName 0) rfl (cscopeN (defScope (top 32)) (by decide +kernel)) (pi_list (pv 0)) (λs H fp=>pg_name (i:=0) (show (["word"]:List Str).Nodup by decide +kernel) rfl (Or.inl rfl) (.inr rfl)) (λs H fp=>pifs_nil) (λs H fp=>pe_tup (pa_cons pe_str (pa1 (pv 0))))))))),?_⟩;refine ⟨_,rfl,a,rfl,⟨_,hq⟩,λM hM=>?_⟩;refine comp_list (K:=K) (xs:=xs) (λi acc σ H2=>(∃ u,σ=[u])/\Same H H2/\Dens K (wo M H2) acc (((wss.take i).map wPat).map patD)) upd_same ⟨⟨_,rfl⟩,Same.new hM,.nil⟩ (λi acc σ H2 _ _ q=>q.2.1.seq hq) (λi x acc σ H2 hx hMx q=>?_) (λacc σ H2 hM2 q=>?_)
  ·obtain ⟨q0,s2,dn2⟩:=q;apply ex_1 q0;clear q0;intro u;obtain ⟨ws,r,hw,rfl,hqr⟩:=dens_ws hds hx;have hrow:=ok.row ws (List.mem_of_getElem? hw);have hal:acc.length<=64:=by rw [dn2.length,List.length_map,List.length_map,List.length_take];lia
   refine compY ⟨_,rfl,r,rfl,⟨_,s2.seq hqr⟩,λI hI=>?_⟩;refine comp_list (K:=K) (xs:=ws.map V.str) (λj acc2 σ2 H3=>(∃ u,σ2=[u])/\Same H2 H3/\Dens K (tO H3) acc2 (((ws.take j).map Pt.word).map Pt.dat)) upd_same ⟨⟨_,rfl⟩,Same.new hI,.nil⟩ (λj acc2 σ2 H3 _ _ q=>(s2.trans q.2.1).seq hqr) (λj y acc2 σ2 H3 hy hIx q=>?_) (λacc2 σ2 H3 hI3 q=>?_)
   ·obtain ⟨q0,s3,dn3⟩:=q;apply ex_1 q0;clear q0;intro u;obtain ⟨w',hw',rfl⟩:=strs_at hy;have hal3:acc2.length+1<=20:=by rw [dn3.length,List.length_map,List.length_map,List.length_take];lia
    refine compY ⟨_,rfl,(by show 2<=sizeLine;decide),λt ht=>?_⟩;have st:Same H3 (upd H3 t (.tup [.str "word",.str w'])):=Same.new ht;have pt:PtAt (upd H3 t (.tup [.str "word",.str w'])) (.ref t) (.word w'):=⟨t,rfl,upd_same⟩;have hI4:=st _ _ hIx;refine ⟨_,hI4,small (by lia),_,upd_same,⟨_,rfl⟩,snap_upd hI (s3.trans st),?_⟩;have et:(ws.take (j+1)).map Pt.word=(ws.take j).map Pt.word++[.word w']:=by rw [List.take_add_one,hw'];simp
    rw [et,List.map_append];have tt:=tO_upd (ys:=acc2++[.ref t]) hI4;exact (dn3.same ((tO_up st).trans tt)).append (.cons ((pt.den (hrow.2 w' (List.mem_of_getElem? hw'))).same tt) .nil)
   ·obtain ⟨_,s3,dn3⟩:=q;rw [List.length_map,List.take_of_length_le (Nat.le_refl _)] at dn3;have hM3:=s3 _ _ hMx;refine ⟨_,hM3,small (by lia),_,upd_same,⟨_,rfl⟩,snap_upd hM (s2.trans s3),?_⟩;rw [wo_upd,List.take_add_one,hw];simp only [Option.toList,List.map_append,List.map_cons,List.map_nil];refine (dn2.same (wo_mono s3)).append (.cons (.lst (xs:=acc2) (.of (by rwa [wo_at ((ne_of_none hMx hI).symm)])) (dn3.same (tO_wo hM3))) .nil)
  ·obtain ⟨_,s2,dn2⟩:=q;rw [hxl,List.take_of_length_le (Nat.le_refl _)] at dn2;refine ⟨M,acc,wss.map wPat,n,rfl,.of hM2,dn2.same wo_same,λe=>ok.ne (List.map_eq_nil_iff.mp e),by grind,λps hps=>?_,λD acc3 H3 hD s3 hDD dn3=>?_⟩
   ·obtain ⟨ws,hws,rfl⟩:=List.mem_map.mp hps;have hrow:=ok.row ws hws;refine ⟨⟨by unfold wPat;rw [List.length_map];lia,λp hp=>?_⟩,by grind [wPat,List.length_map]⟩;obtain ⟨w',hw',rfl⟩:=List.mem_map.mp hp;exact (hrow.2 w' hw').ok
   ·exact k D acc3 H3 (s2.free hD) (s2.trans s3) hDD (dn3.same (lim_back s2.ll))
end
end K32
namespace K32
open PySem L2 LG
section
variable {P:Program}{w:World}{K:PySem.W.Frag}{mg:Str->Option Value}{base:Heap}{A:Ad}
def sp_gathered4 (K:PySem.W.Frag) (P:Addr):Sp:=λvs H Q _=>∃ (a t:Addr) (zs:List Str) (s l:Int),vs=[.ref a,.ref t]/\Rd H a (.lst (zs.map V.str))/\zs.length<64/\(∀ z∈zs,∃ ws,LnOk 12 z ws)/\SqT K H t [.int s,.int l]/\LamOk P H /\
 ∀ (D:Addr) (ms:List Str) (acc:List V) (H':Hp) (ps:List (List Pt)),ms.Perm (dedS [] zs)->UpS ms->H D=none->Same (wo P H) H'->LamOk P H'->H' D=some (.lst acc)->ps.Perm (gth s l (ms.map λz=>Txt.split z " "))->KOrd ps->PsOk ps->ps.length<64->Fresh H H' acc->(∀ x∈acc,x ≠ .ref D)->Dens K (lim H H') acc (ps.map patD)->Q (.ref D) H'
theorem split_next {ms:List Str}{z:Str}{i:Nat} (h:ms[i]? = some z):(ms.take (i+1)).map (λz=>Txt.split z " ")=(ms.take i).map (λz=>Txt.split z " ")++[Txt.split z " "]:=by
 rw [List.take_add_one,h];simp
theorem sc_gathered:FnScope ["lines","sieve","rows","patterns","group"] ["lines","sieve"] (defScope (top 33)):=fsc
set_option maxHeartbeats 8000000 in
theorem ok_gathered (T:Tx K mg A):OkdD T.gathered P w base 20 (sp_gathered4 K A.p_lam):=by
 refine T.gathered.fn.ok sc_gathered (λvs H Q E h=>?_) (λcdv Ar outer s H vs Q E hr h=>?_)
 ·obtain ⟨a,t,zs,s,l,rfl,_⟩:=h;rfl
 ·obtain ⟨a,t,zs,s',l,rfl,hqa,h64,hzs,hqt,hla,k⟩:=h;refine ⟨_,pss_cons (ps_comp (i:=2) (N':=["line"]) (n:=1) (fi:=[]) (g:=gName 0) sc_gathered.nd rfl (Or.inl rfl) rfl (cscope (defScope (top 33)) ["lines","sieve","rows","patterns","group"] (by decide +kernel)) (pi_list (pe_fset (call_sortedS rfl hr) rfl (by rfl) T.n_sorted bt_sorted (by rfl) T.n_set bt_set (pa1 (pv 0)))) (λs H fp=>pg_name (i:=0) (show (["line"]:List Str).Nodup by decide +kernel) rfl (Or.inl rfl) (.inr rfl)) (λs H fp=>pifs_nil) (λs H fp=>pcal T.words_of (ok_words_of T) hr (pa1 (pv 0))))
   (pss_cons (ps_set (i:=3) sc_gathered.nd rfl (Or.inl rfl) (pe_lst pa_nil))
   (pss_cons (ps_for PassesOwn.never rfl (pi_list (pcal T.grouped (ok_grouped T) hr (pa_cons (pv 2) (pa1 (pcm ["words"] [] (defScope (top 33)) ["lines","sieve","rows","patterns","group"] (pi_list (pv 2)) (λs H fp=>pe_callB (r:=rLenS K) call_lenS (by rfl) T.n_len PySem.boot_len (pa1 (pv 0)))))))) (pn 4 sc_gathered.nd) (pss_one (ps_expr (pe_bm PySem.F.plainAttrs_list PySem.F.slot_list_extend PySem.F.type_list_extend mt_extend (pv 3) (pa1 (pcm ["smaller"] [] (defScope (top 33)) ["lines","sieve","rows","patterns","group"] (pi_list (pcal T.parted (ok_parted T) hr (pa_cons (pv 4) (pa1 (pv 1))))) (λs H fp=>pcal T.pattern_of_group (ok_pattern_of_group T) hr (pa1 (pv 0)))))))))
   (pss_one (ps_ret (pcal T.ordered (ok_ordered T) hr (pa1 (pv 3))))))),?_⟩
  have hdl:=ded_len0 zs;refine ⟨_,rfl,a,zs,rfl,hqa,by lia,by lia,λS ms hS hperm hup=>⟨S,rfl,⟨_,.of upd_same⟩,λR hR=>?_⟩⟩;have hml:=hperm.length_eq;have hmz:∀ z∈ms,∃ ws,LnOk 12 z ws:=λz hz=>hzs z ((mem_ded.mp (hperm.mem_iff.mp hz)).resolve_left (by simp));obtain ⟨tb,htb⟩:=lam_tbl hla;have sS:Same H (upd H S (.lst (ms.map V.str))):=Same.new hS;have hSS:(upd H S (.lst (ms.map V.str))) S=some (.lst (ms.map V.str)):=upd_same;generalize upd H S (.lst (ms.map V.str))=H1 at sS hSS hR ⊢;refine comp_list (K:=K) (xs:=ms.map V.str) (λi acc σ H2=>(∃ u,σ=[u])/\Same H1 H2/\Dens K (wo R H2) acc (((ms.take i).map λz=>Txt.split z " ").map wsD)) upd_same ⟨⟨_,rfl⟩,Same.new hR,.nil⟩ (λi acc σ H2 _ _ q=>.of (q.2.1 _ _ hSS)) (λi x acc σ H2 hx hRx q=>?_) (λacc σ H2 hR2 q=>?_)
  ·obtain ⟨q0,s2,dn2⟩:=q;apply ex_1 q0;clear q0;intro u;obtain ⟨z,hz,rfl⟩:=strs_at hx;obtain ⟨ws,hln⟩:=hmz z (List.mem_of_getElem? hz);have hal:acc.length<=64:=by rw [dn2.length,List.length_map,List.length_map,List.length_take];lia
   refine compY ⟨_,rfl,z,rfl,Nat.le_trans (hln.ok (by decide)).2 (by decide),λL hL=>?_⟩;have sL:Same H2 (upd H2 L (.lst ((Txt.split z " ").map V.str))):=Same.new hL;refine ⟨_,sL _ _ hRx,small (by lia),_,upd_same,⟨_,rfl⟩,snap_upd hR (s2.trans sL),?_⟩;rw [wo_upd,split_next hz,List.map_append];refine (dn2.same (wo_mono sL)).append (.cons (.lst (xs:=(Txt.split z " ").map V.str) (.of (by rw [wo_at ((ne_of_none hRx hL).symm)];exact upd_same)) ?_) .nil);rw [hln.split];exact dens_strs λw hw=>(hln.wd w hw).ok
  ·obtain ⟨_,s2,dn2⟩:=q;rw [List.length_map,List.take_of_length_le (Nat.le_refl _)] at dn2;have dnR:=dn2.same wo_same;have rok:RowsOk (ms.map λz=>Txt.split z " "):=⟨by rw [List.length_map];lia,λws hws=>by
    obtain ⟨z,hz,rfl⟩:=List.mem_map.mp hws;obtain ⟨ws,hln⟩:=hmz z hz;rw [hln.split];exact ⟨hln.pos,hln.le,λw hw=>⟨(hln.wd w hw).word,Nat.le_trans (hln.wd w hw).len (by decide),(hln.wd w hw).ok⟩⟩⟩
   have hrl:(ms.map λz=>Txt.split z " ").length=ms.length:=List.length_map _;generalize hrs:(ms.map λz=>Txt.split z " ")=rss at dnR rok hrl;have hacl:acc.length=rss.length:=by rw [dnR.length,List.length_map]
   have s02:=sS.trans s2;refine ⟨Nat.zero_le _,λG hG=>?_⟩;have sG:Same H2 (upd H2 G (.lst [])):=Same.new hG;have hGG:(upd H2 G (.lst [])) G=some (.lst []):=upd_same;have s03:=s02.trans sG;have hR3:=sG _ _ hR2;generalize upd H2 G (.lst [])=H3 at sG hGG s03 hR3 ⊢;refine ⟨_,rfl,_,rfl,R,rfl,⟨_,.of hR3⟩,λKL hKL=>?_⟩;refine comp_list (K:=K) (xs:=acc) (λi acc2 σ H4=>(∃ u,σ=[u])/\Same H3 H4/\acc2=((rss.take i).map λws=>(Sum.inl (ws.length:Int):Key)).map kV) upd_same ⟨⟨_,rfl⟩,Same.new hKL,rfl⟩ (λi acc2 σ H4 _ _ q=>.of (q.2.1 _ _ hR3)) (λi x acc2 σ H4 hx hKx q=>?_) (λacc2 σ H4 hK4 q=>?_)
   ·obtain ⟨q0,s4,rfl⟩:=q;apply ex_1 q0;clear q0;intro u;obtain ⟨ws,r,hw,rfl,hqr⟩:=dens_ws dnR hx;refine compY ⟨_,rfl,r,_,rfl,.inl ((sG.trans s4).seq hqr),_,hKx,small (by grind),_,upd_same,⟨_,rfl⟩,snap_upd hKL s4,?_⟩;rw [List.take_add_one,hw];simp [kV]
   ·obtain ⟨_,s4,rfl⟩:=q;rw [hacl,List.take_of_length_le (Nat.le_refl _)] at hK4;refine ⟨R,KL,acc,_,rfl,.of (s4 _ _ hR3),.of hK4,by rw [List.length_map];lia,by lia,λD as H5 hD s5 hDD has hall=>⟨D,rfl,⟨_,.of hDD⟩,?_⟩⟩;have s25:=sG.trans (s4.trans s5);have s05:=s02.trans s25;have hG5:=(s4.trans s5) _ _ hGG;have htb5:=s05 _ _ htb;have hGP:G≠A.p_lam:=λe=>by lia
    have hGH:=s02.free hG;have hDG:D≠G:=λe=>by rw [e,s4 _ _ hGG] at hD;cases hD
    have hDP:D≠A.p_lam:=λe=>by lia
    have hrel:=grp_rel (dens_all2 (dnR.same (same_wo hG s25))) (rss.map λws=>(Sum.inl (ws.length:Int):Key));have htG:(wo G H5) A.p_lam=some (.tbl tb):=by rwa [wo_at hGP.symm]
    refine for_list (K:=K) (xs:=as.map V.ref) (λi σ H6=>(∃ v,σ=[some (.ref a),some (.ref t),some (.ref R),some (.ref G),v])/\Same (wo A.p_lam (wo G H5)) H6/\LamOk A.p_lam H6/\∃ pacc:List V,H6 G=some (.lst pacc)/\Dens K (wo G H6) pacc ((((byL rss).take i).flatMap (gth1 s' l)).map patD))
     ⟨⟨_,rfl⟩,wo_same.trans wo_same,(lam_same hla s05),[],hG5,.nil⟩ (λi σ H6 _ q=>.of (q.2.1 _ _ (by rwa [wo_at hDP,wo_at hDG]))) (λi x σ H6 hx q=>?_) (λσ H6 q=>?_)
    ·obtain ⟨q0,s6,la6,pacc,hG6,dnp⟩:=q;apply ex_1 q0;clear q0;intro v;rw [List.getElem?_map] at hx;obtain ⟨c,hci,rfl⟩:∃ c,as[i]? = some c/\x = .ref c:=by
      grind
     obtain ⟨g,hgi,hcg⟩:=hall.at hci;obtain ⟨wg,hwi,hgw⟩:=hrel.at hgi;have hwm:=List.mem_of_getElem? hwi;have hwne:=(byL_ok hwm).1;have hgne:g≠[]:=λe=>by
      have:=hgw.len
      grind
     have hcG:c≠G:=λz=>by lia
     have gok:=gn_ok rok hwm;refine ⟨_,rfl,.inl ⟨rfl,_,.of hG6⟩,_,rfl,_,rfl,wo A.p_lam (wo G H5),.ref c,gn wg,wg,t,s',l,rfl,s6,wo_self,(den_tbl htG (.lst (.of (by rwa [wo_at hcG])) (all2_dens hgw))),gok,(s6.seqT (sqt_tbl htG ((same_wo hGH s05).seqT hqt))),la6,by have:=mu_le (gn wg) wg;have:=gok.le12;lia,λD2 ys C H7 hD2 s7 la7 hDD2 sBC sC7 cb cP dn7=>⟨D2,rfl,⟨_,.of hDD2⟩,λM hM=>?_⟩⟩;obtain ⟨tb6,htb6⟩:=lam_tbl la6;obtain ⟨tb7,htb7⟩:=lam_tbl la7;have hG7:=wo_keep s7 htb6 hG6 λqs e=>by cases e
     have hyl:ys.length=(prt (gn wg) s' l 13 wg).length:=by rw [dn7.length,List.length_map]
     have hpl:=prt_len (n:=gn wg) (s:=s') (l:=l) (N:=13) hwne;have hgl:=gok.le;refine comp_list (K:=K) (xs:=ys) (λj acc2 σ H8=>(∃ u,σ=[u])/\Same H7 H8/\Dens K (lim (upd H7 M (.lst [])) H8) acc2 ((((prt (gn wg) s' l 13 wg).take j).map λg'=>joinAll (g'.map wPat) (gn wg)).map patD)) upd_same ⟨⟨_,rfl⟩,Same.new hM,.nil⟩ (λj acc2 σ H8 _ _ q=>.of (q.2.1 _ _ hDD2)) (λj y acc2 σ H8 hy hMx q=>?_) (λacc2 σ H8 hM8 q=>?_)
     ·obtain ⟨q0,s8,dn8⟩:=q;apply ex_1 q0;clear q0;intro u;obtain ⟨d,hdj,hdy⟩:=dn7.get hy;rw [List.getElem?_map] at hdj;obtain ⟨g',hg',rfl⟩:∃ g',(prt (gn wg) s' l 13 wg)[j]? = some g'/\d=gD g':=by
       grind
      have hal:acc2.length<=64:=by rw [dn8.length,List.length_map,List.length_map,List.length_take];lia
      refine compY ⟨_,rfl,y,gn wg,g',rfl,hdy.same (sC7.trans s8),prt_ok gok g' (List.mem_of_getElem? hg'),λDp accp H9 hDp s9 hDpp dnq=>?_⟩;refine ⟨_,(s9 _ _ hMx),small (by lia),_,upd_same,⟨_,rfl⟩,snap_upd hM (s8.trans s9),?_⟩;rw [lim_upd upd_same,List.take_add_one,hg'];simp only [Option.toList,List.map_append,List.map_cons,List.map_nil];have hll:LL (upd H7 M (.lst [])) H8:=λb zs e=>by
       by_cases hb:b=M
       ·exact ⟨acc2,by rwa [hb]⟩
       ·rw [upd_ne hb] at e;exact ⟨zs,s8 _ _ e⟩
      exact (dn8.same (lim_mono s9)).append (.cons (.lst (xs:=accp) (.of ((lim_new (by rw [upd_ne ((ne_of_none hMx hDp).symm)];exact s8.free hDp)).trans hDpp)) (dnq.same (lim_back hll))) .nil)
     ·obtain ⟨_,s8,dn8⟩:=q;rw [hyl,List.take_of_length_le (Nat.le_refl _)] at dn8;have hG8:=s8 _ _ hG7;have hpl2:pacc.length<=rss.length:=by rw [dnp.length,List.length_map];exact gth_take s' l rss i
      have hal:acc2.length<=64:=by rw [dn8.length,List.length_map,List.length_map];lia
      refine ⟨G,M,pacc,acc2,rfl,rfl,hG8,hM8,Nat.le_trans (show _<=1000 by lia) (by decide),?_⟩;refine ⟨⟨_,rfl⟩,snap_upd (by rw [wo_at hGP,wo_self]) ((wo_trans s6 s7).trans s8),lam_upd (lam_same la7 s8) hG8,pacc++acc2,upd_same,?_⟩;rw [wo_upd,List.take_add_one,show (byL rss)[i]? = some wg from hwi];simp only [Option.toList,List.flatMap_append,List.map_append,List.flatMap_cons,List.flatMap_nil,List.append_nil];have sa:Same (wo A.p_lam (wo G H6)) (wo G H8):=λb o e=>by
       obtain ⟨h1,e⟩:=wo_get e;obtain ⟨h2,e⟩:=wo_get e;rw [wo_at h2];exact s8 _ _ (s7 _ _ (by rwa [wo_at h1]))
      exact ((dens_tbl (by rwa [wo_at hGP.symm]) dnp).same sa).append (dn8.same (lim_wo (by rwa [upd_ne ((ne_of_none hG7 hM).symm).symm])))
    ·obtain ⟨q0,s6,la6,pacc,hG6,dnp⟩:=q;apply ex_1 q0;clear q0;intro v;have hbl:as.length=(byL rss).length:=by rw [hall.len,hrel.len];rfl
     rw [List.length_map,hbl,List.take_of_length_le (Nat.le_refl _)] at dnp;have hgl:(gth s' l rss).length<=rss.length:=by
      have:=gth_take s' l rss (byL rss).length
      rwa [List.take_of_length_le (Nat.le_refl _)] at this
     have hpl:pacc.length=(gth s' l rss).length:=by rw [dnp.length,List.length_map];rfl
     have gok:PsOk (gth s' l rss):=gth_ok rok;have s06:Same (wo A.p_lam H) H6:=λb o e=>by
      obtain ⟨h1,e⟩:=wo_get e;have h2:b≠G:=λz=>by lia
      exact s6 b o (by rw [wo_at h1,wo_at h2];exact s05 b o e)
     refine ⟨_,rfl,G,pacc,gth s' l rss,rfl,.of hG6,by lia,dnp.same wo_same,λps hps=>⟨Nat.le_trans (gok ps hps).2.2 (by decide),λp hp=>((gok ps hps).1 p hp).ok⟩,λD9 acc9 H9 ps hD9 s9 hDD9 hperm9 hord fr hne dn9=>?_⟩;obtain ⟨tb6,htb6⟩:=lam_tbl la6;have old:∀ {b:Addr}{zs:List V},H6 b=none->H9 b=some (.lst zs)->H b=none:=λ{b zs} e1 e2=>by
      have h1:b≠A.p_lam:=λz=>by lia
      have:=s06.free e1
      rwa [wo_at h1] at this
     refine k D9 ms acc9 H9 ps hperm hup (old hD9 hDD9) (s06.trans s9) (lam_same la6 s9) hDD9 (by rwa [hrs]) hord (λq hq=>gok q (hperm9.mem_iff.mp hq)) (by rw [hperm9.length_eq];lia) (λx hx=>?_) hne (dn9.same (lim_back λb zs e=>?_))
     ·obtain ⟨t',ys,e1,e2,e3,e4⟩:=fr x hx;exact ⟨t',ys,e1,old e2 e3,e3,e4⟩
     ·have h1:b≠A.p_lam:=λz=>by rw [z,htb] at e;cases e
      exact ⟨zs,s06 _ _ (by rwa [wo_at h1])⟩
end
end K32
namespace K32
open PySem L2 LG
section
variable {P:Program}{w:World}{K:PySem.W.Frag}{mg:Str->Option Value}{base:Heap}{A:Ad}
def sp_is_news (K:PySem.W.Frag) (P:Addr):Sp:=λvs H Q _=>∃ (z:Str) (a t:Addr) (zs:List Str) (s l:Int),vs=[.str z,.ref a,.ref t]/\Rd H a (.lst (zs.map V.str))/\zs.length<64/\(∀ z∈zs,∃ ws,LnOk 12 z ws)/\LOk z/\PyData.strOk z=true/\SqT K H t [.int s,.int l]/\LamOk P H /\
 ∀ H',Same (wo P H) H'->LamOk P H'->Q (.bl (newsB s l zs z)) H'
theorem sc_is_news:FnScope ["line","lines","sieve"] ["line","lines","sieve"] (defScope (top 37)):=fsc
set_option maxHeartbeats 8000000 in
theorem ok_is_news (T:Tx K mg A):Okd T.is_news P w base 21 (sp_is_news K A.p_lam):=by
 refine T.is_news.fn.ok sc_is_news (λvs H Q E h=>?_) (λcdv Ar outer s H vs Q E hr h=>?_)
 ·obtain ⟨z,a,t,zs,s,l,rfl,_⟩:=h;rfl
 ·obtain ⟨z,a,t,zs,s',l,rfl,hqa,h64,hzs,hz,hzk,hqt,hla,k⟩:=h;refine ⟨_,pss_one (ps_ret (pe_not (pe_callB (r:=rAny K) (call_any rfl) (by rfl) T.n_any bt_any (pa1 (pcm ["pattern","line"] [0] (defScope (top 37)) ["line","lines","sieve"] (pi_list (pcalD T.gathered (ok_gathered T) hr (pa_cons (pv 1) (pa1 (pv 2))))) (λs H fp=>pcal T.fits (ok_fits T) hr (pa_cons (pv 0) (pa1 (pv 1))))))))),?_⟩;refine ⟨_,rfl,_,rfl,a,t,zs,s',l,rfl,hqa,h64,hzs,hqt,hla,λD ms acc H1 ps hperm hup hD s1 la1 hDD hps hord hpok hpl fr hne dn=>⟨D,rfl,⟨_,.of hDD⟩,λM hM=>?_⟩⟩;have dn1:Dens K H1 acc (ps.map patD):=dn.same lim_same;have hal:acc.length=ps.length:=by rw [dn1.length,List.length_map]
  refine comp_list (K:=K) (xs:=acc) (λj acc2 σ H2=>(∃ u,σ=[u,some (.str z)])/\Same H1 H2/\acc2=((ps.take j).map λp=>takesAll p (Txt.split z " ")).map V.bl) upd_same ⟨⟨_,rfl⟩,Same.new hM,rfl⟩ (λj acc2 σ H2 _ _ q=>.of (q.2.1 _ _ hDD)) (λj x acc2 σ H2 hx hMx q=>?_) (λacc2 σ H2 hM2 q=>?_)
  ·obtain ⟨q0,s2,rfl⟩:=q;apply ex_1 q0;clear q0;intro u;obtain ⟨p,hpj,hdp⟩:=dens_pat dn1 hx;have hj:=ge_len hpj;have hl2:(((ps.take j).map λp=>takesAll p (Txt.split z " ")).map V.bl).length<=64:=by rw [List.length_map,List.length_map,List.length_take];lia
   refine compY ⟨_,rfl,_,rfl,x,z,p,rfl,hdp.same s2,λq hq=>((hpok p (List.mem_of_getElem? hpj)).1 q hq).ok,hz,hzk,λH3 s3=>⟨_,s3 _ _ hMx,small (by lia),_,upd_same,⟨_,rfl⟩,snap_upd hM (s2.trans s3),?_⟩⟩;rw [take_next hpj,List.map_append];rfl
  ·obtain ⟨_,s2,rfl⟩:=q;rw [hal,List.take_of_length_le (Nat.le_refl _)] at hM2;refine ⟨M,_,rfl,.of hM2,_,rfl,?_⟩;have e:newsB s' l zs z = !((ps.map λp=>takesAll p (Txt.split z " ")).any id):=by
    rw [newsB_of hperm hup hps,List.any_map];rfl
   have kk:=k H2 (s1.trans s2) (lam_same la1 s2);rw [e] at kk;exact kk
def sp_news (K:PySem.W.Frag) (P:Addr):Sp:=λvs H Q _=>∃ (a t:Addr) (zs:List Str) (s l:Int),vs=[.ref a,.ref t]/\SqL K H a (zs.map V.str)/\zs.length<64/\(∀ z∈zs,∃ ws,LnOk 12 z ws)/\SqT K H t [.int s,.int l]/\LamOk P H /\
 ∀ D H',H D=none->Same (wo P H) H'->LamOk P H'->H' D=some (.lst ((newsL s l zs zs.length).map nV))->Q (.ref D) H'
theorem sc_news:FnScope ["lines","sieve"] ["lines","sieve"] (defScope (top 38)):=fsc
set_option maxHeartbeats 8000000 in
theorem ok_news (T:Tx K mg A):OkdD T.news P w base 22 (sp_news K A.p_lam):=by
 refine T.news.fn.ok sc_news (λvs H Q E h=>?_) (λcdv Ar outer s H vs Q E hr h=>?_)
 ·obtain ⟨a,t,zs,s,l,rfl,_⟩:=h;rfl
 ·obtain ⟨a,t,zs,s',l,rfl,hqa,h64,hzs,hqt,hla,k⟩:=h;obtain ⟨tb,htb⟩:=lam_tbl hla;have hBa:SqL K (wo A.p_lam H) a (zs.map V.str):=sql_tbl htb hqa;have hBt:SqT K (wo A.p_lam H) t [.int s',.int l]:=sqt_tbl htb hqt;have hBP:(wo A.p_lam H) A.p_lam=none:=wo_self;refine ⟨_,pss_one (ps_ret (pe_comp (N':=["number","line","sieve","lines"]) (n:=2) (fi:=[1,0]) (g:=gTup K 2 (gCons (gName 0) (gCons (gName 1) (gNil)))) rfl (cscope (defScope (top 38)) ["lines","sieve"] (by decide +kernel)) (pi_enum (by rfl) T.n_enumerate (pa1 (pv 0))) (λs H fp=>pg_tup rfl (pgs_cons (pg_name (i:=0) (show (["number","line","sieve","lines"]:List Str).Nodup by decide +kernel) rfl (Or.inl rfl) (.inr rfl)) (pgs_cons (pg_name (i:=1) (show (["number","line","sieve","lines"]:List Str).Nodup by decide +kernel) rfl (Or.inl rfl) (.inr rfl)) pgs_nil))) (λs H fp=>pifs_one (pt_val (pcal T.is_news (ok_is_news T) hr (pa_cons (pv 1) (pa_cons (pe_slice (r:=rSlL K) sl_list (pv 3) (po_none) (po_some (pv 0))) (pa1 (pv 2))))))) (λs H fp=>pv 0))),?_⟩;refine ⟨_,rfl,a,rfl,⟨_,hqa⟩,λD hD=>?_⟩;have hDP:D≠A.p_lam:=λe=>by rw [e,htb] at hD;cases hD
  have hDB:(wo A.p_lam H) D=none:=by rw [wo_at hDP];exact hD
  have kk:=k D;have laD:LamOk A.p_lam (upd H D (.lst [])):=lam_same hla (Same.new hD);have sB0:Same (wo A.p_lam H) (upd H D (.lst [])):=wo_same.trans (Same.new hD);generalize wo A.p_lam H=B at hBa hBt hBP hDB kk sB0;refine comp_enum (K:=K) (xs:=zs.map V.str) (λi acc σ H2=>(∃ u v,σ=[u,v,some (.ref t),some (.ref a)])/\Same B H2/\LamOk A.p_lam H2/\acc=(newsL s' l zs i).map nV) upd_same ⟨⟨_,_,rfl⟩,sB0,laD,rfl⟩ (λi acc σ H2 _ _ q=>q.2.1.seq hBa) (λi x acc σ H2 p hx hDx q hp=>?_) (λacc σ H2 hD2 q=>?_)
  ·obtain ⟨q0,s2,la2,rfl⟩:=q;apply ex_2 q0;clear q0;intro u v;obtain ⟨z,hz,rfl⟩:=strs_at hx;have hi:=ge_len hz;have hzm:=List.mem_of_getElem? hz;obtain ⟨ws,hln⟩:=hzs z hzm;have hlo:=hln.ok (by decide);have hnl:=newsL_len (s:=s') (l:=l) (zs:=zs) (n:=i);have sp:Same H2 (upd H2 p (.tup [.int i,.str z])):=Same.new hp;refine ⟨p,_,rfl,.of upd_same,rfl,_,_,rfl,_,_,rfl,rfl,?_⟩;have hD3:=sp _ _ hDx;have s3:=s2.trans sp;have la3:LamOk A.p_lam (upd H2 p (.tup [.int i,.str z])):=lam_same la2 sp;generalize upd H2 p (.tup [.int i,.str z])=H3 at hD3 s3 la3 ⊢;refine ⟨_,rfl,_,rfl,_,rfl,(i:Int),rfl,a,_,rfl,s3.seq hBa,λS hS=>?_⟩;rw [cut_take (Int.natCast_nonneg i),Int.toNat_natCast,<-List.map_take];have sS:Same H3 (upd H3 S (.lst ((zs.take i).map V.str))):=Same.new hS;have hSS:(upd H3 S (.lst ((zs.take i).map V.str))) S=some (.lst ((zs.take i).map V.str)):=upd_same;generalize upd H3 S (.lst ((zs.take i).map V.str))=H4 at sS hSS ⊢;have s4:=s3.trans sS;have hD4:=sS _ _ hD3;have la4:LamOk A.p_lam H4:=lam_same la3 sS;obtain ⟨tb4,htb4⟩:=lam_tbl la4;refine ⟨_,rfl,z,S,t,zs.take i,s',l,rfl,.of hSS,by rw [List.length_take];lia,λz h=>hzs z (List.mem_of_mem_take h),Nat.le_trans hlo.2 (by decide),hlo.1,s4.seqT hBt,la4,λH5 s5 la5=>⟨_,rfl,?_⟩⟩;have s05:Same B H5:=(same_wo hBP s4).trans s5;have hD5:H5 D=_:=wo_keep s5 htb4 hD4 λqs e=>by cases e
   have eg:zs.getD i Str.empty=z:=by rw [List.getD_eq_getElem?_getD,hz];rfl
   rw [newsL_next];cases hb:newsB s' l (zs.take i) z with
   | true=>
    have e2:[i].filter (λi=>newsB s' l (zs.take i) (zs.getD i Str.empty))=[i]:=List.filter_cons_of_pos (by rw [eg];exact hb);rw [e2,List.map_append];exact iteT ⟨_,rfl,_,hD5,small (by rw [List.length_map];lia),_,upd_same,⟨_,_,rfl⟩,snap_upd hDB s05,lam_upd la5 hD5,rfl⟩
   | false=>
    have e2:[i].filter (λi=>newsB s' l (zs.take i) (zs.getD i Str.empty))=[]:=List.filter_cons_of_neg (by rw [eg,hb];decide);rw [e2,List.append_nil];exact iteF ⟨_,hD5,⟨_,_,rfl⟩,s05,la5,rfl⟩
  ·obtain ⟨_,s2,la2,rfl⟩:=q;rw [List.length_map] at hD2;exact kk H2 hD s2 la2 hD2
end
end K32
namespace K32
open PySem L2 LG
section
variable {P:Program}{w:World}{K:PySem.W.Frag}{mg:Str->Option Value}{base:Heap}{A:Ad}
def sp__law_sieve (K:PySem.W.Frag):Sp:=λvs H Q _=>∃ (d:Addr) (n:Nat),vs=[.ref d]/\Dk H d n/\n<900000/\∀ (t:Addr) (s l:Int) H',H t=none->Same (wo d H) H'->Dk H' d (n+3)->H' t=some (.tup [.int s,.int l])->Q (.ref t) H'
theorem at_339 {r:Int} (h0:0<=r) (h1:r<3):∃ v:Int,atI [V.int 3,V.int 3,V.int 9] r=some (.int v)/\0<v/\v<10:=by
 have:r=0\/r=1\/r=2:=by lia
 rcases this with rfl | rfl | rfl
 ·exact ⟨3,rfl,by decide,by decide⟩
 ·exact ⟨3,rfl,by decide,by decide⟩
 ·exact ⟨9,rfl,by decide,by decide⟩
theorem sc__law_sieve:FnScope ["deck"] ["deck"] (defScope (top 47)):=fsc
set_option maxHeartbeats 8000000 in
theorem ok__law_sieve (T:Tx K mg A):Okd T._law_sieve P w base 2 (sp__law_sieve K):=by
 refine T._law_sieve.fn.ok sc__law_sieve (λvs H Q E h=>?_) (λcdv Ar outer s H vs Q E hr h=>?_)
 ·obtain ⟨d,n,rfl,_⟩:=h;rfl
 ·obtain ⟨d,n,rfl,hdk,hn,k⟩:=h;refine ⟨_,pss_one (ps_ret (pe_tup (pa_cons (pe_op op_add pe_int (pcal T._law_pick (ok__law_pick T) hr (pa_cons (pv 0) (pa1 pe_int)))) (pa1 (pe_op op_add pe_int (pcal T._law_pick (ok__law_pick T) hr (pa_cons (pv 0) (pa1 (pixL K (pe_lst (pa_cons pe_int (pa_cons pe_int (pa1 pe_int)))) (pcal T._law_pick (ok__law_pick T) hr (pa_cons (pv 0) (pa1 pe_int)))))))))))),?_⟩;refine ⟨_,rfl,d,8,n,rfl,hdk,by lia,by decide,by decide,λr1 H1 s1 dk1 _ _=>⟨_,_,rfl,rfl,?_⟩⟩;refine ⟨_,rfl,(by decide),λp hp=>⟨_,rfl,d,3,_,rfl,dk1.same (Same.new hp),by lia,by decide,by decide,λr2 H2 s2 dk2 q0 q1=>?_⟩⟩;obtain ⟨v,hv,hv0,hv1⟩:=at_339 q0 q1;refine ⟨p,_,r2,_,rfl,rfl,.of (keepN s2 upd_same (dk1.ne hp)),hv,d,v,_,rfl,dk2,by lia,hv0,by lia,λr3 H3 s3 dk3 _ _=>⟨_,_,rfl,rfl,(by show 2<=sizeLine;decide),λt ht=>?_⟩⟩;have s03:=wo_trans (wo_trans s1 (wo_same.trans (Same.new hp))) (by exact wo_trans (by exact s2) s3);have st:=Same.new (o:=.tup [.int (2+r1),.int (1+r3)]) ht;refine k t _ _ _ ?_ (s03.trans st) ((dk3.same st).mono (by lia)) upd_same;have:=s03.free ht
  rwa [wo_at (dk3.ne ht).symm] at this
end
end K32
namespace K32
open PySem L2 LG
section
variable {P:Program}{w:World}{K:PySem.W.Frag}{mg:Str->Option Value}{base:Heap}{A:Ad}
def sp_law (K:PySem.W.Frag) (P:Addr):Sp:=λvs H Q _=>∃ (a:Addr) (ns:List Int),vs=[.ref a]/\SqL K H a (ns.map V.int)/\ns.length<=63/\LamOk P H/\∀ H',Q (.bl true) H'
theorem lam_pick {P d:Addr}{H H':Hp}{ys:List V} (h:LamOk P H) (hd:H d=some (.lst ys)) (s:Same (wo d H) H'):LamOk P H':=by
 obtain ⟨ps,h1,h2,h3⟩:=h;have a:P≠d:=λe=>by rw [e,hd] at h1;cases h1
 refine ⟨ps,s _ _ (by rw [wo_at a];exact h1),h2,h3.imp id λ⟨c,x,y⟩=>⟨c,x,?_⟩⟩;have b:c≠d:=λe=>by rw [e,hd] at y;cases y
 exact s _ _ (by rw [wo_at b];exact y)
theorem lam_pick' {P d:Addr}{H:Hp}{o:HO}{kvs:List (Key×V)} (h:LamOk P H) (hd:H d=some (.dK kvs)):LamOk P (upd H d o):=by
 obtain ⟨ps,h1,h2,h3⟩:=h;have a:P≠d:=λe=>by rw [e,hd] at h1;cases h1
 refine ⟨ps,by rwa [upd_ne a],h2,h3.imp id λ⟨c,x,y⟩=>⟨c,x,?_⟩⟩;have b:c≠d:=λe=>by rw [e,hd] at y;cases y
 rwa [upd_ne b]
def psSh:Sh:=.list (.list (.tcons .str (.tcons .str .tnil)))
theorem sh_pats (pss:List (List Pt)):psSh.has (.list (pss.map patD)):=⟨_,rfl,λx hx=>by
 obtain ⟨ps,_,rfl⟩:=List.mem_map.mp hx;exact ⟨_,rfl,λy hy=>by
  obtain ⟨p,_,rfl⟩:=List.mem_map.mp hy;cases p <;> exact ⟨_,_,rfl,⟨_,rfl⟩,_,_,rfl,⟨_,rfl⟩,rfl⟩⟩⟩
theorem pats_refl (pss:List (List Pt)):PyData.eqv (.list (pss.map patD)) (.list (pss.map patD))=true:=((Sh.ok psSh).eqv _ _ (sh_pats pss) (sh_pats pss)).mpr rfl
theorem strs_none {l:List Str} (h:PyData.eqv (.list (l.map PyData.str)) (.list (([]:List Str).map PyData.str))=true):l=[]:=by
 have hs:∀ l:List Str,(Sh.list .str).has (.list (l.map PyData.str)):=λl=>⟨_,rfl,λx hx=>by
  obtain ⟨z,_,rfl⟩:=List.mem_map.mp hx;exact ⟨z,rfl⟩⟩
 have e:=((Sh.ok (.list .str)).eqv _ _ (hs l) (hs [])).mp h;injection e with e;exact List.map_eq_nil_iff.mp e
theorem depStrs5 (l:List Str):(PyData.list (l.map PyData.str)).depth<=100:=by
 have:∀ l:List Str,PyData.depthAll (l.map PyData.str)=0:=λl=>by
  induction l with
  | nil=>rfl
  | cons a l ih=>simp only [List.map_cons,PyData.depthAll,PyData.depth,ih];rfl
 rw [PyData.depth,this];decide
def nD (i:Nat):PyData:=.int (i:Int)
theorem dens_nV {K:PySem.W.Frag}{H:Hp}:∀ {l:List Nat},Dens K H (l.map nV) (l.map nD)
 | []=>.nil
 | _::_=>.cons (.int _) dens_nV
theorem dep_nV (l:List Nat):(PyData.list (l.map nD)).depth<=100:=by
 have:∀ l:List Nat,PyData.depthAll (l.map nD)=0:=λl=>by
  induction l with
  | nil=>rfl
  | cons a l ih=>simp only [List.map_cons,nD,PyData.depthAll,PyData.depth,ih];rfl
 rw [PyData.depth,this];decide
theorem dep_il (l:List (List Int)):(PyData.list (l.map ilD)).depth<=100:=by
 have:∀ l:List (List Int),PyData.depthAll (l.map ilD)<=1:=λl=>by
  induction l with
  | nil=>exact Nat.zero_le _
  | cons a l ih=>simp only [List.map_cons,ilD,PyData.depthAll,PyData.depth,il_depth] at ih ⊢;lia
 have:=this l;rw [PyData.depth];lia
theorem den_self {K:PySem.W.Frag}{H:Hp}{v:V}{d:PyData} (h:Den K H v d):PyData.eqv d d=true:=PySem.SeqAt.eqv_refl d h.lay
theorem same_put {V H:Hp}{t:Addr}{o:HO} (s:Same V H) (h:H t=some o):Same (upd V t o) H:=λb u e=>by
 by_cases q:b=t
 ·subst q;rw [upd_same] at e;rw [h,e]
 ·rw [upd_ne q] at e;exact s b u e
theorem ways {N:Hp->Prop}{G:Prop} (Pre:Hp->Prop) (f:(∀ H,Pre H->N H)->G) (rest:∀ H,Pre H->N H):G:=f rest
theorem ite_cut {c:Bool}{A:Prop}{B:St->Hp->Prop}{σ:St}{H:Hp} (Pre:St->Hp->Prop) (h0:Pre σ H) (hA:c=true->(∀ σ H,Pre σ H->B σ H)->A) (hB:∀ σ H,Pre σ H->B σ H):if c=true then A else B σ H:=by
 cases c
 ·exact iteF (hB σ H h0)
 ·exact iteT (hA rfl hB)
theorem loose_comp {K:PySem.W.Frag}{a C:Addr}{xs:List V}{pss:List (List Pt)}{H:Hp}{Q:VK}{u:Option V} (hq:SqL K H a xs) (hd:Dens K H xs (pss.map patD)) (hok:∀ ps∈pss,POk ps) (h64:pss.length<=64) (hC:H C=none) (k:∀ acc H',Same H H'->H' C=some (.lst acc)->Dens K H' acc ((pss.map λp=>p.map Pt.loose).map ilD)->Q (.ref C) H') :
  CompW (gName 0) tYes (tCall (sp_looseness K) [] E0 (tCons (tVar 0) tNil)) (Itl K a) C Q [u] (upd H C (.lst [])):=by
 have hxl:xs.length=pss.length:=by rw [hd.length,List.length_map]
 refine comp_list (K:=K) (a:=a) (xs:=xs) (λj acc σ H2=>(∃ u,σ=[u])/\Same H H2/\Dens K (wo C H2) acc ((pss.take j).map λp=>ilD (p.map Pt.loose))) upd_same ⟨⟨_,rfl⟩,Same.new hC,.nil⟩ (λj acc σ H2 _ _ q=>q.2.1.seq hq) (λj x acc σ H2 hx hCx q=>?_) (λacc σ H2 hCx q=>?_)
 ·obtain ⟨q0,s2,dn2⟩:=q;apply ex_1 q0;clear q0;intro u;obtain ⟨p,hpj,hdp⟩:=dens_pat hd hx;have hj:=ge_len hpj;have hal:acc.length<=64:=by rw [dn2.length,List.length_map,List.length_take];lia
  refine compY ⟨_,rfl,x,p,rfl,hdp.same s2,hok p (List.mem_of_getElem? hpj),λI H3 hI s3 hI3=>?_⟩;have hIC:I≠C:=(ne_of_none hCx hI).symm;refine ⟨_,s3 _ _ hCx,small (by lia),_,upd_same,⟨_,rfl⟩,snap_upd hC (s2.trans s3),?_⟩;rw [wo_upd,List.take_add_one,hpj,List.map_append];refine (dn2.same (wo_mono s3)).append (.cons (.lst (xs:=(p.map Pt.loose).map V.int) (.of (by rw [wo_at hIC,hI3,List.map_map];rfl)) (dens_int _)) .nil)
 ·obtain ⟨_,s2,dn2⟩:=q;rw [hxl,List.take_of_length_le (Nat.le_refl _)] at dn2;exact k acc H2 s2 hCx (by rw [List.map_map];exact dn2.same wo_same)
def L32 (P Z:Addr) (cells:List V) (i:Nat) (σ:St) (H:Hp):Prop:=(∃ u0 u1 u2 u3 u4 u5 u6 u7 u8 u9 u10,σ=[u0,u1,u2,u3,u4,u5,u6,u7,u8,u9,u10])/\H Z=some (.lst cells)/\LamOk P H
theorem sc_law:FnScope ["script","cell","deck","sieve","lines","patterns","names","others","due","word","part"] ["script"] (defScope (top 50)):=fsc
set_option maxHeartbeats 8000000 in
theorem ok_law (F:Fun K "law" "law" (top 50) A.f_law A.d_law) (T:Tx K mg A):FnOk P w K mg base CX0 23 A.f_law A.d_law ["script"] (sp_law K A.p_lam):=by
 refine F.ok sc_law (λvs H Q E h=>?_) (λcdv Ar outer s H vs Q E hr h=>?_)
 ·obtain ⟨a,ns,rfl,_⟩:=h;rfl
 ·obtain ⟨a,ns,rfl,hScr,hn,hla,k⟩:=h;refine ⟨_,pss_cons (ps_for PassesOwn.never rfl (pi_list (pe_slice (r:=rSlL K) sl_list (pe_op (r:=rCatS K) op_catS (pv 0) (pe_lst (pa1 pe_int))) (po_none) (po_some pe_int))) (pn 1 sc_law.nd) (pss_cons (ps_set (i:=2) sc_law.nd rfl (Or.inl rfl) (pcal T._law_deck (ok__law_deck T) hr (pa_cons (pv 1) (pa1 pe_int))))
   (pss_cons (ps_set (i:=3) sc_law.nd rfl (Or.inl rfl) (pcal T._law_sieve (ok__law_sieve T) hr (pa1 (pv 2))))
   (pss_cons (ps_set (i:=4) sc_law.nd rfl (Or.inl rfl) (pcal T._law_lines (ok__law_lines T) hr (pa_cons (pv 2) (pa1 pe_int))))
   (pss_cons (ps_set (i:=5) sc_law.nd rfl (Or.inl rfl) (pcalD T.gathered (ok_gathered T) hr (pa_cons (pv 4) (pa1 (pv 3)))))
   (pss_cons (ps_set (i:=6) sc_law.nd rfl (Or.inr rfl) (pcal T._law_names (ok__law_names T) hr (pa_cons (pv 2) (pa1 (pv 4)))))
   (pss_cons (ps_comp (i:=7) (N':=["line","names"]) (n:=1) (fi:=[6]) (g:=gName 0) sc_law.nd rfl (Or.inl rfl) rfl (cscope (defScope (top 50)) ["script","cell","deck","sieve","lines","patterns","names","others","due","word","part"] (by decide +kernel)) (pi_list (pv 4)) (λs H fp=>pg_name (i:=0) (show (["line","names"]:List Str).Nodup by decide +kernel) rfl (Or.inl rfl) (.inr rfl)) (λs H fp=>pifs_nil) (λs H fp=>pe_bmK (K:=K) rfl (r:=rJoin K) PySem.F.plainAttrs_str PySem.F.slot_str_join PySem.F.type_str_join mt_join pe_str (pa1 (pe_comp (wi:=iList K (tBM K "str" rSplit (tVar 0) (tCons (tC (.str " ")) tNil))) (N':=["word","names"]) (n:=1) (fi:=[1]) (g:=gName 0) rfl (cscopeN (defScope (top 50)) (by decide +kernel)) (pi_list (pe_bmK (K:=K) rfl PySem.F.plainAttrs_str PySem.F.slot_str_split PySem.F.type_str_split mt_split (pv 0) (pa1 pe_str))) (λs H fp=>pg_name (i:=0) (show (["word","names"]:List Str).Nodup by decide +kernel) rfl (Or.inl rfl) (.inr rfl)) (λs H fp=>pifs_nil) (λs H fp=>pe_dget (hu_of hr) (pv 1) (pv 0) (λ_ _=>rfl))))))
   (pss_cons (ps_if (ptcmp (r:=rNeD K) (op_neD hr) (pe_comp (N':=["word","names"]) (n:=1) (fi:=[6]) (g:=gName 0) rfl (cscope (defScope (top 50)) ["script","cell","deck","sieve","lines","patterns","names","others","due","word","part"] (by decide +kernel)) (pi_keys (pv 6)) (λs H fp=>pg_name (i:=0) (show (["word","names"]:List Str).Nodup by decide +kernel) rfl (Or.inl rfl) (.inr rfl)) (λs H fp=>pifs_one ((pw_and (ptcmp (op_ne) (pv 0) pe_str) (pw_and1 (ptcmp (op_ne) (pcal T.kind_of (ok_kind_of T) hr (pa1 (pe_dget (hu_of hr) (pv 1) (pv 0) (λ_ _=>rfl)))) (pcal T.kind_of (ok_kind_of T) hr (pa1 (pv 0)))))).pt)) (λs H fp=>pv 0)) (pe_lst pa_nil)) (pss_one (ps_ret (pe_bl))) pss_nil)
   (pss_cons (ps_set (i:=8) sc_law.nd rfl (Or.inl rfl) (pcal T.ordered (ok_ordered T) hr (pa1 (pcm ["pattern","names"] [6] (defScope (top 50)) ["script","cell","deck","sieve","lines","patterns","names","others","due","word","part"] (pi_list (pv 5)) (λs H fp=>pcal T._law_renamed (ok__law_renamed T) hr (pa_cons (pv 0) (pa1 (pv 1))))))))
   (pss_cons (ps_if (ptcmp (r:=rNeD K) (op_neD hr) (pcalD T.gathered (ok_gathered T) hr (pa_cons (pv 7) (pa1 (pv 3)))) (pv 8)) (pss_one (ps_ret (pe_bl))) pss_nil)
   (pss_cons (ps_if ((pw_and (ptcmp (r:=rNeD K) (op_neD hr) (pv 4) (pe_lst pa_nil)) (pw_and1 (ptcmp (r:=rNeD K) (op_neD hr) (pcalD T.news (ok_news T) hr (pa_cons (pe_slice (r:=rSlL K) sl_list (pv 4) (po_none) (po_some pe_int)) (pa1 (pv 3)))) (pcalD T.news (ok_news T) hr (pa_cons (pe_slice (r:=rSlL K) sl_list (pv 7) (po_none) (po_some pe_int)) (pa1 (pv 3))))))).pt) (pss_one (ps_ret (pe_bl))) pss_nil)
   (pss_cons (ps_if (ptcmp (r:=rEqD K) (op_eqD hr) (pe_comp (N':=["line"]) (n:=1) (fi:=[]) (g:=gName 0) rfl (cscope (defScope (top 50)) ["script","cell","deck","sieve","lines","patterns","names","others","due","word","part"] (by decide +kernel)) (pi_list (pv 4)) (λs H fp=>pg_name (i:=0) (show (["line"]:List Str).Nodup by decide +kernel) rfl (Or.inl rfl) (.inr rfl)) (λs H fp=>pifs_one (ptcmp (op_eq) (pe_callB (r:=rLenS K) call_lenS (by rfl) T.n_len PySem.boot_len (pa1 (pe_bmK (K:=K) rfl PySem.F.plainAttrs_str PySem.F.slot_str_split PySem.F.type_str_split mt_split (pv 0) (pa1 pe_str)))) pe_int)) (λs H fp=>pv 0)) (pe_lst pa_nil)) (pss_cons (ps_set (i:=9) sc_law.nd rfl (Or.inr rfl) (pcal T._law_word (ok__law_word T) hr (pa1 (pv 2))))
   (pss_cons (ps_set (i:=10) sc_law.nd rfl (Or.inr rfl) (pe_tup (pa_cons pe_str (pa1 (pv 9)))))
   (pss_cons (ps_if (ptcmp (r:=rNeD K) (op_neD hr) (pcalD T.gathered (ok_gathered T) hr (pa_cons (pcm ["line","word"] [9] (defScope (top 50)) ["script","cell","deck","sieve","lines","patterns","names","others","due","word","part"] (pi_list (pv 4)) (λs H fp=>pe_op op_add_str (pe_op op_add_str (pv 1) pe_str) (pv 0))) (pa1 (pv 3)))) (pcal T.ordered (ok_ordered T) hr (pa1 (pcm ["one","part"] [10] (defScope (top 50)) ["script","cell","deck","sieve","lines","patterns","names","others","due","word","part"] (pi_list (pv 5)) (λs H fp=>pe_op (r:=rCatS K) op_catS (pe_lst (pa1 (pv 1))) (pv 0)))))) (pss_one (ps_ret (pe_bl))) pss_nil)
   (pss_one (ps_if (ptcmp (r:=rNeD K) (op_neD hr) (pcalD T.gathered (ok_gathered T) hr (pa_cons (pcm ["line","word"] [9] (defScope (top 50)) ["script","cell","deck","sieve","lines","patterns","names","others","due","word","part"] (pi_list (pv 4)) (λs H fp=>pe_op op_add_str (pe_op op_add_str (pv 0) pe_str) (pv 1))) (pa1 (pv 3)))) (pcal T.ordered (ok_ordered T) hr (pa1 (pcm ["one","part"] [10] (defScope (top 50)) ["script","cell","deck","sieve","lines","patterns","names","others","due","word","part"] (pi_list (pv 5)) (λs H fp=>pe_op (r:=rCatS K) op_catS (pv 0) (pe_lst (pa1 (pv 1)))))))) (pss_one (ps_ret (pe_bl))) pss_nil))))) pss_nil)
   (pss_one (ps_if (ptcmp (r:=rNeD K) (op_neD hr) (pe_callB (r:=rSorLL K) (call_sortedLL hr) (by rfl) T.n_sorted bt_sorted (pa1 (pcm ["one"] [] (defScope (top 50)) ["script","cell","deck","sieve","lines","patterns","names","others","due","word","part"] (pi_list (pv 8)) (λs H fp=>pcal T.looseness (ok_looseness T) hr (pa1 (pv 0)))))) (pe_callB (r:=rSorLL K) (call_sortedLL hr) (by rfl) T.n_sorted bt_sorted (pa1 (pcm ["one"] [] (defScope (top 50)) ["script","cell","deck","sieve","lines","patterns","names","others","due","word","part"] (pi_list (pv 5)) (λs H fp=>pcal T.looseness (ok_looseness T) hr (pa1 (pv 0))))))) (pss_one (ps_ret (pe_bl))) pss_nil))))))))))))))
   (pss_one (ps_ret (pe_bl))),?_⟩
  refine ⟨_,rfl,(by show 1<=sizeLine;decide),λp hp=>⟨a,p,_,_,rfl,rfl,(Same.new hp).seq hScr,.of upd_same,?_,λq hq=>⟨3,rfl,q,_,rfl,.of upd_same,λZ hZ=>⟨Z,rfl,⟨_,.of upd_same⟩,?_⟩⟩⟩⟩
  ·rw [List.length_map];exact Nat.le_trans (Nat.add_le_add_right hn 1) (by decide)
  have hcells:∀ i x,(cutV (ns.map V.int++[V.int 0]) none (some 3))[i]? = some x->∃ c:Int,x=V.int c:=λi x hx=>by
   rw [cut_take (by decide)] at hx;rcases List.mem_append.mp (List.mem_of_mem_take (List.mem_of_getElem? hx)) with hm | hm
   ·obtain ⟨c,_,rfl⟩:=List.mem_map.mp hm;exact ⟨c,rfl⟩
   ·exact ⟨0,List.mem_singleton.mp hm⟩
  have laZ:=lam_same (lam_same (lam_same hla (Same.new (o:=.lst [.int 0]) hp)) (Same.new (o:=.lst (ns.map V.int++[V.int 0])) hq)) (Same.new (o:=.lst (cutV (ns.map V.int++[V.int 0]) none (some 3))) hZ);generalize cutV (ns.map V.int++[V.int 0]) none (some 3)=cells at hcells laZ;refine for_list (K:=K) (xs:=cells) (L32 A.p_lam Z cells) ⟨⟨_,_,_,_,_,_,_,_,_,_,_,rfl⟩,upd_same,laZ⟩ (λi σ H _ q=>.of q.2.1) (λi x σ H0 hx q=>?_) (λσ H q=>?_)
  ·obtain ⟨c,rfl⟩:=hcells i x hx;obtain ⟨q0,hZ0,la0⟩:=q;apply ex_11 q0;clear q0;intro u0 u1 u2 u3 u4 u5 u6 u7 u8 u9 u10;clear laZ hla hScr hx;refine ⟨_,rfl,c,0,rfl,by decide,λd H1 hd s1 dk1=>?_⟩;have hdZ:d≠Z:=(ne_of_none hZ0 hd).symm;have hZ1:=s1 _ _ hZ0;have la1:LamOk A.p_lam H1:=lam_same la0 s1;obtain ⟨zs1,hd1⟩:=dk1.lst;refine ⟨_,rfl,d,_,rfl,dk1,by decide,λSV sv lv H2 hSV s2 dk2 hS2=>?_⟩;have la2:LamOk A.p_lam H2:=lam_pick la1 hd1 s2;have hZ2:H2 Z=_:=keepN s2 hZ1 hdZ;have hdS:d≠SV:=(dk1.ne hSV);obtain ⟨zs2,hd2⟩:=dk2.lst;refine ⟨_,rfl,d,40,_,rfl,dk2,by decide,by decide,by decide,λD zs U H4 hD s4 dk4 hDl hlu hll hUl=>?_⟩;have hdD:d≠D:=λe=>by
    obtain ⟨x,hx⟩:=dk2.lst;rw [<-e,hx] at hD;cases hD
   have hzl:zs.length<=40:=hll;have hls:∀ z∈zs,∃ ws,LnOk 12 z ws:=λz hz=>let ⟨ws,a,_⟩:=hlu z hz;⟨ws,a⟩;have la4:LamOk A.p_lam H4:=lam_pick la2 hd2 s4;have hZ4:H4 Z=_:=keepN s4 hZ2 hdZ;have hS4:H4 SV=_:=keepN s4 hS2 hdS;obtain ⟨zs4,hd4⟩:=dk4.lst;refine ⟨_,rfl,_,rfl,D,SV,zs,sv,lv,rfl,.of hDl,by lia,hls,.of hS4,la4,λPT ms acc H5 ps hperm hup hPT s5 la5 hPP hps hord hpok hpl fr hne dn=>?_⟩;obtain ⟨tb4,htb4⟩:=lam_tbl la4;obtain ⟨tb5,htb5⟩:=lam_tbl la5;have hD5:H5 D=_:=wo_keep s5 htb4 hDl λqs e=>by cases e
   have hS5:H5 SV=_:=wo_keep s5 htb4 hS4 λqs e=>by cases e
   have hZ5:H5 Z=_:=wo_keep s5 htb4 hZ4 λqs e=>by cases e
   have hd5:H5 d=_:=wo_keep s5 htb4 hd4 λqs e=>by cases e
   have hdPT:d≠PT:=ne_of_none hd4 hPT;have dk5:Dk H5 d (0+3+2000):=by
    obtain ⟨x,y,z,e,r⟩:=dk4;exact ⟨x,y,z,wo_keep s5 htb4 e (λqs e=>by cases e),r⟩
   have rok:=rows_ok hperm (by lia) hls;have dnd:Dens K (wo d H5) acc (ps.map patD):=dn.same (lim_wo hd4);refine ⟨_,rfl,_,rfl,d,D,zs,U,_,rfl,dk5,by decide,hD5,by lia,hlu,Nat.le_trans hUl (by decide),hdD,λF us f H6 hF s6 dk6 hF6 ul wA wB wE und nok=>?_⟩;have la6:LamOk A.p_lam H6:=lam_pick la5 hd5 s6;have hD6:=keepN s6 hD5 hdD;have hS6:=keepN s6 hS5 hdS;have hZ6:=keepN s6 hZ5 hdZ;have hP6:=keepN s6 hPP hdPT;obtain ⟨tb6,htb6⟩:=lam_tbl la6;have hdF:d≠F:=ne_of_none hd5 hF;have hPd:A.p_lam≠d:=λe=>by rw [<-e,htb5] at hd5;cases hd5
   have hBP:(wo F (wo A.p_lam H6)) A.p_lam=none:=wo_none wo_self;have hBN:(wo F (wo A.p_lam H6)) F=none:=wo_self;have dnW:Dens K (wo d (wo F (wo A.p_lam H6))) acc (ps.map patD):=by
    have a:(wo d H5) A.p_lam=some (.tbl tb5):=by rwa [wo_at hPd]
    have b:Same (wo A.p_lam (wo d H5)) (wo d (wo F (wo A.p_lam H6))):=same_wo (by rw [wo_at hPd.symm];exact wo_self) (same_wo (wo_none (wo_none hF)) (wo_mono s6));exact (dens_tbl a dnd).same b
   have toB:∀ {b:Addr}{o:HO},H6 b=some o->(∀ qs,o ≠ .tbl qs)->(∀ qs,o ≠ .dK qs)->(wo F (wo A.p_lam H6)) b=some o:=λ{b o} e n n'=>by
    rw [wo_at (λz=>by rw [z,hF6] at e;cases e;exact n' _ rfl),wo_at (tbl_ne htb6 e n)];exact e
   have hBD:=toB hD6 (λqs e=>by cases e) λqs e=>by cases e
   have hBS:=toB hS6 (λqs e=>by cases e) λqs e=>by cases e
   have hBZ:=toB hZ6 (λqs e=>by cases e) λqs e=>by cases e
   have hBT:=toB hP6 (λqs e=>by cases e) λqs e=>by cases e
   have dkB:Dk (wo F (wo A.p_lam H6)) d (0+3+2000+128):=by
    obtain ⟨x,y,z,e,r⟩:=dk6;exact ⟨x,y,z,toB e (λqs e=>by cases e) (λqs e=>by cases e),r⟩
   have sB6:Same (wo F (wo A.p_lam H6)) H6:=wo_same.trans wo_same;generalize wo F (wo A.p_lam H6)=B at dnW hBP hBN hBD hBS hBZ hBT dkB sB6;have hal:acc.length=ps.length:=by rw [dnW.length,List.length_map]
   have hpo:∀ p∈ps,POk p:=λp h=>⟨Nat.le_trans (hpok p h).2.2 (by decide),λq hq=>((hpok p h).1 q hq).ok⟩;clear toB hD6 hS6 hZ6 hP6 dk6 dk5 dk4 dk2 dk1 hd5 hd4 hd2 hd1 hD5 hS5 hZ5 hPP hZ4 hS4 hDl hZ2 hS2 hZ1 hZ0 la5 la4 la2 la1 la0 s6 s5 s4 s2 s1 dn dnd fr hne hPT hD hSV hd hF htb4 htb5 htb6;have huw:zs≠[]->∀ z∈zs,∀ w∈Txt.split z " ",w∈us:=λh z hz w hw=>(wA h w).mpr ⟨z,hz,hw⟩;refine ⟨_,rfl,D,rfl,⟨_,.of (sB6 _ _ hBD)⟩,λO hO=>?_⟩;refine comp_list (K:=K) (xs:=zs.map V.str) (λj acc2 σ H7=>(∃ u,σ=[u,some (.ref F)])/\Same H6 H7/\acc2=((zs.take j).map (rnL f)).map V.str) upd_same ⟨⟨_,rfl⟩,Same.new hO,rfl⟩ (λj acc2 σ H7 _ _ q=>.of ((sB6.trans q.2.1) _ _ hBD)) (λj y acc2 σ H7 hy hOx q=>?_) (λacc2 σ H7 hO7 q=>?_)
   ·obtain ⟨q0,s7,rfl⟩:=q;apply ex_1 q0;clear q0;intro u;obtain ⟨z,hz,rfl⟩:=strs_at hy;have hzm:=List.mem_of_getElem? hz;obtain ⟨ws,hln⟩:=hls z hzm;have hsz:=(hln.ok (by decide)).2;have hzne:zs≠[]:=λe=>by rw [e] at hzm;cases hzm
    refine compY ⟨rfl,_,rfl,rfl,z," ",rfl,rfl,(by decide),Nat.le_trans (Nat.add_le_add_right hsz 2) (by decide),λL hL=>⟨L,rfl,⟨_,.of upd_same⟩,λI hI=>?_⟩⟩;rw [hln.split] at hI ⊢;have sL:Same H7 (upd H7 L (.lst (ws.map V.str))):=Same.new hL;have hLL:(upd H7 L (.lst (ws.map V.str))) L=some (.lst (ws.map V.str)):=upd_same;generalize upd H7 L (.lst (ws.map V.str))=H8 at sL hLL hI ⊢;have hO8:=sL _ _ hOx;have hF8:=sL _ _ (s7 _ _ hF6);have hwus:∀ w∈ws,w∈us:=λw hw=>huw hzne z hzm w (by rwa [hln.split]);refine comp_list (K:=K) (xs:=ws.map V.str) (λn acc3 σ2 H9=>(∃ u,σ2=[u,some (.ref F)])/\Same H8 H9/\acc3=((ws.take n).map f).map V.str) upd_same ⟨⟨_,rfl⟩,Same.new hI,rfl⟩ (λn acc3 σ2 H9 _ _ q=>.of (q.2.1 _ _ hLL)) (λn y acc3 σ2 H9 hy hIx q=>?_) (λacc3 σ2 H9 hI9 q=>?_)
    ·obtain ⟨q0,s9,rfl⟩:=q;apply ex_1 q0;clear q0;intro u;obtain ⟨w',hw',rfl⟩:=strs_at hy;have hnl:=ge_len hw';have hwl:=hln.le;refine compY ⟨_,rfl,_,rfl,F,.str (f w'),rfl,.inl ⟨_,Sum.inr w',.of (s9 _ _ hF8),rfl,(val_nmK (hwus w' (List.mem_of_getElem? hw'))).symm⟩,_,hIx,small (by rw [List.length_map,List.length_map,List.length_take];lia),_,upd_same,⟨_,rfl⟩,snap_upd hI s9,?_⟩;rw [List.take_add_one,hw',List.map_append,List.map_append];rfl
    ·obtain ⟨_,s9,rfl⟩:=q;rw [List.length_map,List.take_of_length_le (Nat.le_refl _)] at hI9;have hO9:=s9 _ _ hO8;refine ⟨_,I,ws.map f,rfl,rfl,.of hI9,join_fits (m:=6) (λy hy=>?_) ?_,_,hO9,small (by rw [List.length_map,List.length_map,List.length_take];lia),_,upd_same,⟨_,rfl⟩,snap_upd hO (s7.trans (sL.trans s9)),?_⟩
     ·obtain ⟨w',hw',rfl⟩:=List.mem_map.mp hy;exact (nok.ok w' (hwus w' hw')).len
     ·have:((" " : Str)).length=1:=rfl;have:=hln.le;rw [List.length_map];lia
     ·rw [List.take_add_one,hz,List.map_append,List.map_append];show _=_++[V.str (Txt.join " " ((Txt.split z " ").map f))];rw [hln.split]
   ·obtain ⟨_,s7,rfl⟩:=q;rw [List.length_map,List.take_of_length_le (Nat.le_refl _)] at hO7;have hF7:=s7 _ _ hF6;have sB7:=sB6.trans s7;have la7:LamOk A.p_lam H7:=lam_same la6 s7;have hBO:B O=none:=sB6.free hO;have hdO:d≠O:=(dkB.same sB6).ne hO;clear s7 sB6 la6 hF6 hO;have hww:∀ w∈us,zs≠[]->WOk w:=λw hw h=>by
     obtain ⟨z,hz,hm⟩:=(wA h w).mp hw;obtain ⟨ws,hln⟩:=hls z hz;rw [hln.split] at hm;exact hln.wd w hm
    have hkw:∀ w∈us,w≠Str.empty->kindT (f w)=kindT w:=λw hw h0=>(nok.kind w hw).trans (lawKind_eq (hww w hw λe=>h0 (wB e w hw)).ne);refine ⟨_,rfl,F,_,rfl,hF7,λfo L hL=>?_⟩;have hFO:O≠F:=λe=>by rw [e,hF7] at hO7;cases hO7
    have laz:LamOk A.p_lam (upd H7 F (.frz fo (.dK (nmK f us)))):=lam_pick' la7 hF7;have sBz:Same B (upd H7 F (.frz fo (.dK (nmK f us)))):=snap_upd hBN sB7;have hFz:(upd H7 F (.frz fo (.dK (nmK f us)))) F=some (.frz fo (.dK (nmK f us))):=upd_same;have hOz:=(upd_ne (H:=H7) (o:=.frz fo (.dK (nmK f us))) hFO).trans hO7;generalize upd H7 F (.frz fo (.dK (nmK f us)))=Hz at laz sBz hFz hOz hL ⊢;clear sB7 la7 hF7 hO7;refine comp_keys (kvs:=nmK f us) (λj acc2 σ H8=>(∃ u,σ=[u,some (.ref F)])/\Same Hz H8/\acc2=[]) upd_same ⟨⟨_,rfl⟩,Same.new hL,rfl⟩ (λj acc2 σ H8 _ q=>q.2.1 _ _ hFz) (λj ky v acc2 σ H8 hx hLx q=>?_) (λacc2 σ H8 hL8 q=>?_)
    ·obtain ⟨q0,s8,rfl⟩:=q;apply ex_1 q0;clear q0;intro u;obtain ⟨w,hw,ew⟩:=List.mem_map.mp (List.mem_of_getElem? hx);injection ew with ek ev;subst ek ev;refine ⟨_,rfl,rfl,_,rfl,?_⟩;by_cases h0:w=Str.empty
     ·subst h0;exact iteF (iteF ⟨_,hLx,⟨_,rfl⟩,s8,rfl⟩)
     ·rw [show (!decide (kV (Sum.inr w)=V.str ""))=true by
       rw [decide_eq_false (λe=>h0 (by injection e))];rfl]
      refine iteT ⟨_,rfl,_,rfl,F,.str (f w),rfl,.inl ⟨_,Sum.inr w,.inr ⟨_,s8 _ _ hFz⟩,rfl,(val_nmK hw).symm⟩,_,rfl,Nat.le_trans (nok.ok w hw).len (by decide),_,rfl,_,rfl,(wE w hw).1,rfl,_,rfl,?_⟩;rw [hkw w hw h0,decide_eq_true rfl];exact iteF ⟨_,hLx,⟨_,rfl⟩,s8,rfl⟩
    obtain ⟨_,s8,rfl⟩:=q;have la8:=lam_same laz s8;have sB8:=sBz.trans s8;have hF8:=s8 _ _ hFz;have hO8:=s8 _ _ hOz;clear laz s8 sBz hFz hOz hL;refine ⟨Nat.zero_le _,λN hN=>?_⟩;have sN:=Same.new (o:=.lst []) hN;refine ⟨.list (([]:List (List Pt)).map patD),.list (([]:List (List Pt)).map patD),.lst (.of (sN _ _ hL8)) .nil,.lst (.of upd_same) .nil,dep_pats [],_,rfl,?_⟩;rw [pats_refl];refine iteF ?_;have la9:=lam_same la8 sN;have sB9:=sB8.trans sN;have hF9:=sN _ _ hF8;have hO9:=sN _ _ hO8;generalize upd H8 N (.lst [])=H9 at la9 sB9 hF9 hO9 ⊢;clear la8 sB8 hF8 hO8 hL8 sN hN;have hfo:∀ w∈us,PyData.strOk (f w)=true:=λw hw=>(nok.ok w hw).ok;have hpw:∀ p∈ps,∀ w,Pt.word w∈p->w∈us:=λp hp w hw=>by
     obtain ⟨ws,hm,hww'⟩:=gth_word rok (hps.mem_iff.mp hp) hw;obtain ⟨z,hz,rfl⟩:=List.mem_map.mp hm;have hz':=(mem_ded.mp (hperm.mem_iff.mp hz)).resolve_left (by simp);exact huw (List.ne_nil_of_mem hz') z hz' w hww'
    have hT9:=sB9 _ _ hBT;refine ⟨_,rfl,PT,rfl,⟨_,.of hT9⟩,λC hC=>?_⟩;have sC:=Same.new (o:=.lst []) hC;refine comp_list (K:=K) (xs:=acc) (λj acc2 σ H10=>(∃ u,σ=[u,some (.ref F)])/\Same H9 H10/\Dens K (wo C H10) acc2 ((ps.take j).map (λp=>patD (p.map (Pt.ren f))))) upd_same ⟨⟨_,rfl⟩,sC,.nil⟩ (λj acc2 σ H10 _ _ q=>.of (q.2.1 _ _ hT9)) (λj x acc2 σ H10 hx hCx q=>?_) (λacc2 σ H10 hC10 q=>?_)
    ·obtain ⟨q0,s10,dn2⟩:=q;apply ex_1 q0;clear q0;intro u;obtain ⟨p,hpj,hdp⟩:=dens_pat (dnW.same wo_same) hx;have hpm:=List.mem_of_getElem? hpj;have hj:=ge_len hpj;have hal2:acc2.length<=64:=by rw [dn2.length,List.length_map,List.length_take];lia
     refine compY ⟨_,rfl,_,rfl,x,F,p,us,f,rfl,hdp.same (sB9.trans s10),hpo p hpm,.inr ⟨_,s10 _ _ hF9⟩,hfo,hpw p hpm,λI acc3 H14 hI s14 hI14 dn3=>?_⟩;have hC14:=s14 _ _ hCx;have hIC:I≠C:=(ne_of_none hCx hI).symm;refine ⟨_,hC14,small (by lia),_,upd_same,⟨_,rfl⟩,snap_upd hC (s10.trans s14),?_⟩;rw [wo_upd,List.take_add_one,hpj,List.map_append];exact (dn2.same (wo_mono s14)).append (.cons (.lst (xs:=acc3) (.of (by rw [wo_at hIC];exact hI14)) (dn3.same (lim_wo hCx))) .nil)
    obtain ⟨_,s10,dnC⟩:=q;rw [hal,List.take_of_length_le (Nat.le_refl _)] at dnC;have la10:=lam_same la9 s10;have sB10:=sB9.trans s10;have hO10:=s10 _ _ hO9;have hBC:B C=none:=sB9.free hC;have hcl:acc2.length=ps.length:=by rw [dnC.length,List.length_map]
    have dnC':Dens K H10 acc2 ((ps.map (List.map (Pt.ren f))).map patD):=by rw [List.map_map];exact dnC.same wo_same
    have hpr:∀ p∈ps.map (List.map (Pt.ren f)),POk p:=λp hp=>by
     obtain ⟨p,hm,rfl⟩:=List.mem_map.mp hp;refine ⟨by rw [List.length_map];exact (hpo p hm).1,λq hq=>?_⟩;obtain ⟨q,hqm,rfl⟩:=List.mem_map.mp hq;cases q with
     | word w=>exact ⟨Nat.le_trans (nok.ok w (hpw p hm w hqm)).len (by decide),hfo w (hpw p hm w hqm)⟩
     | hole m=>exact (hpo p hm).2 _ hqm
    clear sC la9 sB9 hF9 hO9 hC hT9 dnC s10;refine ⟨C,acc2,ps.map (List.map (Pt.ren f)),rfl,.of hC10,by lia,dnC',hpr,λDU accD H11 du hDU s11 hDU11 hdp hdo frD nsD dnD=>?_⟩;obtain ⟨vs,rn,inw⟩:∃ vs,RnOk vs f/\InW vs zs:=by
     cases hzc:zs with
     | nil=>exact ⟨[],⟨λw hw=>(nomatch hw),λw hw=>(nomatch hw),λw hw=>(nomatch hw)⟩,λz hz=>(nomatch hz)⟩
     | cons z0 zr=>
      have hne:zs≠[]:=by rw [hzc];exact List.cons_ne_nil _ _
      refine ⟨us,⟨nok.inj,nok.ok,λw hw=>(nok.kind w hw).trans (lawKind_eq (hww w hw hne).ne)⟩,λz hz=>?_⟩;rw [<-hzc] at hz;obtain ⟨ws,hln⟩:=hls z hz;exact ⟨ws,hln,λw hw=>huw hne z hz w (by rwa [hln.split])⟩
    have la11:=lam_same la10 s11;have hdU:d≠DU:=(dkB.same sB10).ne hDU;have sB11:=sB10.trans s11;have hO11:=s11 _ _ hO10;obtain ⟨tb11,htb11⟩:=lam_tbl la11;obtain ⟨zd,hBd⟩:=id (dkB.lst);have dnD2:Dens K (wo d (wo A.p_lam H11)) accD (du.map patD):=by
     have a:Dens K (wo d H11) accD (du.map patD):=dnD.same (lim_wo (sB10 _ _ hBd));have b:(wo d H11) A.p_lam=some (.tbl tb11):=by rwa [wo_at hPd]
     exact (dens_tbl b a).same (same_wo (by rw [wo_at hPd.symm];exact wo_self) (wo_mono wo_same))
    have sBP:Same B (wo A.p_lam H11):=same_wo hBP sB11;have hO12:(wo A.p_lam H11) O=_:=(wo_at (tbl_ne htb11 hO11 λqs e=>by cases e)).trans hO11;have hU12:(wo A.p_lam H11) DU=_:=(wo_at (tbl_ne htb11 hDU11 λqs e=>by cases e)).trans hDU11;have hD12:=sBP _ _ hBD;have hS12:=sBP _ _ hBS;have hZ12:=sBP _ _ hBZ;have hT12:=sBP _ _ hBT;have hd12:=sBP _ _ hBd;have dk12:=dkB.same sBP;have dnW2:=dnW.same (wo_mono (D:=d) sBP);have sP:Same (wo A.p_lam H11) H11:=wo_same;have hP2:(wo A.p_lam H11) A.p_lam=none:=wo_self;have hul:du.length=ps.length:=by rw [hdp.length_eq,List.length_map]
    have hal3:accD.length=du.length:=by rw [dnD.length,List.length_map]
    have hdpo:∀ p∈du,POk p:=λp hp=>hpr p (hdp.mem_iff.mp hp);clear dnD hDU hDU11 s11 frD nsD hC10 dnC' hpr hcl hBC la10 sB10 hO10 sB11 hO11 htb11 hBO hBD hBS hBZ hBT hBd dkB dnW hBP hBN hkw hww hpw hfo huw nok wA wB wE und ul tb6 hdF sBP;generalize wo A.p_lam H11=W at dnD2 hO12 hU12 hD12 hS12 hZ12 hT12 hd12 dk12 dnW2 sP hP2;have hlo:=InW.lines rn inw;refine ⟨_,rfl,_,rfl,O,SV,zs.map (rnL f),sv,lv,rfl,.of (sP _ _ hO12),by rw [List.length_map];lia,hlo,.of (sP _ _ hS12),la11,λG ms2 acc4 H12 ps2 hpm2 hup2 hG s12 la12 hGG hps2 hord2 hpok2 hpl2 fr2 hne2 dn2=>?_⟩;have sW12:Same W H12:=(same_wo hP2 sP).trans s12;have e2:ps2=du:=kord_unique (hps2.trans ((rn_gth rn inw hperm hpm2).trans ((hps.map _).symm.trans hdp.symm))) hord2 hdo;subst e2;refine ⟨_,rfl,.list (ps2.map patD),.list (ps2.map patD),.lst (.of hGG) (dn2.same lim_same),.lst (.of (sW12 _ _ hU12)) (dnD2.same (wo_same.trans sW12)),dep_pats _,_,rfl,?_⟩;rw [pats_refl];refine iteF ?_;clear dn2 fr2 hne2 hGG s12 hG la11 hord2 hpok2;have la12':LamOk A.p_lam H12:=la12;clear hup2 hps2 hpm2 hpl2 sP hlo la12;have hls20:∀ z∈zs.take ((20:Int).toNat),∃ ws,LnOk 12 z ws:=λz hz=>hls z (List.mem_of_mem_take hz);have hlo20:∀ z∈(zs.take ((20:Int).toNat)).map (rnL f),∃ ws,LnOk 12 z ws:=InW.lines rn (inw.take _);have l20:(zs.take ((20:Int).toNat)).length<64:=by rw [List.length_take];lia
    apply ways (λH=>Same W H/\LamOk A.p_lam H)
    ·intro kk;refine ⟨_,rfl,Nat.zero_le _,λN hN=>⟨.list (zs.map PyData.str),.list (([]:List Str).map PyData.str),.lst (.of ((sW12.trans (Same.new hN)) _ _ hD12)) (dens_strs λz hz=>let ⟨ws,hln⟩:=hls z hz;(hln.ok (by decide)).1),.lst (.of upd_same) .nil,depStrs5 _,_,rfl,?_⟩⟩;have sW13:=sW12.trans (Same.new (o:=.lst []) hN);have la13:LamOk A.p_lam (upd H12 N (.lst [])):=lam_same la12' (Same.new hN);generalize upd H12 N (.lst [])=H13 at sW13 la13 ⊢;generalize (!PyData.eqv _ _)=bb;cases bb with
     | false=>exact iteF (iteF (kk H13 ⟨sW13,la13⟩))
     | true=>
      refine iteT ⟨_,rfl,20,rfl,D,_,rfl,.of (sW13 _ _ hD12),λS1 hS1=>?_⟩;rw [cut_take (by decide),<-List.map_take];have s1:Same H13 (upd H13 S1 (.lst ((zs.take ((20:Int).toNat)).map V.str))):=Same.new hS1;have hSS1:(upd H13 S1 (.lst ((zs.take ((20:Int).toNat)).map V.str))) S1=some (.lst ((zs.take ((20:Int).toNat)).map V.str)):=upd_same;generalize upd H13 S1 (.lst ((zs.take ((20:Int).toNat)).map V.str))=H14 at s1 hSS1 ⊢;have sW14:=sW13.trans s1;refine ⟨_,rfl,S1,SV,_,sv,lv,rfl,.of hSS1,l20,hls20,.of (sW14 _ _ hS12),lam_same la13 s1,λM1 H15 hM1 s15 la15 hMM1=>?_⟩;have sW15:Same W H15:=(same_wo hP2 sW14).trans s15;refine ⟨_,rfl,20,rfl,O,_,rfl,.of (sW15 _ _ hO12),λS2 hS2=>?_⟩;rw [cut_take (by decide),<-List.map_take,<-List.map_take];have s2:Same H15 (upd H15 S2 (.lst (((zs.take ((20:Int).toNat)).map (rnL f)).map V.str))):=Same.new hS2;have hSS2:(upd H15 S2 (.lst (((zs.take ((20:Int).toNat)).map (rnL f)).map V.str))) S2=some (.lst (((zs.take ((20:Int).toNat)).map (rnL f)).map V.str)):=upd_same;generalize upd H15 S2 (.lst (((zs.take ((20:Int).toNat)).map (rnL f)).map V.str))=H16 at s2 hSS2 ⊢;have sW16:=sW15.trans s2;have la16:=lam_same la15 s2;obtain ⟨tb16,htb16⟩:=lam_tbl la16;have hM16:=s2 _ _ hMM1;refine ⟨_,rfl,S2,SV,_,sv,lv,rfl,.of hSS2,by rw [List.length_map];exact l20,hlo20,.of (sW16 _ _ hS12),la16,λM2 H17 hM2 s17 la17 hMM2=>?_⟩;have hM17:H17 M1=_:=wo_keep s17 htb16 hM16 λqs e=>by cases e
      rw [newsL_ren rn (inw.take _) l20] at hMM2;have dn1:Den K H17 (.ref M1) (.list ((newsL sv lv (zs.take ((20:Int).toNat)) (zs.take ((20:Int).toNat)).length).map nD)):=.lst (.of hM17) dens_nV;refine ⟨_,_,dn1,.lst (.of hMM2) dens_nV,dep_nV _,_,rfl,?_⟩;rw [den_self dn1];exact iteF (kk H17 ⟨(same_wo hP2 sW16).trans s17,la17⟩)
    clear la12' sW12;intro H12 ⟨sW12,la12⟩;refine ⟨_,rfl,D,rfl,⟨_,.of (sW12 _ _ hD12)⟩,λM hM=>?_⟩;refine comp_list (K:=K) (xs:=zs.map V.str) (λj acc2 σ H8=>(∃ u,σ=[u])/\Same H12 H8/\acc2=((zs.take j).filter λz=>decide (((Txt.split z " ").length:Int)=12)).map V.str) upd_same ⟨⟨_,rfl⟩,Same.new hM,rfl⟩ (λj acc2 σ H8 _ _ q=>.of ((sW12.trans q.2.1) _ _ hD12)) (λj y acc2 σ H8 hy hMx q=>?_) (λacc2 σ H8 hM8 q=>?_)
    ·obtain ⟨q0,s8,rfl⟩:=q;apply ex_1 q0;clear q0;intro u;obtain ⟨z,hz,rfl⟩:=strs_at hy;have hj:=ge_len hz;obtain ⟨ws,hln⟩:=hls z (List.mem_of_getElem? hz);have hsz:=(hln.ok (by decide)).2;refine ⟨_,rfl,rfl,z," ",rfl,rfl,(by decide),Nat.le_trans (Nat.add_le_add_right hsz 2) (by decide),λI hI=>?_⟩;have sI:Same H8 (upd H8 I (.lst ((Txt.split z " ").map V.str))):=Same.new hI;have hMI:=sI _ _ hMx;refine ⟨I,_,rfl,.inl (.of upd_same),?_⟩;rw [List.length_map];refine ⟨rfl,_,rfl,?_⟩;have hfl:((zs.take j).filter λz=>decide (((Txt.split z " ").length:Int)=12)).length<=64:=by
      have a:=List.length_filter_le (λz=>decide (((Txt.split z " ").length:Int)=12)) (zs.take j);rw [List.length_take] at a;lia
     have e12:(decide (V.int ((Txt.split z " ").length:Int)=V.int 12))=decide (((Txt.split z " ").length:Int)=12):=by
      rw [decide_eq_decide];exact ⟨λe=>by injection e,λe=>by rw [e]⟩
     rw [e12];cases hb:decide (((Txt.split z " ").length:Int)=12) with
     | true=>
      refine iteT ⟨_,rfl,_,hMI,small (by rw [List.length_map];lia),_,upd_same,⟨_,rfl⟩,snap_upd hM (s8.trans sI),?_⟩;rw [List.take_add_one,hz,List.filter_append,List.map_append];have:(some z).toList.filter (λz=>decide (((Txt.split z " ").length:Int)=12))=[z]:=List.filter_cons_of_pos hb;rw [this];rfl
     | false=>
      refine iteF ⟨_,hMI,⟨_,rfl⟩,s8.trans sI,?_⟩;rw [List.take_add_one,hz,List.filter_append];have:(some z).toList.filter (λz=>decide (((Txt.split z " ").length:Int)=12))=[]:=List.filter_cons_of_neg (by rw [hb];decide);rw [this,List.append_nil]
    obtain ⟨_,s8,rfl⟩:=q;rw [List.length_map,List.take_of_length_le (Nat.le_refl _)] at hM8;refine ⟨Nat.zero_le _,λN hN=>?_⟩;have sN:Same H8 (upd H8 N (.lst [])):=Same.new hN;have hstr:∀ z∈zs.filter (λz=>decide (((Txt.split z " ").length:Int)=12)),PyData.strOk z=true:=λz hz=>let ⟨ws,hln⟩:=hls z (List.mem_filter.mp hz).1;(hln.ok (by decide)).1;refine ⟨.list ((zs.filter λz=>decide (((Txt.split z " ").length:Int)=12)).map PyData.str),.list (([]:List Str).map PyData.str),.lst (.of (sN _ _ hM8)) (dens_strs hstr),.lst (.of upd_same) .nil,depStrs5 _,_,rfl,?_⟩;have sW9:=sW12.trans (s8.trans sN);have la9:=lam_same la12 (s8.trans sN);generalize upd H8 N (.lst [])=H9 at sW9 la9 ⊢;clear sN hN hM8 s8 hM hstr sW12 la12;have hz12:∀ ee,PyData.eqv (.list ((zs.filter λz=>decide (((Txt.split z " ").length:Int)=12)).map PyData.str)) (.list (([]:List Str).map PyData.str))=ee->ee=true->∀ z∈zs,∃ ws,LnOk 12 z ws/\ws.length<12:=λee he h1 z hz=>by
     obtain ⟨ws,hln⟩:=hls z hz;refine ⟨ws,hln,?_⟩;have e0:=strs_none (he.trans h1);have hn:¬ ((((Txt.split z " ").length:Int)=12)):=λe=>by
      have:z∈zs.filter (λz=>decide (((Txt.split z " ").length:Int)=12)):=List.mem_filter.mpr ⟨hz,decide_eq_true e⟩;rw [e0] at this;cases this
     rw [hln.split] at hn;have:=hln.le;lia
    generalize hee:PyData.eqv _ _=ee;replace hz12:=hz12 ee hee;clear hee;have toD:∀ {b:Addr}{o:HO},W b=some o->d≠b->(wo d W) b=some o:=λ{b o} e n=>by rw [wo_at n.symm];exact e
    have hVD:=toD hD12 hdD;have hVS:=toD hS12 hdS;have hVZ:=toD hZ12 hdZ;have hVT:=toD hT12 hdPT;have hVU:=toD hU12 hdU;have hVP:(wo d W) A.p_lam=none:=wo_none hP2;have sVW:Same (wo d W) W:=wo_same;have hd9:=sW9 _ _ hd12;have dk9:=dk12.same sW9;have sVc:∀ {H},Same W H->Same (wo d W) (wo d H):=λs=>wo_mono s;have sV9:=sVW.trans sW9;have sV9d:=sVc sW9;generalize wo d W=V0 at dnD2 dnW2 hVD hVS hVZ hVT hVU hVP sVW sVc sV9 sV9d;clear toD hD12 hS12 hZ12 hT12 hU12 hO12 hP2 sVW sVc sW9 dk12 hdO hdU hdPT hd12 inw rn;refine ite_cut (λσ H=>(∃ u9 u10,σ=[u0,some (.int c),some (.ref d),some (.ref SV),some (.ref D),some (.ref PT),some (.ref F),some (.ref O),some (.ref DU),u9,u10])/\Same V0 H/\LamOk A.p_lam H) ⟨⟨_,_,rfl⟩,sV9,la9⟩ (λkk=>?_) (λσ H9 pre=>?_)
    ·have hzk:=hz12 kk;intro kk;refine ⟨_,rfl,d,_,rfl,dk9,by decide,λw0 H10 s10 dk10 hw0=>?_⟩;have sV10:=sV9d.trans s10;have la10:=lam_pick la9 hd9 s10;refine ⟨_,rfl,(by show 2<=sizeLine;decide),λt ht=>?_⟩;have hVt0:V0 t=none:=sV10.free ht;have st:Same H10 (upd H10 t (.tup [.str "word",.str w0])):=Same.new ht;have sVX:Same (upd V0 t (.tup [.str "word",.str w0])) (upd H10 t (.tup [.str "word",.str w0])):=same_put (sV10.trans st) upd_same;have laX:=lam_same la10 st;have s0:Same V0 (upd V0 t (.tup [.str "word",.str w0])):=Same.new hVt0;have dnV:=dnW2.same s0;have hVD:=s0 _ _ hVD;have hVS:=s0 _ _ hVS;have hVT:=s0 _ _ hVT;have hVt:(upd V0 t (.tup [.str "word",.str w0])) t=_:=upd_same;have hVP:(upd V0 t (.tup [.str "word",.str w0])) A.p_lam=none:=by
      obtain ⟨tb,e⟩:=lam_tbl la10;rw [upd_ne (ne_of_none e ht)];exact hVP
     generalize upd V0 t (.tup [.str "word",.str w0])=V2 at sVX s0 dnV hVD hVS hVT hVt hVP;generalize upd H10 t (.tup [.str "word",.str w0])=HX at sVX laX ⊢;clear st ht hVt0 la10 sV10 s10 dk10 sV9d sV9 la9 hd9 dk9 hz12;have hz12:=hzk;have hzl:∀ z∈zs,z.length<=84:=λz hz=>let ⟨ws,hln⟩:=hls z hz;(hln.ok (by decide)).2;have hw6:=hw0.len;have l1:((" " : Str)).length=1:=rfl;have big:100<=sizeLine:=by decide
     have lq1:w0.length+((" " : Str)).length<=sizeLine:=by lia
     have lq2:∀ z∈zs,(w0 ++ " ").length+z.length<=sizeLine:=λz hz=>by have:=hzl z hz;rw [Str.length_append];lia
     have lq3:∀ z∈zs,z.length+((" " : Str)).length<=sizeLine:=λz hz=>by have:=hzl z hz;lia
     have lq4:∀ z∈zs,(z ++ " ").length+w0.length<=sizeLine:=λz hz=>by have:=hzl z hz;rw [Str.length_append];lia
     have ahdOk:∀ z∈zs.map (ahd w0),∃ ws,LnOk 12 z ws:=λz hz=>by
      obtain ⟨z,hm,rfl⟩:=List.mem_map.mp hz;obtain ⟨ws,a,b⟩:=hz12 z hm;exact ⟨_,ahd_ln hw0 a b⟩
     have bhdOk:∀ z∈zs.map (bhd w0),∃ ws,LnOk 12 z ws:=λz hz=>by
      obtain ⟨z,hm,rfl⟩:=List.mem_map.mp hz;obtain ⟨ws,a,b⟩:=hz12 z hm;exact ⟨_,bhd_ln hw0 a b⟩
     have hwp:(Pt.word w0).ok:=⟨Nat.le_trans hw6 (by decide),hw0.ok⟩;have ahdP:∀ q∈ps.map (λp=>Pt.word w0::p),POk q:=λq hq=>by
      obtain ⟨p,hm,rfl⟩:=List.mem_map.mp hq;exact ⟨Nat.le_trans (Nat.succ_le_succ (hpok p hm).2.2) (by decide),λx hx=>(List.mem_cons.mp hx).elim (λe=>e ▸ hwp) ((hpo p hm).2 x)⟩
     have bhdP:∀ q∈ps.map (λp=>p++[Pt.word w0]),POk q:=λq hq=>by
      obtain ⟨p,hm,rfl⟩:=List.mem_map.mp hq;exact ⟨by rw [List.length_append];exact Nat.le_trans (Nat.succ_le_succ (hpok p hm).2.2) (by decide),λx hx=>(List.mem_append.mp hx).elim ((hpo p hm).2 x) λe=>List.mem_singleton.mp e ▸ hwp⟩
     refine ⟨_,rfl,D,rfl,⟨_,.of (sVX _ _ hVD)⟩,λX hX=>?_⟩;refine comp_list (K:=K) (xs:=zs.map V.str) (λj acc2 σ H8=>(∃ u,σ=[u,some (.str w0)])/\Same HX H8/\acc2=((zs.take j).map (ahd w0)).map V.str) upd_same ⟨⟨_,rfl⟩,Same.new hX,rfl⟩ (λj acc2 σ H8 _ _ q=>.of ((sVX.trans q.2.1) _ _ hVD)) (λj y acc2 σ H8 hy hXx q=>?_) (λacc2 σ HY hXX q=>?_)
     ·obtain ⟨q0,s8,rfl⟩:=q;apply ex_1 q0;clear q0;intro u;obtain ⟨z,hz,rfl⟩:=strs_at hy;have hj:=ge_len hz;have hzm:=List.mem_of_getElem? hz;refine compY ⟨_,rfl,_,_,rfl,rfl,lq1,_,rfl,_,_,rfl,rfl,lq2 z hzm,_,hXx,small (by rw [List.length_map,List.length_map,List.length_take];lia),_,upd_same,⟨_,rfl⟩,snap_upd hX s8,?_⟩;rw [List.take_add_one,hz,List.map_append,List.map_append];rfl
     obtain ⟨_,sY,rfl⟩:=q;rw [List.length_map,List.take_of_length_le (Nat.le_refl _)] at hXX;have sVY:=sVX.trans sY;have laY:=lam_same laX sY;clear sY hX sVX laX;refine ⟨_,rfl,X,SV,zs.map (ahd w0),sv,lv,rfl,.of hXX,by rw [List.length_map];lia,ahdOk,.of (sVY _ _ hVS),laY,λG ms3 acc5 HZ ps3 hpm3 hup3 hG sZ laZ hGZ hps3 hord3 hpok3 hpl3 fr3 hne3 dn3=>?_⟩;have sVZ:Same V2 HZ:=(same_wo hVP sVY).trans sZ;have dnG:Dens K HZ acc5 (ps3.map patD):=dn3.same lim_same;clear dn3 fr3 hne3 sZ laY sVY hG hXX hup3;refine ⟨_,rfl,PT,rfl,⟨_,.of (sVZ _ _ hVT)⟩,λC hC=>?_⟩;have sVX:=sVZ;refine comp_list (K:=K) (xs:=acc) (λj acc2 σ H8=>(∃ u,σ=[u,some (.ref t)])/\Same HZ H8/\Dens K (wo C H8) acc2 ((ps.take j).map (λp=>patD (Pt.word w0::p)))) upd_same ⟨⟨_,rfl⟩,Same.new hC,.nil⟩ (λj acc2 σ H8 _ _ q=>.of ((sVX.trans q.2.1) _ _ hVT)) (λj x acc2 σ H8 hx hCx q=>?_) (λacc2 σ HU hCC q=>?_)
     ·obtain ⟨q0,s8,dn2⟩:=q;apply ex_1 q0;clear q0;intro u;obtain ⟨p,hpj,hdp'⟩:=dens_pat dnV hx;obtain ⟨a,xs,rfl,hqa,hdx⟩:=den_pat hdp';have hpm:=List.mem_of_getElem? hpj;have hj:=ge_len hpj;have hxl:xs.length=p.length:=by rw [hdx.length,List.length_map]
      have h12p:p.length<=12:=(hpok p hpm).2.2;have hal2:acc2.length<=64:=by rw [dn2.length,List.length_map,List.length_take];lia
      refine compY ⟨_,rfl,(by show 1<=sizeLine;decide),λL hL=>⟨_,rfl,L,a,_,xs,rfl,rfl,.of upd_same,((s8.trans (Same.new hL)).seq (sVX.seq hqa)),?_,λI hI=>?_⟩⟩
      ·show 1+xs.length<=sizeLine;rw [hxl];exact Nat.le_trans (Nat.add_le_add_left h12p 1) (by decide)
      have sI:Same H8 (upd (upd H8 L (.lst [.ref t])) I (.lst (.ref t::xs))):=(Same.new hL).trans (Same.new hI);have hII:(upd (upd H8 L (.lst [.ref t])) I (.lst (.ref t::xs))) I=some (.lst (.ref t::xs)):=upd_same;have hIC:I≠C:=(ne_of_none (Same.new (o:=.lst [.ref t]) hL _ _ hCx) hI).symm;refine ⟨_,sI _ _ hCx,small (by lia),_,upd_same,⟨_,rfl⟩,snap_upd hC (s8.trans sI),?_⟩;rw [wo_upd,List.take_add_one,hpj,List.map_append];have hVC:V2 C=none:=sVX.free hC;have hsI:Same V2 (wo C (upd (upd H8 L (.lst [.ref t])) I (.lst (.ref t::xs)))):=same_wo hVC (sVX.trans (s8.trans sI));have hdt:Den K (wo C (upd (upd H8 L (.lst [.ref t])) I (.lst (.ref t::xs)))) (.ref t) (Pt.word w0).dat:=.tup (.of (hsI _ _ hVt)) (.cons (.str (by decide +kernel)) (.cons (.str hw0.ok) .nil));refine (dn2.same (wo_mono sI)).append (.cons (.lst (xs:=(.ref t::xs)) (.of (by rw [wo_at hIC];exact hII)) ?_) .nil);rw [List.map_cons];exact .cons hdt (hdx.same hsI)
     obtain ⟨_,sU,dnC⟩:=q;rw [hal,List.take_of_length_le (Nat.le_refl _)] at dnC;have laU:=lam_same laZ sU;have sVU:=sVZ.trans sU;have hcl:acc2.length=ps.length:=by rw [dnC.length,List.length_map]
     have dnC':Dens K HU acc2 ((ps.map λp=>(Pt.word w0::p)).map patD):=by rw [List.map_map];exact dnC.same wo_same
     refine ⟨C,acc2,ps.map λp=>(Pt.word w0::p),rfl,.of hCC,by lia,dnC',ahdP,λDO accO HV1 lo hDO sV hDV hlo hlo2 _ _ dnO=>?_⟩;have e3:ps3=lo:=kord_unique (hps3.trans ((ahd_gth hw0 hz12 hperm hpm3).trans ((hps.map _).symm.trans hlo.symm))) hord3 hlo2;subst e3;refine ⟨.list (ps3.map patD),.list (ps3.map patD),.lst (.of ((sU.trans sV) _ _ hGZ)) (dnG.same (sU.trans sV)),.lst (.of hDV) (dnO.same lim_same),dep_pats _,_,rfl,?_⟩;rw [pats_refl];refine iteF ?_;have sVX:=sVU.trans sV;have laX:=lam_same laU sV;clear dnO hDV sV hDO dnC dnC' hCC sU hcl laU sVU hC laZ dnG hGZ sVZ hpl3 hpok3 hps3 hord3 hpm3 hlo hlo2;refine ⟨_,rfl,D,rfl,⟨_,.of (sVX _ _ hVD)⟩,λX hX=>?_⟩;refine comp_list (K:=K) (xs:=zs.map V.str) (λj acc2 σ H8=>(∃ u,σ=[u,some (.str w0)])/\Same HV1 H8/\acc2=((zs.take j).map (bhd w0)).map V.str) upd_same ⟨⟨_,rfl⟩,Same.new hX,rfl⟩ (λj acc2 σ H8 _ _ q=>.of ((sVX.trans q.2.1) _ _ hVD)) (λj y acc2 σ H8 hy hXx q=>?_) (λacc2 σ HY hXX q=>?_)
     ·obtain ⟨q0,s8,rfl⟩:=q;apply ex_1 q0;clear q0;intro u;obtain ⟨z,hz,rfl⟩:=strs_at hy;have hj:=ge_len hz;have hzm:=List.mem_of_getElem? hz;refine compY ⟨_,rfl,_,_,rfl,rfl,lq3 z hzm,_,rfl,_,_,rfl,rfl,lq4 z hzm,_,hXx,small (by rw [List.length_map,List.length_map,List.length_take];lia),_,upd_same,⟨_,rfl⟩,snap_upd hX s8,?_⟩;rw [List.take_add_one,hz,List.map_append,List.map_append];rfl
     obtain ⟨_,sY,rfl⟩:=q;rw [List.length_map,List.take_of_length_le (Nat.le_refl _)] at hXX;have sVY:=sVX.trans sY;have laY:=lam_same laX sY;clear sY hX sVX laX;refine ⟨_,rfl,X,SV,zs.map (bhd w0),sv,lv,rfl,.of hXX,by rw [List.length_map];lia,bhdOk,.of (sVY _ _ hVS),laY,λG ms3 acc5 HZ ps3 hpm3 hup3 hG sZ laZ hGZ hps3 hord3 hpok3 hpl3 fr3 hne3 dn3=>?_⟩;have sVZ:Same V2 HZ:=(same_wo hVP sVY).trans sZ;have dnG:Dens K HZ acc5 (ps3.map patD):=dn3.same lim_same;clear dn3 fr3 hne3 sZ laY sVY hG hXX hup3;refine ⟨_,rfl,PT,rfl,⟨_,.of (sVZ _ _ hVT)⟩,λC hC=>?_⟩;have sVX:=sVZ;refine comp_list (K:=K) (xs:=acc) (λj acc2 σ H8=>(∃ u,σ=[u,some (.ref t)])/\Same HZ H8/\Dens K (wo C H8) acc2 ((ps.take j).map (λp=>patD (p++[Pt.word w0])))) upd_same ⟨⟨_,rfl⟩,Same.new hC,.nil⟩ (λj acc2 σ H8 _ _ q=>.of ((sVX.trans q.2.1) _ _ hVT)) (λj x acc2 σ H8 hx hCx q=>?_) (λacc2 σ HU hCC q=>?_)
     ·obtain ⟨q0,s8,dn2⟩:=q;apply ex_1 q0;clear q0;intro u;obtain ⟨p,hpj,hdp'⟩:=dens_pat dnV hx;obtain ⟨a,xs,rfl,hqa,hdx⟩:=den_pat hdp';have hpm:=List.mem_of_getElem? hpj;have hj:=ge_len hpj;have hxl:xs.length=p.length:=by rw [hdx.length,List.length_map]
      have h12p:p.length<=12:=(hpok p hpm).2.2;have hal2:acc2.length<=64:=by rw [dn2.length,List.length_map,List.length_take];lia
      refine compY ⟨_,rfl,_,rfl,(by show 1<=sizeLine;decide),λL hL=>⟨a,L,xs,_,rfl,rfl,((s8.trans (Same.new hL)).seq (sVX.seq hqa)),.of upd_same,?_,λI hI=>?_⟩⟩
      ·show xs.length+1<=sizeLine;rw [hxl];exact Nat.le_trans (Nat.add_le_add_right h12p 1) (by decide)
      have sI:Same H8 (upd (upd H8 L (.lst [.ref t])) I (.lst (xs++[.ref t]))):=(Same.new hL).trans (Same.new hI);have hII:(upd (upd H8 L (.lst [.ref t])) I (.lst (xs++[.ref t]))) I=some (.lst (xs++[.ref t])):=upd_same;have hIC:I≠C:=(ne_of_none (Same.new (o:=.lst [.ref t]) hL _ _ hCx) hI).symm;refine ⟨_,sI _ _ hCx,small (by lia),_,upd_same,⟨_,rfl⟩,snap_upd hC (s8.trans sI),?_⟩;rw [wo_upd,List.take_add_one,hpj,List.map_append];have hVC:V2 C=none:=sVX.free hC;have hsI:Same V2 (wo C (upd (upd H8 L (.lst [.ref t])) I (.lst (xs++[.ref t])))):=same_wo hVC (sVX.trans (s8.trans sI));have hdt:Den K (wo C (upd (upd H8 L (.lst [.ref t])) I (.lst (xs++[.ref t])))) (.ref t) (Pt.word w0).dat:=.tup (.of (hsI _ _ hVt)) (.cons (.str (by decide +kernel)) (.cons (.str hw0.ok) .nil));refine (dn2.same (wo_mono sI)).append (.cons (.lst (xs:=(xs++[.ref t])) (.of (by rw [wo_at hIC];exact hII)) ?_) .nil);rw [List.map_append];exact (hdx.same hsI).append (.cons hdt .nil)
     obtain ⟨_,sU,dnC⟩:=q;rw [hal,List.take_of_length_le (Nat.le_refl _)] at dnC;have laU:=lam_same laZ sU;have sVU:=sVZ.trans sU;have hcl:acc2.length=ps.length:=by rw [dnC.length,List.length_map]
     have dnC':Dens K HU acc2 ((ps.map λp=>(p++[Pt.word w0])).map patD):=by rw [List.map_map];exact dnC.same wo_same
     refine ⟨C,acc2,ps.map λp=>(p++[Pt.word w0]),rfl,.of hCC,by lia,dnC',bhdP,λDO accO HV2 lo hDO sV hDV hlo hlo2 _ _ dnO=>?_⟩;have e3:ps3=lo:=kord_unique (hps3.trans ((bhd_gth hw0 hz12 hperm hpm3).trans ((hps.map _).symm.trans hlo.symm))) hord3 hlo2;subst e3;refine ⟨.list (ps3.map patD),.list (ps3.map patD),.lst (.of ((sU.trans sV) _ _ hGZ)) (dnG.same (sU.trans sV)),.lst (.of hDV) (dnO.same lim_same),dep_pats _,_,rfl,?_⟩;rw [pats_refl];refine iteF ?_;exact kk _ _ ⟨⟨_,_,rfl⟩,s0.trans (sVU.trans sV),lam_same laU sV⟩
    ·obtain ⟨⟨u9,u10,rfl⟩,sV,laV⟩:=pre;clear sV9 sV9d la9 hd9 dk9 hz12;refine ⟨_,rfl,DU,rfl,⟨_,.of (sV _ _ hVU)⟩,λC1 hC1=>loose_comp (.of (sV _ _ hVU)) (dnD2.same sV) hdpo (by lia) hC1 λaL H10 s10 hC10 dn10=>⟨C1,aL,_,rfl,.of hC10,dn10,by rw [List.length_map];lia,λS1 ys1 ms1 hS1 dS1 hm1 hs1=>?_⟩⟩;have sS:=Same.new (o:=.lst ys1) hS1;have hSS:(upd H10 S1 (.lst ys1)) S1=some (.lst ys1):=upd_same;have dS:=dS1.same sS;have sV11:=sV.trans (s10.trans sS);have la11:=lam_same laV (s10.trans sS);generalize upd H10 S1 (.lst ys1)=H11 at hSS dS sV11 la11;clear sS dS1 hS1 dn10 hC10 s10 hC1 sV laV;refine ⟨_,rfl,PT,rfl,⟨_,.of (sV11 _ _ hVT)⟩,λC2 hC2=>loose_comp (.of (sV11 _ _ hVT)) (dnW2.same sV11) hpo (by lia) hC2 λaL2 H12 s12 hC12 dn12=>⟨C2,aL2,_,rfl,.of hC12,dn12,by rw [List.length_map];lia,λS2 ys2 ms2 hS2 dS2 hm2 hs2=>?_⟩⟩;have e:ms1=ms2:=il_unique (hm1.trans (((hdp.map λp=>p.map Pt.loose).trans (by
      rw [List.map_map];refine .of_eq (List.map_congr_left λp _=>?_);show (p.map (Pt.ren f)).map Pt.loose=p.map Pt.loose;rw [List.map_map];exact List.map_congr_left λq _=>ren_loose q)).trans hm2.symm)) hs1 hs2
     subst e;have sT:=s12.trans (Same.new (o:=.lst ys2) hS2);have dA:Den K (upd H12 S2 (.lst ys2)) (.ref S1) (.list (ms1.map ilD)):=.lst (.of (sT _ _ hSS)) (dS.same sT);refine ⟨_,_,dA,.lst (.of upd_same) (dS2.same (Same.new hS2)),dep_il _,_,rfl,?_⟩;rw [den_self dA];refine iteF ⟨⟨_,_,_,_,_,_,_,_,_,_,_,rfl⟩,(sV11.trans sT) _ _ hVZ,lam_same la11 sT⟩
  ·exact k H
end
end K32
namespace K32
open PySem L2 LG
theorem hX1 {s:Shared} (e:hX s=true):PySem.W.xlAt hV [] s=true:=by unfold hX at e;exact (Bool.and_eq_true_iff.mp e).1
theorem hX2 {s:Shared} (e:hX s=true):PySem.W.recOk (PySem.W.RowW.records (PySem.W.OpenRow.toRowW (PySem.W.OpenLaw.row PySem.Challenge.rw_loggather_k32_whole_words_renamed))) s=true:=by unfold hX at e;exact (Bool.and_eq_true_iff.mp e).2
theorem hSn {a b:Bool} (h:a=true) (k:b=true):(a && b)=true:=by rw [h,k];rfl
abbrev hSp0:Program:=PySem.Challenge.rw_loggather_k32_whole_words_renamed.row.prog
theorem hSa:PySem.W.namesResolve hSp0=true:=by kernel_rfl
theorem hSb:PySem.W.noRoadLSs { strict:=!(importedModules hSp0.main.body).all PySem.W.cThrough.contains,foot:=none,bare:=(["vars","dir","locals"]:List Str).filter (PySem.W.readsOut hSp0 hSp0.main.body) } hSp0.main.body=true:=by kernel_rfl
theorem hSc:(PySem.W.namesMeet hSp0 hSp0.main.body λ_ n=>PySem.W.attrL n)=true:=by kernel_rfl
theorem hS:PySem.Challenge.rw_loggather_k32_whole_words_renamed.wellSaid=true:=by
 unfold PySem.W.OpenLaw.wellSaid PySem.W.OpenRow.wellSaid PySem.W.OpenRow.partSaid PySem.W.looksOpen
 repeat' with_reducible refine hSn ?_ ?_
 all_goals first | with_reducible exact hSa | with_reducible exact hSb | with_reducible exact hSc | kernel_rfl
abbrev hFo (i:Nat) (x:Str) (m:Value) (c:Nat):FuncData:=PySem.W.fnOf x x (defArgs (top i)) (defBody (top i)) (defScope (top i)) .none .none .none m none (.ref c) .none
theorem hDf {P:Params}{h:Heap}{mg:Str->Option Value}{i f c:Nat}{x:Str}{m:Value} (X:(hK P).In h) (G:h.Ns mainGlobals mg) (ps:List Str) (l:(hK P).lookup f=some (hFn i x m c)) (d:PySem.W.codeIn (hK P) (.ref c) x=true) (k:PySem.W.keepIn (hK P) (.ref f)=true) (a:PySem.W.nsIn (hK P) mainGlobals x=some (some (.ref f)))
  (b:∀ (kV doc pm:Value) (an:Option Addr) (cdv ct:Value) (us:List Value),us.length=ps.length->bindArgs (PySem.W.fnOf x x (defArgs (top i)) (defBody (top i)) (defScope (top i)) .none kV doc pm an cdv ct) ⟨us,[]⟩=pure (ps.zip us)):DefAt (hK P) mg x (top i) ps f (hFo i x m c):=
 have F:Fun (hK P) x x (top i) f (hFo i x m c):=fun_mk l d k
 ⟨F,F.binds b,PySem.W.mg_of X G a⟩
abbrev hFoD (i:Nat) (x:Str) (m:Value) (c D:Nat):FuncData:=PySem.W.fnOf x x (defArgs (top i)) (defBody (top i)) (defScope (top i)) (.ref D) .none .none m none (.ref c) .none
theorem hDfD {P:Params}{h:Heap}{mg:Str->Option Value}{i f c D:Nat}{x:Str}{m:Value} (X:(hK P).In h) (G:h.Ns mainGlobals mg) (ps:List Str) (l:(hK P).lookup f=some (hFd i x m c D)) (d:PySem.W.codeIn (hK P) (.ref c) x=true) (k:PySem.W.keepIn (hK P) (.ref f)=true) (a:PySem.W.nsIn (hK P) mainGlobals x=some (some (.ref f)))
  (b:Binds (hK P) (hFoD i x m c D) ps []):DefAtD (hK P) mg x (top i) ps f (hFoD i x m c D):=
 ⟨⟨⟨_,_,_,_,_,_,_,_,_,_,rfl,l,d⟩,k⟩,b,PySem.W.mg_of X G a⟩
theorem on1 {C:List Value->Prop} (h:∀ a0,C [a0]):∀ us:List Value,us.length=1->C us
 | [a0],_=>h a0
theorem on2 {C:List Value->Prop} (h:∀ a0 a1,C [a0,a1]):∀ us:List Value,us.length=2->C us
 | [a0,a1],_=>h a0 a1
theorem on3 {C:List Value->Prop} (h:∀ a0 a1 a2,C [a0,a1,a2]):∀ us:List Value,us.length=3->C us
 | [a0,a1,a2],_=>h a0 a1 a2
theorem bind_gathered {P:Params}{s:Shared} (X:(hK P).In s.heap) (us:List Value) (hl:us.length=2):BindsTo s (hFoD 33 "gathered" (.str "loggather.gathering" 347) 184 180) ⟨us,[]⟩ ((["lines","sieve"]:List Str).zip (us++[])):=by
 rw [List.append_nil];exact on2 (C:=λus=>BindsTo s (hFoD 33 "gathered" (.str "loggather.gathering" 347) 184 180) ⟨us,[]⟩ ((["lines","sieve"]:List Str).zip us)) (λa0 a1=>BindsTo.of_defaults rfl (X 180 _ rfl) rfl rfl rfl) us hl
theorem bind_news {P:Params}{s:Shared} (X:(hK P).In s.heap) (us:List Value) (hl:us.length=2):BindsTo s (hFoD 38 "news" (.str "loggather.falling" 412) 207 203) ⟨us,[]⟩ ((["lines","sieve"]:List Str).zip (us++[])):=by
 rw [List.append_nil];exact on2 (C:=λus=>BindsTo s (hFoD 38 "news" (.str "loggather.falling" 412) 207 203) ⟨us,[]⟩ ((["lines","sieve"]:List Str).zip us)) (λa0 a1=>BindsTo.of_defaults rfl (X 203 _ rfl) rfl rfl rfl) us hl
def hA:Ad:=⟨46,hFo 7 "has_only" (.str "loggather.words" 223) 45,53,hFo 8 "is_word" (.str "loggather.words" 223) 52,60,hFo 9 "kind_of" (.str "loggather.words" 223) 59,67,hFo 10 "words_of" (.str "loggather.words" 223) 66,74,hFo 11 "word_key" (.str "loggather.words" 223) 73,82,hFo 14 "is_hole" (.str "loggather.patterns" 267) 81,89,hFo 15 "part_takes" (.str "loggather.patterns" 267) 88,96,hFo 16 "all_taken" (.str "loggather.patterns" 267) 95,103,hFo 17 "fits" (.str "loggather.patterns" 267) 102,110,hFo 18 "kind_of_hole_around" (.str "loggather.patterns" 267) 109,115,hFo 19 "joined_part" (.str "loggather.patterns" 267) 114,120,hFo 20 "joined" (.str "loggather.patterns" 267) 119,127,hFo 21 "part_key" (.str "loggather.patterns" 267) 126,132,hFo 22 "pattern_key" (.str "loggather.patterns" 267) 131,137,hFo 23 "ordered" (.str "loggather.patterns" 267) 136,145,hFo 26 "grouped" (.str "loggather.gathering" 347) 144,150,hFo 27 "words_at" (.str "loggather.gathering" 347) 149,157,hFo 28 "many_unlike_at" (.str "loggather.gathering" 347) 156,162,hFo 29 "is_fit_to_part_at" (.str "loggather.gathering" 347) 161,167,hFo 30 "place_to_part_at" (.str "loggather.gathering" 347) 166,174,hFo 31 "parted" (.str "loggather.gathering" 347) 173,179,hFo 32 "pattern_of_group" (.str "loggather.gathering" 347) 178,185,hFoD 33 "gathered" (.str "loggather.gathering" 347) 184 180,192,hFo 35 "looseness_of_part" (.str "loggather.falling" 412) 191,197,hFo 36 "looseness" (.str "loggather.falling" 412) 196,202,hFo 37 "is_news" (.str "loggather.falling" 412) 201,208,hFoD 38 "news" (.str "loggather.falling" 412) 207 203,215,hFo 40 "_law_deck" (.str "law_loggather_k32_whole_words_renamed" 439) 214,222,hFo 41 "_law_pick" (.str "law_loggather_k32_whole_words_renamed" 439) 221,227,hFo 42 "_law_kind" (.str "law_loggather_k32_whole_words_renamed" 439) 226,232,hFo 43 "_law_word" (.str "law_loggather_k32_whole_words_renamed" 439) 231,237,hFo 44 "_law_line" (.str "law_loggather_k32_whole_words_renamed" 439) 236,242,hFo 45 "_law_lines" (.str "law_loggather_k32_whole_words_renamed" 439) 241,256,hFo 47 "_law_sieve" (.str "law_loggather_k32_whole_words_renamed" 439) 255,263,hFo 48 "_law_names" (.str "law_loggather_k32_whole_words_renamed" 439) 262,268,hFo 49 "_law_renamed" (.str "law_loggather_k32_whole_words_renamed" 439) 267,273,hFo 50 "law" (.str "law_loggather_k32_whole_words_renamed" 439) 272,75,138,166,164⟩
set_option maxHeartbeats 8000000 in
theorem hT {P:Params}{h:Heap}{mg:Str->Option Value} (X:(hK P).In h) (G:h.Ns mainGlobals mg):Tx (hK P) mg hA:=⟨PySem.W.mg_none_of X G (by kernel_rfl),
 PySem.W.mg_none_of X G (by kernel_rfl),
 PySem.W.mg_none_of X G (by kernel_rfl),
 PySem.W.mg_none_of X G (by kernel_rfl),
 PySem.W.mg_none_of X G (by kernel_rfl),
 PySem.W.mg_none_of X G (by kernel_rfl),
 PySem.W.mg_none_of X G (by kernel_rfl),
 PySem.W.mg_none_of X G (by kernel_rfl),
 PySem.W.mg_none_of X G (by kernel_rfl),
 PySem.W.mg_none_of X G (by kernel_rfl),
 PySem.W.mg_none_of X G (by kernel_rfl),
 PySem.W.mg_none_of X G (by kernel_rfl),
 PySem.W.mg_none_of X G (by kernel_rfl),
 (by rw [FIGS_is];exact ⟨225,PySem.W.mg_of X G (by kernel_rfl)⟩),
 (by rw [LOWS_is];exact ⟨227,PySem.W.mg_of X G (by kernel_rfl)⟩),
 (by rw [SIGNS_is];exact ⟨229,PySem.W.mg_of X G (by kernel_rfl)⟩),
 PySem.W.mg_of X G (by kernel_rfl),
 (λH=>.inr ⟨_,_,_,rfl,rfl,rfl,(by show 3<=sizeLine;decide),.cons ⟨_,rfl⟩ (.cons ⟨_,rfl⟩ (.cons ⟨_,rfl⟩ (.nil)))⟩),
 ⟨_,rfl,rfl,rfl⟩,
 PySem.W.mg_of X G (by kernel_rfl),
 (λH=>.inr ⟨_,_,_,rfl,rfl,rfl,(by show 2<=sizeLine;decide),.cons ⟨_,rfl⟩ (.cons ⟨_,rfl⟩ (.nil))⟩),
 ⟨_,rfl,rfl,rfl⟩,
 hDf X G ["text","signs"] (by kernel_rfl) (by kernel_rfl) (by kernel_rfl) (by kernel_rfl) λ_ _ _ _ _ _=>on2 λ_ _=>rfl,
 hDf X G ["thing"] (by kernel_rfl) (by kernel_rfl) (by kernel_rfl) (by kernel_rfl) λ_ _ _ _ _ _=>on1 λ_=>rfl,
 hDf X G ["word"] (by kernel_rfl) (by kernel_rfl) (by kernel_rfl) (by kernel_rfl) λ_ _ _ _ _ _=>on1 λ_=>rfl,
 hDf X G ["line"] (by kernel_rfl) (by kernel_rfl) (by kernel_rfl) (by kernel_rfl) λ_ _ _ _ _ _=>on1 λ_=>rfl,
 hDf X G ["word"] (by kernel_rfl) (by kernel_rfl) (by kernel_rfl) (by kernel_rfl) λ_ _ _ _ _ _=>on1 λ_=>rfl,
 hDf X G ["part"] (by kernel_rfl) (by kernel_rfl) (by kernel_rfl) (by kernel_rfl) λ_ _ _ _ _ _=>on1 λ_=>rfl,
 hDf X G ["part","word"] (by kernel_rfl) (by kernel_rfl) (by kernel_rfl) (by kernel_rfl) λ_ _ _ _ _ _=>on2 λ_ _=>rfl,
 hDf X G ["parts","words"] (by kernel_rfl) (by kernel_rfl) (by kernel_rfl) (by kernel_rfl) λ_ _ _ _ _ _=>on2 λ_ _=>rfl,
 hDf X G ["pattern","line"] (by kernel_rfl) (by kernel_rfl) (by kernel_rfl) (by kernel_rfl) λ_ _ _ _ _ _=>on2 λ_ _=>rfl,
 hDf X G ["part"] (by kernel_rfl) (by kernel_rfl) (by kernel_rfl) (by kernel_rfl) λ_ _ _ _ _ _=>on1 λ_=>rfl,
 hDf X G ["parts"] (by kernel_rfl) (by kernel_rfl) (by kernel_rfl) (by kernel_rfl) λ_ _ _ _ _ _=>on1 λ_=>rfl,
 hDf X G ["patterns"] (by kernel_rfl) (by kernel_rfl) (by kernel_rfl) (by kernel_rfl) λ_ _ _ _ _ _=>on1 λ_=>rfl,
 hDf X G ["part"] (by kernel_rfl) (by kernel_rfl) (by kernel_rfl) (by kernel_rfl) λ_ _ _ _ _ _=>on1 λ_=>rfl,
 hDf X G ["pattern"] (by kernel_rfl) (by kernel_rfl) (by kernel_rfl) (by kernel_rfl) λ_ _ _ _ _ _=>on1 λ_=>rfl,
 hDf X G ["patterns"] (by kernel_rfl) (by kernel_rfl) (by kernel_rfl) (by kernel_rfl) λ_ _ _ _ _ _=>on1 λ_=>rfl,
 hDf X G ["rows","keys"] (by kernel_rfl) (by kernel_rfl) (by kernel_rfl) (by kernel_rfl) λ_ _ _ _ _ _=>on2 λ_ _=>rfl,
 hDf X G ["group","place"] (by kernel_rfl) (by kernel_rfl) (by kernel_rfl) (by kernel_rfl) λ_ _ _ _ _ _=>on2 λ_ _=>rfl,
 hDf X G ["group","place"] (by kernel_rfl) (by kernel_rfl) (by kernel_rfl) (by kernel_rfl) λ_ _ _ _ _ _=>on2 λ_ _=>rfl,
 hDf X G ["group","place","sieve"] (by kernel_rfl) (by kernel_rfl) (by kernel_rfl) (by kernel_rfl) λ_ _ _ _ _ _=>on3 λ_ _ _=>rfl,
 hDf X G ["group","sieve"] (by kernel_rfl) (by kernel_rfl) (by kernel_rfl) (by kernel_rfl) λ_ _ _ _ _ _=>on2 λ_ _=>rfl,
 hDf X G ["group","sieve"] (by kernel_rfl) (by kernel_rfl) (by kernel_rfl) (by kernel_rfl) λ_ _ _ _ _ _=>on2 λ_ _=>rfl,
 hDf X G ["group"] (by kernel_rfl) (by kernel_rfl) (by kernel_rfl) (by kernel_rfl) λ_ _ _ _ _ _=>on1 λ_=>rfl,
 hDfD X G ["lines","sieve"] (by kernel_rfl) (by kernel_rfl) (by kernel_rfl) (by kernel_rfl) λs us X2 hl=>bind_gathered X2 us (by rw [List.append_nil] at hl;exact hl),
 hDf X G ["part"] (by kernel_rfl) (by kernel_rfl) (by kernel_rfl) (by kernel_rfl) λ_ _ _ _ _ _=>on1 λ_=>rfl,
 hDf X G ["pattern"] (by kernel_rfl) (by kernel_rfl) (by kernel_rfl) (by kernel_rfl) λ_ _ _ _ _ _=>on1 λ_=>rfl,
 hDf X G ["line","lines","sieve"] (by kernel_rfl) (by kernel_rfl) (by kernel_rfl) (by kernel_rfl) λ_ _ _ _ _ _=>on3 λ_ _ _=>rfl,
 hDfD X G ["lines","sieve"] (by kernel_rfl) (by kernel_rfl) (by kernel_rfl) (by kernel_rfl) λs us X2 hl=>bind_news X2 us (by rw [List.append_nil] at hl;exact hl),
 hDf X G ["cell","turn"] (by kernel_rfl) (by kernel_rfl) (by kernel_rfl) (by kernel_rfl) λ_ _ _ _ _ _=>on2 λ_ _=>rfl,
 hDf X G ["deck","many"] (by kernel_rfl) (by kernel_rfl) (by kernel_rfl) (by kernel_rfl) λ_ _ _ _ _ _=>on2 λ_ _=>rfl,
 hDf X G ["word"] (by kernel_rfl) (by kernel_rfl) (by kernel_rfl) (by kernel_rfl) λ_ _ _ _ _ _=>on1 λ_=>rfl,
 hDf X G ["deck"] (by kernel_rfl) (by kernel_rfl) (by kernel_rfl) (by kernel_rfl) λ_ _ _ _ _ _=>on1 λ_=>rfl,
 hDf X G ["deck","most"] (by kernel_rfl) (by kernel_rfl) (by kernel_rfl) (by kernel_rfl) λ_ _ _ _ _ _=>on2 λ_ _=>rfl,
 hDf X G ["deck","most"] (by kernel_rfl) (by kernel_rfl) (by kernel_rfl) (by kernel_rfl) λ_ _ _ _ _ _=>on2 λ_ _=>rfl,
 hDf X G ["deck"] (by kernel_rfl) (by kernel_rfl) (by kernel_rfl) (by kernel_rfl) λ_ _ _ _ _ _=>on1 λ_=>rfl,
 hDf X G ["deck","lines"] (by kernel_rfl) (by kernel_rfl) (by kernel_rfl) (by kernel_rfl) λ_ _ _ _ _ _=>on2 λ_ _=>rfl,
 hDf X G ["pattern","names"] (by kernel_rfl) (by kernel_rfl) (by kernel_rfl) (by kernel_rfl) λ_ _ _ _ _ _=>on2 λ_ _=>rfl,
 ⟨rfl,λh X2=>PySem.W.codeHd_of_K X2 (by kernel_rfl),4,_,PySem.W.mg_of X G (by kernel_rfl),by decide,by decide,rfl,rfl,rfl,rfl⟩⟩
theorem hF (w:World) (mg:Str->Option Value) (fa:Addr) (h:Heap) (X:(hK w.params).In h) (G:h.Ns mainGlobals mg) (e:mg "law" = some (.ref fa)) :
  ∃ fd:FuncData,(∀ (s:Shared) (u:Value),BindsTo s fd ⟨[u],[]⟩ [("script",u)])/\∀ base:Heap,FnOk PySem.Challenge.rw_loggather_k32_whole_words_renamed.prog w (hK w.params) mg base CX0 23 fa fd ["script"] (sp_law (hK w.params) 164):=by
 have q:=e.symm.trans (PySem.W.mg_of X G (show PySem.W.nsIn (hK w.params) mainGlobals "law" = some (some (.ref 273)) by kernel_rfl));cases q;exact ⟨hFo 50 "law" (.str "law_loggather_k32_whole_words_renamed" 439) 272,λs v=>.of_eq rfl,λbase=>ok_law (A:=hA) (fun_mk rfl (by kernel_rfl) (by kernel_rfl)) (hT X G)⟩
abbrev hSp:=sp_law
end K32
open PySem PySem.W PyProof.Rows
set_option maxRecDepth 100000 in
set_option maxHeartbeats 0 in
theorem PySem.Challenge.cw_loggather_k32_whole_words_renamed_holds : PySem.Challenge.rw_loggather_k32_whole_words_renamed.Holds := by
 refine holds_law K32.hS λsaid=>@PySem.W.holds_open (OpenLaw.row PySem.Challenge.rw_loggather_k32_whole_words_renamed) K32.hV K32.hLo K32.hX (XL K32.hV []) _ K32.hH.obs K32.hH.val K32.hH.says ?dr ?kw 3318 K32.hL K32.hH.of K32.hH.keeps
  (λs e=>xl_of s (K32.hX1 e)) XL.keeps ?x1 ?x2 ?x3 (λs e=>recFacts_of (K32.hX2 e)) ?x4 said ?x5 ?x6 ?hw ?hc
 case x1=>exact rfl
 case x2=>exact rfl
 case x3=>exact rfl
 case x4=>rfl
 case x5=>decide +kernel
 case x6=>exact ⟨rfl,rfl,rfl,rfl,rfl,by decide +kernel⟩
 case hw=>w_witness2
 exact L2.walk_ofT (l:=PySem.Challenge.rw_loggather_k32_whole_words_renamed) (n:=63) (k:=23) (x:= "script") (K:=K32.hK) (c:=166) (T:=164) (sp:=λw=>K32.hSp (K32.hK w.params) 164) rfl (by decide) rfl ⟨rfl,by decide,by decide,rfl⟩ (λw h Y=>⟨PySem.W.km_in_of Y,PySem.W.km_tabs_of Y _ (List.Mem.head _)⟩) (λw h X=>PySem.W.codeHd_of_K X (by kernel_rfl)) (λw=>by kernel_rfl)
  (λw mg fa h X G e=>let ⟨fd,b,k⟩:=K32.hF w mg fa h X G e;⟨fd,b,λbase=>k base⟩) (λ_ _ a ns hl hT hS=>⟨a,ns,rfl,hS,hl,⟨_,hT,trivial,.inl rfl⟩,λ_=>rfl⟩)
