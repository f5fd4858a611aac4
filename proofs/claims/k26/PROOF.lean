import PyProof.Rows.All
import Wide.All
import OpenK.AllK
import Wide.FinOn
import Lean
import PyProof.EqAt
import PyProof.EqKinds
import PyProof.TupleCall
import PyProof.NeData
import PyProof.StrLawsChain
import KE.KSortTup
import KE.KRevSl
import KE.KMinKey
import PyProof.P3In
import KE.KRevIter
import KE.KDictSum
import PyProof.StrCalls6
import PyProof.ToksMono
import PyProof.ReprRoads
import PyProof.StrOps2
import KE.KDictLaws
import KE.KDictList
import PyProof.DictValues
import PyProof.TupleKey
import PyProof.IsRules
import PyProof.Rows.SetFrom
import PyProof.DictWalks
import PyProof.FactsAll.set_1
import PyProof.ReprText
import KE.KLam
import PyProof.WalkInts
import PyProof.ZipIter
import PyProof.CollectWalk
import PyProof.ListNew
import PyProof.ListStr
import PyProof.Rows.Range3
import PySem.Challenge.RW_loggather_k26_whole_spans_of_time
set_option maxHeartbeats 8000000
abbrev Vz:=PySem.W.Frag
abbrev Vy:=PySem.Value
abbrev Vx:=PySem.Shared
def Vw:=@PySem.wpAny_bind
def Vv:=@PySem.wpAny_pure
def Vu:=@PySem.Heap.get?_push_of_some
def Vt:=@PySem.wpAny_mono
def Vs:=@PySem.wpAny_holding
open PySem.Challenge renaming pw_loggather_k26_whole_spans_of_time→Y0,rw_loggather_k26_whole_spans_of_time→Yl
open PySem.PyData renaming strOk→Y1,canLayAll0→Y5,depthAll→Y6,eqv→Yd,depth→Yy,eqvAll→Z3
open PySem.Heap renaming get?_push_size→Y2,lt_size→Y3,get?_update_other→Yu,SameBut→YE,size_push→YX
open PySem.Txt renaming split→Y4,join→YG,slice→YN,stripChars→YY
open List renaming range→Y7,getD→YD,toArray→YJ,lookup→YS
open PySem.Obj renaming mapSeq→Y8
open PySem.F renaming plainAttrs_list→Y9,slot_list_append→Yj,type_list_append→Yk,plain_min_loop→Yv,plainAttrs_str→Yw,slot_list_count→YK
open PySem renaming boot_len→Yb,mem_of_lookup→Yq,Addr→Z6,FuncData→Z7,Around→Z8,Program→Z9,World→Za,PyData→Zb,sizeLine→Zc,wpAny→Zd,starEach→Ze,SetTable→Zf
open PySem.W renaming mg_none_of→Yc,boot_heap→Yn,findIn→Yp,kia_one→Yr,mg_of→Yt,emptyDict→Yz,fnOf→YB,keepIn→YF,topFrame→YH,instObj→YL,codeIn→YO
open Option.some renaming inj→Ye
open PySem.Around renaming under_plainId→Yg
open PySem.Str renaming empty→Yh,ofString→Yo,length→YV,join→YZ
open PySem.Heap.SameBut renaming update→Yi
open PyProof.Rows renaming callWith_type1→Ym
open PySem.PassesOwn renaming never→Ys
open PySem.Builtin.List renaming listExtendWith→Yx,listSameRef→YW
open PySem.Builtin.SmallTypes renaming ownedTupleIsFree→YA,nextOf→YR
open PySem.Calls renaming spliced_cons→YC,spliced_nil→YT
open Exists renaming choose_spec→YI
open PyProof.Rows.F renaming plain_set_update_loop→YM
open PySem.SetTable renaming grown→YP,below→Z5
open Ne renaming symm→YQ
open PySem.SetTable.below renaming go→YU
open Array renaming getD→Z0
open PySem.W.KasT renaming kasWp→Z1
open List.Perm renaming refl→Z4
def Zg:=@decide_eq_true
def Zh:=@decide_eq_false
def Zi:=@of_decide_eq_true
def Zj:=@if_pos
def Zk:=@if_neg
open List renaming length_map→R8,getElem?_eq_getElem→R9,mem_of_getElem?→Sd,getElem?_map→Se,mem_cons_of_mem→Sf,mem_singleton→Sg,mem_map→Si,length_append→Sj,mem_cons_self→Sk,map_append→Sm,size_toArray→Sn,take_of_length_le→So,getD_eq_getElem?_getD→Sr,mem_cons→Su,map_cons→Sv,length_singleton→Sw,length_take→Sx,mem_append→Sz,length_cons→SE,take_add_one→SG,all_eq_true→SJ,map_congr_left→SK,mem_filter→SM,mem_append_right→SO,map_map→SS,getElem?_zip_eq_some→SU,getElem?_append_left→SW,drop_eq_getElem_cons→SX,length_filter_le→S0,getElem?_append_right→S1,sum_cons→S2,append_nil→S3,mem_range→S5,getElem_mem→S7,filter_append→S8,getElem?_eq_none→S9,take_length→Ta,eq_nil_of_length_eq_zero→Tb,any_cons→Td,find?_cons→Tg,lookup_cons→Th,countP_cons→Ti,any_eq_true→Tj,getElem?_eq_some_iff→Tn,exists_mem_of_ne_nil→To,map_eq_nil_iff→Tp,nodup_cons→Tq,length_nil→Tr,not_mem_nil→Ts,pairwise_map→Tu,nodup_append→Tv,map_nil→Tw,drop_of_length_le→Tz,mem_flatMap→TC,mem_of_mem_take→TH,getElem?_of_mem→TJ,length_range→TK,filter_cons_of_pos→TL,filter_cons_of_neg→TM,filter_cons→TR,mem_append_left→TV,mem_map_of_mem→TY,length_eq_zero_iff→TZ,pairwise_cons→T2,filter_eq_nil_iff→T3,length_zip→T5,getElem?_toArray→T6,flatMap_cons→T7,pairwise_iff_getElem→Ud,getElem?_eq_none_iff→Ue,length_pos_iff→Ug,filterMap_cons→Uh,all_cons→Uj,forIn_cons→Uk,zip_cons_cons→Uo,foldl_append→Up,drop_zero→Uq,length_replicate→Us,length_drop→Ut,isEmpty_iff→Uu,mem_iff_getElem→Uw,drop_eq_nil_iff→Ux,range_succ→Uy,of_mem_zip→Uz,take_succ_cons→UB,nodup_nil→UC,mem_filterMap→UD,length_eraseIdx_of_lt→UE,append_assoc→UK,any_eq_false→UL,getElem?_replicate→UP,cons_append→UQ,getElem?_set_self→UU
open Nat renaming le_refl→Sb,le_trans→Sl,zero_le→Sy,ne_of_lt→SD,lt_of_lt_of_le→SN,lt_or_ge→Tc,lt_irrefl→Tf,le_succ→TB,le_of_lt→TF,min_self→TU,add_le_add_right→T8,ne_of_gt→T9,lt_trans→Ua,lt_succ_self→Ub,lt_of_le_of_lt→Um,lt_succ_of_lt→UJ,zero_add→UR,sub_self→US,le_of_eq→UT
open Bool renaming false_ne_true→Ss,eq_false_iff→SI,false_eq_true→SQ,eq_iff_iff→SR,and_eq_true→S4,and_eq_true_iff→Tt,true_and→TX,and_false→Ur,or_false→UO
open Array renaming length_toList→SA,getElem?_eq_getElem→SY,getElem?_toList→S6,getElem?_eq_none→TN,getD_eq_getD_getElem?→TQ,toList_inj→Uc,toList_append→Ui,mem_append→Uv,size_push→UA,size_extract→UG,perm_iff_toList_perm→UH,forIn_toList→UI,all_eq_true→UN
open Int renaming toNat_natCast→Te,eq_ofNat_of_zero_le→T1,emod_lt_of_pos→T4,emod_nonneg→Ul,le_refl→UM
set_option Elab.async false
set_option linter.all false
set_option autoImplicit false
set_option maxRecDepth 100000
namespace L2
open PySem PySem.W
section
variable {p:Z9}{q:Z9}{loose:List Str}{Xt:Vx->Bool}{α:Type}{Yf:Vx->α}{Ya:Za->α}{N:Nat}{H₀:Params->Heap}{d₀:Drawn}{k₀ m₀:Nat}{ann:Option Vy}{env:Env}{c:Code}{qp:Pos}
def ux (p q:Z9) (loose:List Str) (Xt:Vx->Bool) {α:Type} (Yf:Vx->α) (Ya:Za->α) (H₀:Params->Heap) (m₀:Nat) (ann:Option Vy) (env:Env) (c:Code) (qp:Pos) (n:Nat) (l:List Stmt) (pos:Pos) (w:Za) (s:Vx):Prop:=
 ∃r,topRun treeTable p w m₀ ann n s (restOf l env c pos [topFrame qp])=some r/\(staticsOk (importedModules p.main.body) (H₀ w.params) r.heap && namesBound p r.heap && gensDone r && laidKept (H₀ w.params) r.heap)=true/\openSeen q loose (importedModules p.main.body) Xt true r=openGood q loose/\Yf r=Ya w
theorem GC {n e:Nat}{l:List Stmt}{pos:Pos}{w:Za}{s:Vx}
  (h:(segRun treeTable p w m₀ ann 1 n s (piecesOf l env c pos [topFrame qp])).bind (λz=>(topRun treeTable p w m₀ ann e z.2.1 ⟨doneF .next,c,z.2.2.2,[topFrame qp]⟩).map λr=>(z.1,z.2.2.1,(staticsOk (importedModules p.main.body) (H₀ w.params) r.heap && namesBound p r.heap && gensDone r && laidKept (H₀ w.params) r.heap),openSeen q loose (importedModules p.main.body) Xt true r,Yf r))=some (.next,c,true,openGood q loose,Ya w)) :
  ux p q loose Xt Yf Ya H₀ m₀ ann env c qp (n+e) l pos w s:=by
 obtain⟨⟨f,_,m,_⟩,k,v⟩:=Option.bind_eq_some_iff.mp h;obtain⟨r,g,d⟩:=Option.map_eq_some_iff.mp v;simp only[Prod.mk.injEq]at d;obtain⟨u,o,j,t,i⟩:=d;have b:f=Flow.next:=u;have a:m = c:=o;subst b a;have:=piece_app (rest:=[]) k (piece_nil g);rw[S3]at this;exact⟨r,this,j,t,i⟩
theorem r9 {n n':Nat}{l a b:List Stmt}{pos pos':Pos}{w:Za}{s s':Vx} (h:segRun treeTable p w m₀ ann 1 n s (piecesOf l env c pos [topFrame qp])=some (.next,s',c,pos')) (e:l++a = b) (t:ux p q loose Xt Yf Ya H₀ m₀ ann env c qp n' a pos' w s'):ux p q loose Xt Yf Ya H₀ m₀ ann env c qp (n+n') b pos w s:=by
 obtain⟨r,d,f⟩:=t;rw[<-e];exact⟨r,piece_app h d,f⟩
theorem B0 (b:List Stmt) (a d:Nat):(b.drop a).take d++b.drop (a+d)=b.drop a:=by
 rw[<-List.drop_drop];exact List.take_append_drop _ _
theorem Gf {a g f n2:Nat}{b v m:List Stmt}{n pos:Pos}{B:Params->Heap}{l:Drawn}{o:Nat} (O:c = .body b env) (J:v++m=b)
  (S:∀w:Za,(fencedOpening treeTable p w N).map (λs=>(s.heap,s.gens,s.drawn,s.toks))=some (H₀ w.params,Array.mk [],d₀,k₀))
  (i:∀w:Za,((H₀ w.params).isNs mainGlobals,(H₀ w.params).objs.size,(H₀ w.params).nsMap mainGlobals "__annotations__")=(true,m₀,ann))
  (h1:∀(w:Za) (os:OsState),(topGo treeTable p w m₀ ann a ⟨H₀ w.params,Array.mk [],d₀,k₀,os⟩ (topStub p)).bind (λx=>(segRun treeTable p w m₀ ann 1 g x.1 (blockOf b env c n [topFrame qp])).bind λy=>(segRun treeTable p w m₀ ann 1 f y.2.1 (piecesOf v env c y.2.2.2 [topFrame qp])).map λz=>(x.2,y.1,y.2.2.1,z))=some (⟨denote treeTable c,c,n,[topFrame qp]⟩,.next,c,(.next,⟨B w.params,Array.mk [],l,o,os⟩,c,pos)))
  (h2:∀(w:Za) (os:OsState),ux p q loose Xt Yf Ya H₀ m₀ ann env c qp n2 m pos w ⟨B w.params,Array.mk [],l,o,os⟩) (le:Nat.ble (a+(g+(f+n2))) N=true):LeftO p q loose Xt Yf Ya N true:=λw=>by
 obtain⟨⟨h,C,d,k,os⟩,e,P⟩:=Option.map_eq_some_iff.mp (S w);obtain⟨rfl,rfl,rfl,rfl⟩:h=H₀ w.params/\C=Array.mk []/\d=d₀/\k=k₀:=by simpa using P
 obtain⟨F,H,W⟩:_/\_/\_:=by simpa only[Prod.mk.injEq]using i w
 obtain⟨⟨_,_⟩,I,D⟩:=Option.bind_eq_some_iff.mp (h1 w os);obtain⟨⟨_,_,_,_⟩,K,Z⟩:=Option.bind_eq_some_iff.mp D;obtain⟨⟨_,_,_,_⟩,U,A⟩:=Option.map_eq_some_iff.mp Z;simp only[Prod.mk.injEq]at A;obtain⟨X,V,E,R,M,G,Y⟩:=A;subst X V E R M G Y;obtain⟨r,T,L,Q,g4⟩:=h2 w os;have j:=piece_app U T;rw[J]at j;subst O;have p2:=piece_block K j;have p3:=go_top I p2;have u:=topRun_mono (N - (a+(g+(f+n2)))) _ _ _ _ p3;rw[show a+(g+(f+n2))+(N - (a+(g+(f+n2))))=N by have:=Nat.le_of_ble_eq_true le;lia]at u;have t:topFrom treeTable p w N ⟨H₀ w.params,Array.mk [],d,k,os⟩=some r:=by
  unfold topFrom;dsimp only;rw[F,H,W,u];show(match staticsOk (importedModules p.main.body) (H₀ w.params) r.heap && namesBound p r.heap && gensDone r && laidKept (H₀ w.params) r.heap with | true=>some r | false=>none)=some r
  rw[L]
 unfold openEnds;rw[e];show((topFrom treeTable p w N ⟨H₀ w.params,Array.mk [],d,k,os⟩).map λs=>(openSeen q loose (importedModules p.main.body) Xt true s,Yf s))=_;rw[t];show some (openSeen q loose (importedModules p.main.body) Xt true r,Yf r)=_;rw[Q,g4]
end
end L2
namespace L2
open PySem
def cB (s:Stmt):Arguments:=match s with
 | .FunctionDef _ a _ _ _ _ _ _ _ _=>a
 | _=>{ posonlyargs:=[],args:=[],vararg:=none,kwonlyargs:=[],kw_defaults:=[],kwarg:=none,defaults:=[] }
def bT (s:Stmt):List Stmt:=match s with
 | .FunctionDef _ _ b _ _ _ _ _ _ _=>b
 | _=>[]
def ag (s:Stmt):Scope:=match s with
 | .FunctionDef _ _ _ _ _ _ sc _ _ _=>sc
 | _=>{ kind:=.function,names:=[],isGenerator:=false,isCoroutine:=false }
end L2
namespace K26
open PySem L2
def top (i:Nat):Stmt:=PySem.Challenge.pw_loggather_k26_whole_spans_of_time.main.body.getD i (.Pass ⟨0,0,0,0⟩)
def mIn (i j:Nat):Stmt:=match top i with
 | .ClassDef _ _ _ b _ _ _ _ _ _ _=>b.getD j (.Pass ⟨0,0,0,0⟩)
 | x=>x
def hqC (x:Str) (a:Nat) (L n:Int) (r:Nat) (d:Nat):Obj:=⟨.type "code",none,.fields #[.str x a,.str x (a+1),.str "/claim/cut.py" (a+2),.int L 0,.int n 0,.int 0 0,.int 0 0,.int 3 0,.ref r,.bool true,.int 181 0,.ref (r+1),.none,.ref (r+2),.ref (r+3),.ref (r+4),.int (Int.ofNat d) 0,.int L 0,.str "/claim/cut.py" (d+1)],#[]⟩
def hqD (x:Str) (a:Nat) (L n:Int) (r:Nat):Obj:=⟨.type "code",none,.fields #[.str x a,.str x (a+1),.str "/claim/cut.py" (a+2),.int L 0,.int n 0,.int 0 0,.int 0 0,.int 3 0,.ref r,.bool true,.int 181 0,.ref (r+1),.none,.none,.none,.ref (r+2),.int (Int.ofNat (a+3)) 0,.int L 0,.str "/claim/cut.py" (a+4)],#[]⟩
def hqU (l:List Vy):Obj:=⟨.type "tuple",none,.seq l.toArray 0,#[]⟩
def hqN:Obj:=⟨.none,none,.fields #[],#[]⟩
def hFz (i:Nat) (x:Str):Obj:=⟨.none,none,.func { name:=x,qualname:=x,params:=cB (top i),body:=.stmts (bT (top i)),scope:=ag (top i),globals:=0,closure:=[],defaults:=.none,kwdefaults:=.none },#[]⟩
def hFd (i:Nat) (x:Str) (m:Vy) (c D:Nat):Obj:=⟨.type "function",none,.func { name:=x,qualname:=x,params:=cB (top i),body:=.stmts (bT (top i)),scope:=ag (top i),globals:=3,closure:=[],defaults:=.ref D,kwdefaults:=.none,pyModule:=m,code:=.ref c },#[]⟩
def mFd (i j:Nat) (x q:Str) (g:Z6) (m c:Vy):Z7:={ name:=x,qualname:=q,params:=cB (mIn i j),body:=.stmts (bT (mIn i j)),scope:=ag (mIn i j),globals:=g,closure:=[],defaults:=.none,kwdefaults:=.none,pyModule:=m,code:=c }
def KN (i j:Nat) (x q:Str) (g:Z6) (m c:Vy) (D:Nat):Z7:={ name:=x,qualname:=q,params:=cB (mIn i j),body:=.stmts (bT (mIn i j)),scope:=ag (mIn i j),globals:=g,closure:=[],defaults:=.ref D,kwdefaults:=.none,pyModule:=m,code:=c }
def hEn (P:Params) (x:Str) (t:Nat) (v:Vy):DictEntry:=⟨PyData.keyHash P x,.str x t,v⟩
def hqR (P:Params) (x:Str) (n k:Nat):=hEn P x n (.ref k)
def hqM (x y:Str) (a:Nat) (L n:Int) (r d:Nat):Obj:=⟨.type "code",none,.fields #[.str x a,.str y (a+1),.str "/claim/cut.py" (a+2),.int L 0,.int n 0,.int 0 0,.int 0 0,.int 3 0,.ref r,.bool true,.int 181 0,.ref (r+1),.none,.ref (r+2),.ref (r+3),.ref (r+4),.int (Int.ofNat d) 0,.int L 0,.str "/claim/cut.py" (d+1)],#[]⟩
def hqO (x y:Str) (a:Nat) (L n:Int) (r:Nat):Obj:=⟨.type "code",none,.fields #[.str x a,.str y (a+1),.str "/claim/cut.py" (a+2),.int L 0,.int n 0,.int 0 0,.int 0 0,.int 3 0,.ref r,.bool true,.int 181 0,.ref (r+1),.none,.none,.none,.ref (r+2),.int (Int.ofNat (a+3)) 0,.int L 0,.str "/claim/cut.py" (a+4)],#[]⟩
def hqB (x:Str) (a:Nat) (L:Int) (r:Nat):Obj:=⟨.type "code",none,.fields #[.str x a,.str x (a+1),.str "/claim/cut.py" (a+2),.int L 0,.int 0 0,.int 0 0,.int 0 0,.int 0 0,.ref r,.bool false,.int 181 0,.ref (r+1),.none,.none,.none,.none,.int (Int.ofNat (a+3)) 0,.int L 0,.str "/claim/cut.py" (a+4)],#[]⟩
def bQ:Vy:=.str "loggather.logs" 536
def gM:Vy:=.str "loggather.patterns" 355
def jo:Vy:=.str "loggather.errors" 194
def mQ:Vy:=.str "loggather.gathering" 450
def rm:Vy:=.str "law_loggather_k26_whole_spans_of_time" 759
def rg:Vy:=.str "loggather.words" 303
def Eu:Vy:=.str "loggather.falling" 515
def hqF (i j:Nat) (x q:Str) (m:Vy) (c:Nat):Obj:=⟨.type "function",none,.func (mFd i j x q 3 m (.ref c)),#[]⟩
def hqG (i j:Nat) (x q:Str):Obj:=⟨.none,none,.func (mFd i j x q 0 .none .none),#[]⟩
def hqW (a b:Nat) (m:Vy):Obj:=⟨.type "frame",none,.plain,#[some (.ref a),some (.ref 3),some (.ref b),none,some m,none,some (.ref 0)]⟩
def hqI (x:String) (a:Nat):Obj:=⟨.type "builtin_function_or_method",none,.fields #[.builtin x,.ref a],#[]⟩
def hqS (a:Nat):Obj:=⟨.type "super",none,.fields #[.ref a,.ref a,.ref a],#[]⟩
def hqE (x:Str) (b s n a c d:Nat):Obj:=⟨.type "type",none,.cls { name:=x,bases:=[.ref b],mro:=[.ref s,.ref b,.type "ValueError",.type "Exception",.type "BaseException",.type "object"],ns:=n,qualname:=x,hasDict:=true,slotNames:=[],subclasses:=[],abstract:=false,collection:=none,hasDel:=false },#[some (.ref a),none,some (.str x c),some (.str x d),some (.builtin "ValueError.__new__"),some (.bool true)]⟩
def O0 (P:Params):List DictEntry:=[hEn P "__doc__" 166 (.none),hEn P "__package__" 167 (.none),hEn P "__loader__" 168 (.builtin "__main__.__loader__#opaque"),hEn P "__spec__" 169 (.none),hqR P "__annotations__" 170 6,hqR P "__builtins__" 171 4,hEn P "__file__" 173 (.str "/claim/cut.py" 172),hEn P "__cached__" 174 (.none),hqR P "_wall" 193 21,hqR P "GatherError" 213 31,hqR P "NoJoin" 229 44,hqR P "NoLine" 245 56,hqR P "NoMoment" 270 75]
def M0 (P:Params):List DictEntry:=O0 P++[hqR P "NoPattern" 286 87,hqR P "TooMany" 302 99,hEn P "MOST_WORDS" 306 (.int 12 305),hEn P "FIGURES" 308 (.str "0123456789" 307),hEn P "SMALL_LETTERS" 310 (.str "abcdefghijklmnopqrstuvwxyz" 309),hEn P "WORD_SIGNS" 312 (.str "!\"#$&'()*+,-./0123456789:;<=>?@ABCDEFGHIJKLMNOPQRSTUVWXYZ[\\]^_`abcdefghijklmnopqrstuvwxyz{|}~" 311),hqR P "has_only" 320 108,hqR P "is_word" 327 115,hqR P "kind_of" 334 122,hqR P "words_of" 341 129,hqR P "is_line" 347 134,hqR P "word_key" 354 141,hEn P "MOST_PARTS" 358 (.int 12 357),hqR P "HOLE_KINDS" 362 142,hqR P "is_part" 369 149,hqR P "is_pattern" 375 154,hqR P "is_hole" 382 161,hqR P "part_takes" 390 168,hqR P "all_taken" 400 175,hqR P "fits" 408 182,hqR P "kind_of_hole_around" 416 189,hqR P "joined_part" 422 194]
def OU (P:Params):List DictEntry:=M0 P++[hqR P "joined" 428 199,hqR P "part_key" 437 206,hqR P "pattern_key" 443 211,hqR P "ordered" 449 216,hqR P "PLAIN_SIEVE" 454 217,hqR P "grouped" 465 224,hqR P "words_at" 471 229,hqR P "many_unlike_at" 479 236,hqR P "is_fit_to_part_at" 485 241,hqR P "place_to_part_at" 491 246,hqR P "parted" 502 253,hqR P "pattern_of_group" 508 258,hqR P "gathered" 514 264,hqR P "looseness_of_part" 523 271,hqR P "looseness" 529 276,hqR P "falls_under" 535 281,hEn P "MOST_LINES" 539 (.int 120 538),hEn P "MOST_BY_HAND" 541 (.int 12 540),hqR P "how_often" 550 288,hqR P "words_in_order" 556 293,hqR P "State" 594 315]
def Nm (P:Params):List DictEntry:=OU P++[hqR P "Log" 758 450]
def Qx (P:Params):List DictEntry:=Nm P++[hqR P "_law_deck" 768 461,hqR P "_law_pick" 778 468,hqR P "_law_kind" 784 473,hqR P "_law_word" 790 478,hqR P "_law_line" 796 483,hqR P "_law_lines" 802 488,hqR P "_law_pattern" 814 495,hqR P "_law_sieve" 821 502,hqR P "_law_many" 827 507,hqR P "_law_spans_right" 833 512,hqR P "law" 839 517]
def Ov:List Vy:=[.int 1 0,.int 0 0,.ref 20,.int 5 0,.int 0 0,.ref 27,.int 7 0,.int 0 0,.ref 40,.int 9 0,.int 0 0,.ref 52,.int 11 0,.int 0 0,.ref 64]
def O3:List Vy:=Ov++[.int 16 0,.int 0 0,.ref 83,.int 18 0,.int 0 0,.ref 95,.int 25 0,.int 0 0,.ref 107,.int 27 0,.int 0 0,.ref 114,.int 29 0,.int 0 0,.ref 121,.int 35 0,.int 0 0,.ref 128,.int 37 0,.int 0 0,.ref 133,.int 42 0,.int 0 0,.ref 140,.int 47 0,.int 0 0,.ref 148,.int 53 0,.int 0 0,.ref 153,.int 57 0,.int 0 0,.ref 160,.int 59 0,.int 0 0,.ref 167,.int 65 0,.int 0 0,.ref 174,.int 72 0,.int 0 0,.ref 181,.int 74 0,.int 0 0,.ref 188,.int 79 0,.int 0 0,.ref 193]
def Nt:List Vy:=O3++[.int 86 0,.int 0 0,.ref 198,.int 93 0,.int 0 0,.ref 205,.int 98 0,.int 0 0,.ref 210,.int 100 0,.int 0 0,.ref 215,.int 104 0,.int 0 0,.ref 223,.int 109 0,.int 0 0,.ref 228,.int 111 0,.int 0 0,.ref 235,.int 113 0,.int 0 0,.ref 240,.int 118 0,.int 0 0,.ref 245,.int 121 0,.int 0 0,.ref 252,.int 129 0,.int 0 0,.ref 257,.int 131 0,.int 0 0,.ref 263,.int 138 0,.int 0 0,.ref 270,.int 142 0,.int 0 0,.ref 275,.int 144 0,.int 0 0,.ref 280,.int 150 0,.int 0 0,.ref 287,.int 155 0,.int 0 0,.ref 292,.int 158 0,.int 0 0,.ref 299]
def Qe:List Vy:=Nt++[.int 170 0,.int 0 0,.ref 325]
def hFn (i:Nat) (x:Str) (m:Vy) (c:Nat):Obj:=⟨.type "function",none,.func { name:=x,qualname:=x,params:=cB (top i),body:=.stmts (bT (top i)),scope:=ag (top i),globals:=3,closure:=[],defaults:=.none,kwdefaults:=.none,pyModule:=m,code:=.ref c },#[]⟩
def hV:Z9:={ Y0 with main:={ PySem.Challenge.pw_loggather_k26_whole_spans_of_time.main with body:=[0,2,3,4,5,6,7,9,10,11,12,13,14,15,16,17,18,20,21,22,23,24,25,26,27,28,29,30,31,32,33,35,36,37,38,39,40,41,42,45,46,47,49,50,51,52,53,54,56,57,58,59,60,61,62,63,64,65,66].map top } }
def hK (P:Params):Vz:=[(4,⟨.type "module",some 0,.plain,#[]⟩),
 (3,⟨.type "dict",none,.dict (hEn P "__name__" 165 rm::Qx P).toArray 69,#[]⟩),
 (20,hqC "_wall" 187 1 1 15 191),
 (21,hFn 0 "_wall" (.str "__main__" 164) 20),
 (107,hqC "has_only" 313 25 2 102 318),
 (108,hFn 13 "has_only" rg 107),
 (114,hqC "is_word" 321 27 1 109 325),
 (115,hFn 14 "is_word" rg 114),
 (121,hqC "kind_of" 328 29 1 116 332),
 (122,hFn 15 "kind_of" rg 121),
 (128,hqC "words_of" 335 35 1 123 339),
 (129,hFn 16 "words_of" rg 128),
 (133,hqD "is_line" 342 37 1 130),
 (134,hFn 17 "is_line" rg 133),
 (140,hqC "word_key" 348 42 1 135 352),
 (141,hFn 18 "word_key" rg 140),
 (142,hqU [.str "number" 359,.str "name" 360,.str "any" 361]),
 (148,hqC "is_part" 363 47 1 143 367),
 (149,hFn 22 "is_part" gM 148),
 (153,hqD "is_pattern" 370 53 1 150),
 (154,hFn 23 "is_pattern" gM 153),
 (160,hqC "is_hole" 376 57 1 155 380),
 (161,hFn 24 "is_hole" gM 160),
 (167,hqC "part_takes" 383 59 2 162 388),
 (168,hFn 25 "part_takes" gM 167),
 (174,hqC "all_taken" 391 65 2 169 398),
 (175,hFn 26 "all_taken" gM 174),
 (181,hqC "fits" 401 72 2 176 406),
 (182,hFn 27 "fits" gM 181),
 (188,hqC "kind_of_hole_around" 409 74 1 183 414),
 (189,hFn 28 "kind_of_hole_around" gM 188),
 (193,hqD "joined_part" 417 79 1 190),
 (194,hFn 29 "joined_part" gM 193),
 (198,hqD "joined" 423 86 1 195),
 (199,hFn 30 "joined" gM 198),
 (205,hqC "part_key" 429 93 1 200 435),
 (206,hFn 31 "part_key" gM 205),
 (210,hqD "pattern_key" 438 98 1 207),
 (211,hFn 32 "pattern_key" gM 210),
 (215,hqD "ordered" 444 100 1 212),
 (216,hFn 33 "ordered" gM 215),
 (217,hqU [.int 3 452,.int 2 453]),
 (223,hqC "grouped" 455 104 2 218 463),
 (224,hFn 36 "grouped" mQ 223),
 (228,hqD "words_at" 466 109 2 225),
 (229,hFn 37 "words_at" mQ 228),
 (235,hqC "many_unlike_at" 472 111 2 230 477),
 (236,hFn 38 "many_unlike_at" mQ 235),
 (240,hqD "is_fit_to_part_at" 480 113 3 237),
 (241,hFn 39 "is_fit_to_part_at" mQ 240),
 (245,hqD "place_to_part_at" 486 118 2 242),
 (246,hFn 40 "place_to_part_at" mQ 245),
 (252,hqC "parted" 492 121 2 247 500),
 (253,hFn 41 "parted" mQ 252),
 (257,hqD "pattern_of_group" 503 129 1 254),
 (258,hFn 42 "pattern_of_group" mQ 257),
 (259,hqU [.ref 217]),
 (263,hqD "gathered" 509 131 2 260),
 (264,hFd 43 "gathered" mQ 263 259),
 (270,hqC "looseness_of_part" 517 138 1 265 521),
 (271,hFn 45 "looseness_of_part" Eu 270),
 (275,hqD "looseness" 524 142 1 272),
 (276,hFn 46 "looseness" Eu 275),
 (280,hqD "falls_under" 530 144 2 277),
 (281,hFn 47 "falls_under" Eu 280),
 (287,hqC "how_often" 542 150 1 282 548),
 (288,hFn 51 "how_often" bQ 287),
 (292,hqD "words_in_order" 551 155 1 289),
 (293,hFn 52 "words_in_order" bQ 292),
 (304,hqO "__init__" "State.__init__" 569 160 4 301),
 (305,hqF 53 0 "__init__" "State.__init__" bQ 304),
 (314,⟨.type "dict",none,.dict #[hEn P "__module__" 564 bQ,hEn P "__firstlineno__" 568 (.int 158 567),hqR P "__init__" 574 305,hqR P "fall_of" 582 312,hqR P "__static_attributes__" 587 313,hqR P "__dict__" 589 316,hqR P "__weakref__" 591 317,hEn P "__doc__" 592 (.none)] 4,#[]⟩),
 (315,⟨.type "type",none,.cls { name:= "State",bases:=[.type "object"],mro:=[.ref 315,.type "object"],ns:=314,qualname:= "State",hasDict:=true,slotNames:=[],subclasses:=[],abstract:=false,collection:=none,hasDel:=false },#[none,none,some (.str "State" 557),some (.str "State" 565),some (.builtin "object.__new__"),some (.bool true)]⟩),
 (327,hqU [.ref 217]),
 (333,hqM "__init__" "Log.__init__" 607 172 2 328 612),
 (334,⟨.type "function",none,.func (KN 54 0 "__init__" "Log.__init__" 3 bQ (.ref 333) 327),#[]⟩),
 (340,hqM "__len__" "Log.__len__" 615 179 1 335 619),
 (341,hqF 54 1 "__len__" "Log.__len__" bQ 340),
 (347,hqM "__eq__" "Log.__eq__" 622 182 2 342 627),
 (348,hqF 54 2 "__eq__" "Log.__eq__" bQ 347),
 (354,hqM "held" "Log.held" 630 187 1 349 634),
 (355,hqF 54 3 "held" "Log.held" bQ 354),
 (361,hqM "rows_with_falls" "Log.rows_with_falls" 637 190 1 356 641),
 (362,hqF 54 4 "rows_with_falls" "Log.rows_with_falls" bQ 361),
 (368,hqM "turn_to" "Log.turn_to" 644 193 2 363 651),
 (369,hqF 54 5 "turn_to" "Log.turn_to" bQ 368),
 (375,hqM "do_deed" "Log.do_deed" 654 198 3 370 660),
 (376,hqF 54 6 "do_deed" "Log.do_deed" bQ 375),
 (382,hqM "come" "Log.come" 663 203 3 377 670),
 (383,hqF 54 7 "come" "Log.come" bQ 382),
 (389,hqM "put" "Log.put" 673 214 2 384 679),
 (390,hqF 54 8 "put" "Log.put" bQ 389),
 (403,hqM "back" "Log.back" 690 225 1 398 694),
 (404,hqF 54 10 "back" "Log.back" bQ 403),
 (410,hqM "again" "Log.again" 697 228 1 405 701),
 (411,hqF 54 11 "again" "Log.again" bQ 410),
 (422,hqO "patterns" "Log.patterns" 711 234 1 419),
 (423,hqF 54 13 "patterns" "Log.patterns" bQ 422),
 (429,hqM "under" "Log.under" 717 237 2 424 722),
 (430,hqF 54 14 "under" "Log.under" bQ 429),
 (441,hqO "counts" "Log.counts" 733 243 3 438),
 (442,hqF 54 16 "counts" "Log.counts" bQ 441),
 (446,hqO "holes" "Log.holes" 739 247 2 443),
 (447,hqF 54 17 "holes" "Log.holes" bQ 446),
 (449,⟨.type "dict",none,.dict #[hEn P "__module__" 602 bQ,hEn P "__firstlineno__" 606 (.int 170 605),hqR P "__init__" 614 334,hqR P "__len__" 621 341,hqR P "__eq__" 629 348,hqR P "held" 636 355,hqR P "rows_with_falls" 643 362,hqR P "turn_to" 653 369,hqR P "do_deed" 662 376,hqR P "come" 672 383,hqR P "put" 681 390,hqR P "take" 689 397,hqR P "back" 696 404,hqR P "again" 703 411,hqR P "moves" 710 418,hqR P "patterns" 716 423,hqR P "under" 724 430,hqR P "would_fall" 732 437,hqR P "counts" 738 442,hqR P "holes" 744 447,hqR P "__static_attributes__" 750 448,hqR P "__dict__" 752 451,hqR P "__weakref__" 754 452,hEn P "__doc__" 755 (.none),hEn P "__hash__" 756 (.none)] 5,#[]⟩),
 (450,⟨.type "type",none,.cls { name:= "Log",bases:=[.type "object"],mro:=[.ref 450,.type "object"],ns:=449,qualname:= "Log",hasDict:=true,slotNames:=[],subclasses:=[],abstract:=false,collection:=none,hasDel:=false },#[none,none,some (.str "Log" 595),some (.str "Log" 603),some (.builtin "object.__new__"),some (.bool true)]⟩),
 (460,hqC "_law_deck" 761 254 2 455 766),
 (461,hFn 56 "_law_deck" rm 460),
 (467,hqC "_law_pick" 769 258 2 462 776),
 (468,hFn 57 "_law_pick" rm 467),
 (472,hqD "_law_kind" 779 269 1 469),
 (473,hFn 58 "_law_kind" rm 472),
 (477,hqD "_law_word" 785 274 1 474),
 (478,hFn 59 "_law_word" rm 477),
 (482,hqD "_law_line" 791 284 2 479),
 (483,hFn 60 "_law_line" rm 482),
 (487,hqD "_law_lines" 797 286 2 484),
 (488,hFn 61 "_law_lines" rm 487),
 (494,hqC "_law_pattern" 803 297 2 489 812),
 (495,hFn 62 "_law_pattern" rm 494),
 (501,hqC "_law_sieve" 815 309 1 496 819),
 (502,hFn 63 "_law_sieve" rm 501),
 (506,hqD "_law_many" 822 311 3 503),
 (507,hFn 64 "_law_many" rm 506),
 (511,hqD "_law_spans_right" 828 313 3 508),
 (512,hFn 65 "_law_spans_right" rm 511),
 (516,hqD "law" 834 327 1 513),
 (517,hFn 66 "law" rm 516)]
def hLo:List Str:=[("gathered" : Str),("Log" : Str)]
def hH:PySem.W.Hook:=PySem.W.kmHook hK [4,3,20,21,107,108,114,115,121,122,128,129,133,134,140,141,142,148,149,153,154,160,161,167,168,174,175,181,182,188,189,193,194,198,199,205,206,210,211,215,216,217,223,224,228,229,235,236,240,241,245,246,252,253,257,258,259,263,264,270,271,275,276,280,281,287,288,292,293,304,305,314,315,327,333,334,340,341,347,348,354,355,361,362,368,369,375,376,382,383,389,390,403,404,410,411,422,423,429,430,441,442,446,447,449,450,460,461,467,468,472,473,477,478,482,483,487,488,494,495,501,502,506,507,511,512,516,517] (λ_=>by kernel_rfl) [243]
def hX (s:Vx):Bool:=PySem.W.xlAt hV [] s && PySem.W.recOk (PySem.W.RowW.records (PySem.W.OpenRow.toRowW (PySem.W.OpenLaw.row Yl))) s
noncomputable def mS0 (P:Params):List Obj:=[PySem.W.boot_o_0 P,PySem.W.boot_o_1 P,PySem.W.boot_o_2 P]
noncomputable def mS4 (P:Params):List Obj:=[PySem.W.boot_o_4 P,PySem.W.boot_o_5 P,PySem.W.boot_o_6 P,PySem.W.boot_o_7 P,PySem.W.boot_o_8 P,PySem.W.boot_o_9 P,PySem.W.boot_o_10 P,hqU []]
noncomputable def JR (P:Params):List Obj:=[hqB "<module>" 182 1 11,⟨.type "frame",none,.plain,#[some (.ref 13),some (.ref 3),some (.ref 3),none,some (.str "__main__" 164),none,some (.ref 0)]⟩,hqU [],hqN,hqU [.str "k" 190],hqU [],hFz 0 "_wall",hqC "_wall" 187 1 1 15 191,hFn 0 "_wall" (.str "__main__" 164) 20,hqU [.type "ValueError"],⟨.type "builtin_function_or_method",none,.fields #[.builtin "type.__prepare__",.type "type"],#[]⟩,⟨.type "dict",none,.dict #[hEn P "__module__" 203 jo,hEn P "__qualname__" 205 (.str "GatherError" 204),hEn P "__firstlineno__" 207 (.int 5 206),hqR P "__static_attributes__" 208 29] 4,#[]⟩,hqU [],hqN,hqB "GatherError" 198 5 25,hqW 27 24 jo,hqU [],⟨.type "dict",none,.dict #[hEn P "__module__" 203 jo,hEn P "__firstlineno__" 207 (.int 5 206),hqR P "__static_attributes__" 208 29,hqR P "__weakref__" 210 32,hEn P "__doc__" 211 (.none)] 3,#[]⟩]
noncomputable def JS (P:Params):List Obj:=[⟨.type "getset_descriptor",none,.fields #[.str "__weakref__" 209,.ref 31,.builtin "ExceptionGroup.__weakref__",.none],#[]⟩,hqS 31,hqI "object.__init_subclass__" 31,hqU [.ref 31],⟨.type "builtin_function_or_method",none,.fields #[.builtin "type.__prepare__",.type "type"],#[]⟩,⟨.type "dict",none,.dict #[hEn P "__module__" 221 jo,hEn P "__qualname__" 223 (.str "NoJoin" 222),hEn P "__firstlineno__" 225 (.int 7 224),hqR P "__static_attributes__" 226 42] 4,#[]⟩,hqU [],hqN,hqB "NoJoin" 216 7 38,hqW 40 37 jo,hqU [],⟨.type "dict",none,.dict #[hEn P "__module__" 221 jo,hEn P "__firstlineno__" 225 (.int 7 224),hqR P "__static_attributes__" 226 42,hEn P "__doc__" 227 (.none)] 2,#[]⟩,hqE "NoJoin" 31 44 43 35 214 222,hqS 44,hqI "object.__init_subclass__" 44,hqU [.ref 31],⟨.type "builtin_function_or_method",none,.fields #[.builtin "type.__prepare__",.type "type"],#[]⟩,⟨.type "dict",none,.dict #[hEn P "__module__" 237 jo,hEn P "__qualname__" 239 (.str "NoLine" 238),hEn P "__firstlineno__" 241 (.int 9 240),hqR P "__static_attributes__" 242 54] 4,#[]⟩,hqU [],hqN,hqB "NoLine" 232 9 50,hqW 52 49 jo,hqU [],⟨.type "dict",none,.dict #[hEn P "__module__" 237 jo,hEn P "__firstlineno__" 241 (.int 9 240),hqR P "__static_attributes__" 242 54,hEn P "__doc__" 243 (.none)] 2,#[]⟩,hqE "NoLine" 31 56 55 47 230 238,hqS 56,hqI "object.__init_subclass__" 56,hqU [.ref 31],⟨.type "builtin_function_or_method",none,.fields #[.builtin "type.__prepare__",.type "type"],#[]⟩,⟨.type "dict",none,.dict #[hEn P "__module__" 253 jo,hEn P "__qualname__" 255 (.str "NoMoment" 254),hEn P "__firstlineno__" 257 (.int 11 256),hqR P "__init__" 265 72,hqR P "__static_attributes__" 267 73] 5,#[]⟩,hqU [],⟨.none,none,.fields #[.int 13 0,.int 4 0,.ref 71],#[]⟩,hqB "NoMoment" 248 11 62,hqW 64 61 jo,hqU [],hqN,hqU [.str "self" 261,.str "last" 262],hqU [],hqG 5 0 "__init__" "NoMoment.__init__",hqM "__init__" "NoMoment.__init__" 258 13 2 66 263,hqF 5 0 "__init__" "NoMoment.__init__" jo 71,hqU [.str "last" 266],⟨.type "dict",none,.dict #[hEn P "__module__" 253 jo,hEn P "__firstlineno__" 257 (.int 11 256),hqR P "__init__" 265 72,hqR P "__static_attributes__" 267 73,hEn P "__doc__" 268 (.none)] 2,#[]⟩,hqE "NoMoment" 31 75 74 59 246 254,hqS 75,hqI "object.__init_subclass__" 75]
noncomputable def Lx (P:Params):List Obj:=[hqU [.ref 31],⟨.type "builtin_function_or_method",none,.fields #[.builtin "type.__prepare__",.type "type"],#[]⟩,⟨.type "dict",none,.dict #[hEn P "__module__" 278 jo,hEn P "__qualname__" 280 (.str "NoPattern" 279),hEn P "__firstlineno__" 282 (.int 16 281),hqR P "__static_attributes__" 283 85] 4,#[]⟩,hqU [],hqN,hqB "NoPattern" 273 16 81,hqW 83 80 jo,hqU [],⟨.type "dict",none,.dict #[hEn P "__module__" 278 jo,hEn P "__firstlineno__" 282 (.int 16 281),hqR P "__static_attributes__" 283 85,hEn P "__doc__" 284 (.none)] 2,#[]⟩,hqE "NoPattern" 31 87 86 78 271 279,hqS 87,hqI "object.__init_subclass__" 87,hqU [.ref 31],⟨.type "builtin_function_or_method",none,.fields #[.builtin "type.__prepare__",.type "type"],#[]⟩,⟨.type "dict",none,.dict #[hEn P "__module__" 294 jo,hEn P "__qualname__" 296 (.str "TooMany" 295),hEn P "__firstlineno__" 298 (.int 18 297),hqR P "__static_attributes__" 299 97] 4,#[]⟩,hqU [],hqN,hqB "TooMany" 289 18 93,hqW 95 92 jo,hqU [],⟨.type "dict",none,.dict #[hEn P "__module__" 294 jo,hEn P "__firstlineno__" 298 (.int 18 297),hqR P "__static_attributes__" 299 97,hEn P "__doc__" 300 (.none)] 2,#[]⟩,hqE "TooMany" 31 99 98 90 287 295,hqS 99,hqI "object.__init_subclass__" 99,hqU [],hqN,hqU [.str "text" 316,.str "signs" 317],hqU [],hFz 13 "has_only",hqC "has_only" 313 25 2 102 318,hFn 13 "has_only" rg 107,hqU [],hqN,hqU [.str "thing" 324],hqU [],hFz 14 "is_word",hqC "is_word" 321 27 1 109 325,hFn 14 "is_word" rg 114,hqU [],hqN,hqU [.str "word" 331],hqU [],hFz 15 "kind_of",hqC "kind_of" 328 29 1 116 332,hFn 15 "kind_of" rg 121,hqU [],hqN,hqU [.str "line" 338],hqU [],hFz 16 "words_of",hqC "words_of" 335 35 1 123 339,hFn 16 "words_of" rg 128,hqU [],hqN,hFz 17 "is_line",hqD "is_line" 342 37 1 130,hFn 17 "is_line" rg 133,hqU [],hqN,hqU [.str "word" 351],hqU [],hFz 18 "word_key",hqC "word_key" 348 42 1 135 352,hFn 18 "word_key" rg 140,hqU [.str "number" 359,.str "name" 360,.str "any" 361],hqU [],hqN,hqU [.str "thing" 366],hqU [],hFz 22 "is_part",hqC "is_part" 363 47 1 143 367,hFn 22 "is_part" gM 148,hqU [],hqN,hFz 23 "is_pattern",hqD "is_pattern" 370 53 1 150,hFn 23 "is_pattern" gM 153,hqU [],hqN,hqU [.str "part" 379],hqU [],hFz 24 "is_hole",hqC "is_hole" 376 57 1 155 380,hFn 24 "is_hole" gM 160,hqU [],hqN,hqU [.str "part" 386,.str "word" 387],hqU [],hFz 25 "part_takes",hqC "part_takes" 383 59 2 162 388,hFn 25 "part_takes" gM 167,hqU [],hqN,hqU [.str "parts" 394,.str "words" 395,.str "part" 396,.str "word" 397],hqU [],hFz 26 "all_taken",hqC "all_taken" 391 65 2 169 398,hFn 26 "all_taken" gM 174,hqU [],hqN,hqU [.str "pattern" 404,.str "line" 405],hqU [],hFz 27 "fits",hqC "fits" 401 72 2 176 406,hFn 27 "fits" gM 181,hqU [],hqN,hqU [.str "part" 412,.str "kind" 413],hqU [],hFz 28 "kind_of_hole_around",hqC "kind_of_hole_around" 409 74 1 183 414,hFn 28 "kind_of_hole_around" gM 188,hqU [],hqN,hFz 29 "joined_part",hqD "joined_part" 417 79 1 190,hFn 29 "joined_part" gM 193]
noncomputable def JZ (P:Params):List Obj:=[hqU [],hqN,hFz 30 "joined",hqD "joined" 423 86 1 195,hFn 30 "joined" gM 198,hqU [],hqN,hqU [.str "part" 432,.str "length" 433,.str "text" 434],hqU [],hFz 31 "part_key",hqC "part_key" 429 93 1 200 435,hFn 31 "part_key" gM 205,hqU [],hqN,hFz 32 "pattern_key",hqD "pattern_key" 438 98 1 207,hFn 32 "pattern_key" gM 210,hqU [],hqN,hFz 33 "ordered",hqD "ordered" 444 100 1 212,hFn 33 "ordered" gM 215,hqU [.int 3 452,.int 2 453],hqU [],hqN,hqU [.str "rows" 458,.str "keys" 459,.str "groups" 460,.str "row" 461,.str "key" 462],hqU [],hFz 36 "grouped",hqC "grouped" 455 104 2 218 463,hFn 36 "grouped" mQ 223,hqU [],hqN,hFz 37 "words_at",hqD "words_at" 466 109 2 225,hFn 37 "words_at" mQ 228,hqU [],hqN,hqU [.str "group" 475,.str "place" 476],hqU [],hFz 38 "many_unlike_at",hqC "many_unlike_at" 472 111 2 230 477,hFn 38 "many_unlike_at" mQ 235,hqU [],hqN,hFz 39 "is_fit_to_part_at",hqD "is_fit_to_part_at" 480 113 3 237,hFn 39 "is_fit_to_part_at" mQ 240,hqU [],hqN,hFz 40 "place_to_part_at",hqD "place_to_part_at" 486 118 2 242,hFn 40 "place_to_part_at" mQ 245,hqU [],hqN,hqU [.str "group" 495,.str "sieve" 496,.str "place" 497,.str "groups" 498,.str "smaller" 499],hqU [],hFz 41 "parted",hqC "parted" 492 121 2 247 500,hFn 41 "parted" mQ 252,hqU [],hqN,hFz 42 "pattern_of_group",hqD "pattern_of_group" 503 129 1 254,hFn 42 "pattern_of_group" mQ 257,hqU [.ref 217],hqU [],hqN,hFz 43 "gathered",hqD "gathered" 509 131 2 260,hFd 43 "gathered" mQ 263 259,hqU [],hqN,hqU [.str "part" 520],hqU [],hFz 45 "looseness_of_part",hqC "looseness_of_part" 517 138 1 265 521,hFn 45 "looseness_of_part" Eu 270,hqU [],hqN,hFz 46 "looseness",hqD "looseness" 524 142 1 272,hFn 46 "looseness" Eu 275,hqU [],hqN,hFz 47 "falls_under",hqD "falls_under" 530 144 2 277,hFn 47 "falls_under" Eu 280,hqU [],hqN,hqU [.str "things" 545,.str "many" 546,.str "thing" 547],hqU [],hFz 51 "how_often",hqC "how_often" 542 150 1 282 548,hFn 51 "how_often" bQ 287,hqU [],hqN,hFz 52 "words_in_order",hqD "words_in_order" 551 155 1 289,hFn 52 "words_in_order" bQ 292,hqU [],⟨.type "builtin_function_or_method",none,.fields #[.builtin "type.__prepare__",.type "type"],#[]⟩,⟨.type "dict",none,.dict #[hEn P "__module__" 564 bQ,hEn P "__qualname__" 566 (.str "State" 565),hEn P "__firstlineno__" 568 (.int 158 567),hqR P "__init__" 574 305,hqR P "fall_of" 582 312,hqR P "__static_attributes__" 587 313] 6,#[]⟩,hqU [],⟨.none,none,.fields #[.int 160 0,.int 4 0,.ref 304,.int 168 0,.int 4 0,.ref 311],#[]⟩,hqB "State" 559 158 297,hqW 299 296 bQ,hqU [],hqN,hqG 53 0 "__init__" "State.__init__",hqO "__init__" "State.__init__" 569 160 4 301,hqF 53 0 "__init__" "State.__init__" bQ 304,hqU [],hqN,hqU [.str "self" 578,.str "line" 579],hqU [],hqG 53 1 "fall_of" "State.fall_of",hqM "fall_of" "State.fall_of" 575 168 2 306 580,hqF 53 1 "fall_of" "State.fall_of" bQ 311,hqU [.str "by_hand" 583,.str "falls" 584,.str "found" 585,.str "rows" 586],⟨.type "dict",none,.dict #[hEn P "__module__" 564 bQ,hEn P "__firstlineno__" 568 (.int 158 567),hqR P "__init__" 574 305,hqR P "fall_of" 582 312,hqR P "__static_attributes__" 587 313,hqR P "__dict__" 589 316,hqR P "__weakref__" 591 317,hEn P "__doc__" 592 (.none)] 4,#[]⟩,⟨.type "type",none,.cls { name:= "State",bases:=[.type "object"],mro:=[.ref 315,.type "object"],ns:=314,qualname:= "State",hasDict:=true,slotNames:=[],subclasses:=[],abstract:=false,collection:=none,hasDel:=false },#[none,none,some (.str "State" 557),some (.str "State" 565),some (.builtin "object.__new__"),some (.bool true)]⟩,⟨.type "getset_descriptor",none,.fields #[.str "__dict__" 588,.ref 315,.builtin "function.__dict__",.builtin "function.__dict__#set"],#[]⟩,⟨.type "getset_descriptor",none,.fields #[.str "__weakref__" 590,.ref 315,.builtin "ExceptionGroup.__weakref__",.none],#[]⟩,hqS 315,hqI "object.__init_subclass__" 315]
noncomputable def MD (P:Params):List Obj:=[hqU [],⟨.type "builtin_function_or_method",none,.fields #[.builtin "type.__prepare__",.type "type"],#[]⟩,⟨.type "dict",none,.dict #[hEn P "__module__" 602 bQ,hEn P "__qualname__" 604 (.str "Log" 603),hEn P "__firstlineno__" 606 (.int 170 605),hqR P "__init__" 614 334,hqR P "__len__" 621 341,hqR P "__eq__" 629 348,hqR P "held" 636 355,hqR P "rows_with_falls" 643 362,hqR P "turn_to" 653 369,hqR P "do_deed" 662 376,hqR P "come" 672 383,hqR P "put" 681 390,hqR P "take" 689 397,hqR P "back" 696 404,hqR P "again" 703 411,hqR P "moves" 710 418,hqR P "patterns" 716 423,hqR P "under" 724 430,hqR P "would_fall" 732 437,hqR P "counts" 738 442,hqR P "holes" 744 447,hqR P "__static_attributes__" 750 448] 22,#[]⟩,hqU [],⟨.none,none,.fields #[.int 172 0,.int 4 0,.ref 333,.int 179 0,.int 4 0,.ref 340,.int 182 0,.int 4 0,.ref 347,.int 187 0,.int 4 0,.ref 354,.int 190 0,.int 4 0,.ref 361,.int 193 0,.int 4 0,.ref 368,.int 198 0,.int 4 0,.ref 375,.int 203 0,.int 4 0,.ref 382,.int 214 0,.int 4 0,.ref 389,.int 222 0,.int 4 0,.ref 396,.int 225 0,.int 4 0,.ref 403,.int 228 0,.int 4 0,.ref 410,.int 231 0,.int 4 0,.ref 417,.int 234 0,.int 4 0,.ref 422,.int 237 0,.int 4 0,.ref 429,.int 240 0,.int 4 0,.ref 436,.int 243 0,.int 4 0,.ref 441,.int 247 0,.int 4 0,.ref 446],#[]⟩,hqB "Log" 597 170 323,hqW 325 322 bQ,hqU [.ref 217],hqU [],hqN,hqU [.str "self" 610,.str "sieve" 611],hqU [],hqG 54 0 "__init__" "Log.__init__",hqM "__init__" "Log.__init__" 607 172 2 328 612,⟨.type "function",none,.func (KN 54 0 "__init__" "Log.__init__" 3 bQ (.ref 333) 327),#[]⟩,hqU [],hqN,hqU [.str "self" 618],hqU [],hqG 54 1 "__len__" "Log.__len__",hqM "__len__" "Log.__len__" 615 179 1 335 619,hqF 54 1 "__len__" "Log.__len__" bQ 340,hqU [],hqN,hqU [.str "self" 625,.str "other" 626],hqU [],hqG 54 2 "__eq__" "Log.__eq__",hqM "__eq__" "Log.__eq__" 622 182 2 342 627,hqF 54 2 "__eq__" "Log.__eq__" bQ 347,hqU [],hqN,hqU [.str "self" 633],hqU [],hqG 54 3 "held" "Log.held",hqM "held" "Log.held" 630 187 1 349 634,hqF 54 3 "held" "Log.held" bQ 354,hqU [],hqN,hqU [.str "self" 640],hqU [],hqG 54 4 "rows_with_falls" "Log.rows_with_falls",hqM "rows_with_falls" "Log.rows_with_falls" 637 190 1 356 641,hqF 54 4 "rows_with_falls" "Log.rows_with_falls" bQ 361,hqU [],hqN,hqU [.str "self" 647,.str "held" 648,.str "rows" 649,.str "by_hand" 650],hqU [],hqG 54 5 "turn_to" "Log.turn_to",hqM "turn_to" "Log.turn_to" 644 193 2 363 651,hqF 54 5 "turn_to" "Log.turn_to" bQ 368,hqU [],hqN,hqU [.str "self" 657,.str "rows" 658,.str "by_hand" 659],hqU [],hqG 54 6 "do_deed" "Log.do_deed",hqM "do_deed" "Log.do_deed" 654 198 3 370 660,hqF 54 6 "do_deed" "Log.do_deed" bQ 375,hqU [],hqN,hqU [.str "self" 666,.str "moment" 667,.str "line" 668,.str "rows" 669],hqU [],hqG 54 7 "come" "Log.come",hqM "come" "Log.come" 663 203 3 377 670,hqF 54 7 "come" "Log.come" bQ 382,hqU [],hqN,hqU [.str "self" 676,.str "pattern" 677,.str "by_hand" 678],hqU [],hqG 54 8 "put" "Log.put",hqM "put" "Log.put" 673 214 2 384 679,hqF 54 8 "put" "Log.put" bQ 389,hqU [],hqN,hqU [.str "self" 685,.str "pattern" 686],hqU [],hqG 54 9 "take" "Log.take",hqM "take" "Log.take" 682 222 2 391 687,hqF 54 9 "take" "Log.take" bQ 396,hqU [],hqN,hqU [.str "self" 693],hqU [],hqG 54 10 "back" "Log.back",hqM "back" "Log.back" 690 225 1 398 694,hqF 54 10 "back" "Log.back" bQ 403,hqU [],hqN,hqU [.str "self" 700],hqU [],hqG 54 11 "again" "Log.again",hqM "again" "Log.again" 697 228 1 405 701,hqF 54 11 "again" "Log.again" bQ 410,hqU [],hqN,hqU [.str "self" 707],hqU [],hqG 54 12 "moves" "Log.moves",hqM "moves" "Log.moves" 704 231 1 412 708,hqF 54 12 "moves" "Log.moves" bQ 417,hqU [],hqN,hqG 54 13 "patterns" "Log.patterns",hqO "patterns" "Log.patterns" 711 234 1 419,hqF 54 13 "patterns" "Log.patterns" bQ 422,hqU [],hqN,hqU [.str "self" 720,.str "number" 721],hqU [],hqG 54 14 "under" "Log.under",hqM "under" "Log.under" 717 237 2 424 722,hqF 54 14 "under" "Log.under" bQ 429,hqU [],hqN,hqU [.str "self" 728,.str "line" 729],hqU [],hqG 54 15 "would_fall" "Log.would_fall",hqM "would_fall" "Log.would_fall" 725 240 2 431 730,hqF 54 15 "would_fall" "Log.would_fall" bQ 436,hqU [],hqN,hqG 54 16 "counts" "Log.counts",hqO "counts" "Log.counts" 733 243 3 438,hqF 54 16 "counts" "Log.counts" bQ 441,hqU [],hqN,hqG 54 17 "holes" "Log.holes",hqO "holes" "Log.holes" 739 247 2 443,hqF 54 17 "holes" "Log.holes" bQ 446,hqU [.str "ahead" 745,.str "past" 746,.str "sieve" 747,.str "state" 748,.str "taken_back" 749],⟨.type "dict",none,.dict #[hEn P "__module__" 602 bQ,hEn P "__firstlineno__" 606 (.int 170 605),hqR P "__init__" 614 334,hqR P "__len__" 621 341,hqR P "__eq__" 629 348,hqR P "held" 636 355,hqR P "rows_with_falls" 643 362,hqR P "turn_to" 653 369,hqR P "do_deed" 662 376,hqR P "come" 672 383,hqR P "put" 681 390,hqR P "take" 689 397,hqR P "back" 696 404,hqR P "again" 703 411,hqR P "moves" 710 418,hqR P "patterns" 716 423,hqR P "under" 724 430,hqR P "would_fall" 732 437,hqR P "counts" 738 442,hqR P "holes" 744 447,hqR P "__static_attributes__" 750 448,hqR P "__dict__" 752 451,hqR P "__weakref__" 754 452,hEn P "__doc__" 755 (.none),hEn P "__hash__" 756 (.none)] 5,#[]⟩,⟨.type "type",none,.cls { name:= "Log",bases:=[.type "object"],mro:=[.ref 450,.type "object"],ns:=449,qualname:= "Log",hasDict:=true,slotNames:=[],subclasses:=[],abstract:=false,collection:=none,hasDel:=false },#[none,none,some (.str "Log" 595),some (.str "Log" 603),some (.builtin "object.__new__"),some (.bool true)]⟩,⟨.type "getset_descriptor",none,.fields #[.str "__dict__" 751,.ref 450,.builtin "function.__dict__",.builtin "function.__dict__#set"],#[]⟩,⟨.type "getset_descriptor",none,.fields #[.str "__weakref__" 753,.ref 450,.builtin "ExceptionGroup.__weakref__",.none],#[]⟩,hqS 450,hqI "object.__init_subclass__" 450]
noncomputable def mH0 (P:Params):Heap:=⟨(mS0 P++(([⟨.type "dict",none,.dict (hEn P "__name__" 165 jo::O0 P).toArray 14,#[]⟩]:List Obj)++(mS4 P++(([⟨.none,none,.fields Ov.toArray,#[]⟩]:List Obj)++(JR P++(([⟨.type "type",none,.cls { name:= "GatherError",bases:=[.type "ValueError"],mro:=[.ref 31,.type "ValueError",.type "Exception",.type "BaseException",.type "object"],ns:=30,qualname:= "GatherError",hasDict:=true,slotNames:=[],subclasses:=[.ref 44,.ref 56,.ref 75],abstract:=false,collection:=none,hasDel:=false },#[some (.ref 22),none,some (.str "GatherError" 196),some (.str "GatherError" 204),some (.builtin "ValueError.__new__"),some (.bool true)]⟩]:List Obj)++(JS P))))))).toArray,(Yn P).life⟩
noncomputable def mH1 (P:Params):Heap:=⟨(mS0 P++(([⟨.type "dict",none,.dict (hEn P "__name__" 165 gM::M0 P).toArray 36,#[]⟩]:List Obj)++(mS4 P++(([⟨.none,none,.fields O3.toArray,#[]⟩]:List Obj)++(JR P++(([⟨.type "type",none,.cls { name:= "GatherError",bases:=[.type "ValueError"],mro:=[.ref 31,.type "ValueError",.type "Exception",.type "BaseException",.type "object"],ns:=30,qualname:= "GatherError",hasDict:=true,slotNames:=[],subclasses:=[.ref 44,.ref 56,.ref 75,.ref 87,.ref 99],abstract:=false,collection:=none,hasDel:=false },#[some (.ref 22),none,some (.str "GatherError" 196),some (.str "GatherError" 204),some (.builtin "ValueError.__new__"),some (.bool true)]⟩]:List Obj)++(JS P++(Lx P)))))))).toArray,(Yn P).life⟩
noncomputable def mH2 (P:Params):Heap:=⟨(mS0 P++(([⟨.type "dict",none,.dict (hEn P "__name__" 165 bQ::OU P).toArray 57,#[]⟩]:List Obj)++(mS4 P++(([⟨.none,none,.fields Nt.toArray,#[]⟩]:List Obj)++(JR P++(([⟨.type "type",none,.cls { name:= "GatherError",bases:=[.type "ValueError"],mro:=[.ref 31,.type "ValueError",.type "Exception",.type "BaseException",.type "object"],ns:=30,qualname:= "GatherError",hasDict:=true,slotNames:=[],subclasses:=[.ref 44,.ref 56,.ref 75,.ref 87,.ref 99],abstract:=false,collection:=none,hasDel:=false },#[some (.ref 22),none,some (.str "GatherError" 196),some (.str "GatherError" 204),some (.builtin "ValueError.__new__"),some (.bool true)]⟩]:List Obj)++(JS P++(Lx P++(JZ P))))))))).toArray,(Yn P).life⟩
noncomputable def mH3 (P:Params):Heap:=⟨(mS0 P++(([⟨.type "dict",none,.dict (hEn P "__name__" 165 bQ::Nm P).toArray 58,#[]⟩]:List Obj)++(mS4 P++(([⟨.none,none,.fields Qe.toArray,#[]⟩]:List Obj)++(JR P++(([⟨.type "type",none,.cls { name:= "GatherError",bases:=[.type "ValueError"],mro:=[.ref 31,.type "ValueError",.type "Exception",.type "BaseException",.type "object"],ns:=30,qualname:= "GatherError",hasDict:=true,slotNames:=[],subclasses:=[.ref 44,.ref 56,.ref 75,.ref 87,.ref 99],abstract:=false,collection:=none,hasDel:=false },#[some (.ref 22),none,some (.str "GatherError" 196),some (.str "GatherError" 204),some (.builtin "ValueError.__new__"),some (.bool true)]⟩]:List Obj)++(JS P++(Lx P++(JZ P++(MD P)))))))))).toArray,(Yn P).life⟩
def mB:List Stmt:=PySem.W.behindTheImports Y0
def rP:Env:={ scope:=PySem.Challenge.pw_loggather_k26_whole_spans_of_time.main.scope,locals:=mainNs,globals:=mainNs,cells:=[],code:=.ref 13,frame:=some 14 }
def mC:Code:=.body mB rP
theorem mSz (w:Za):((Yn w.params).isNs mainGlobals,(Yn w.params).objs.size,(Yn w.params).nsMap mainGlobals "__annotations__")=(true,11,some (.ref 6)):=by kernel_rfl
theorem mR0 (w:Za) (a:OsState):(PySem.W.topGo treeTable Y0 w 11 (some (.ref 6)) 12 ⟨Yn w.params,Array.mk [],PySem.W.boot_drawn,PySem.W.boot_toks,a⟩ (PySem.W.topStub Y0)).bind (λx=>(PySem.W.segRun treeTable Y0 w 11 (some (.ref 6)) 1 1 x.1 (PySem.W.blockOf mB rP mC ⟨0,0,0,0⟩ [YH ⟨0,0,0,0⟩])).bind λy=>(PySem.W.segRun treeTable Y0 w 11 (some (.ref 6)) 1 896 y.2.1 (PySem.W.piecesOf (mB.take 6) rP mC y.2.2.2 [YH ⟨0,0,0,0⟩])).map λz=>(x.2,y.1,y.2.2.1,z))=some (⟨denote treeTable mC,mC,⟨0,0,0,0⟩,[YH ⟨0,0,0,0⟩]⟩,.next,mC,(.next,⟨mH0 w.params,Array.mk [],⟨0,0,0,0⟩,271,a⟩,mC,⟨11,0,15,24⟩)):=by kernel_rfl
theorem mR1 (w:Za) (a:OsState):PySem.W.segRun treeTable Y0 w 11 (some (.ref 6)) 1 907 ⟨mH0 w.params,Array.mk [],⟨0,0,0,0⟩,271,a⟩ (PySem.W.piecesOf ((mB.drop 6).take 24) rP mC ⟨11,0,15,24⟩ [YH ⟨0,0,0,0⟩])=some (.next,⟨mH1 w.params,Array.mk [],⟨0,0,0,0⟩,423,a⟩,mC,⟨79,0,85,26⟩):=by kernel_rfl
theorem mR2 (w:Za) (a:OsState):PySem.W.segRun treeTable Y0 w 11 (some (.ref 6)) 1 787 ⟨mH1 w.params,Array.mk [],⟨0,0,0,0⟩,423,a⟩ (PySem.W.piecesOf ((mB.drop 30).take 24) rP mC ⟨79,0,85,26⟩ [YH ⟨0,0,0,0⟩])=some (.next,⟨mH2 w.params,Array.mk [],⟨0,0,0,0⟩,595,a⟩,mC,⟨158,0,169,16⟩):=by kernel_rfl
theorem mR3 (w:Za) (a:OsState):PySem.W.segRun treeTable Y0 w 11 (some (.ref 6)) 1 770 ⟨mH2 w.params,Array.mk [],⟨0,0,0,0⟩,595,a⟩ (PySem.W.piecesOf ((mB.drop 54).take 1) rP mC ⟨158,0,169,16⟩ [YH ⟨0,0,0,0⟩])=some (.next,⟨mH3 w.params,Array.mk [],⟨0,0,0,0⟩,759,a⟩,mC,⟨170,0,252,85⟩):=by kernel_rfl
theorem mZ (w:Za) (a:OsState):(PySem.W.segRun treeTable Y0 w 11 (some (.ref 6)) 1 317 ⟨mH3 w.params,Array.mk [],⟨0,0,0,0⟩,759,a⟩ (PySem.W.piecesOf (mB.drop 55) rP mC ⟨170,0,252,85⟩ [YH ⟨0,0,0,0⟩])).bind (λz=>(PySem.W.topRun treeTable Y0 w 11 (some (.ref 6)) 2 z.2.1 ⟨PySem.W.doneF .next,mC,z.2.2.2,[YH ⟨0,0,0,0⟩]⟩).map λr=>(z.1,z.2.2.1,(PySem.W.staticsOk (importedModules PySem.Challenge.pw_loggather_k26_whole_spans_of_time.main.body) (Yn w.params) r.heap && PySem.W.namesBound Y0 r.heap && PySem.W.gensDone r && PySem.W.laidKept (Yn w.params) r.heap),PySem.W.openSeen hV hLo (importedModules PySem.Challenge.pw_loggather_k26_whole_spans_of_time.main.body) hX true r,hH.obs r))=some (.next,mC,true,PySem.W.openGood hV hLo,hH.val w):=by kernel_rfl
theorem mT3 (w:Za) (a:OsState):L2.ux Y0 hV hLo hX hH.obs hH.val Yn 11 (some (.ref 6)) rP mC ⟨0,0,0,0⟩ (770+(317+2)) (mB.drop 54) ⟨158,0,169,16⟩ w ⟨mH2 w.params,Array.mk [],⟨0,0,0,0⟩,595,a⟩:=L2.r9 (mR3 w a) (L2.B0 mB 54 1) (L2.GC (mZ w a))
theorem mT2 (w:Za) (a:OsState):L2.ux Y0 hV hLo hX hH.obs hH.val Yn 11 (some (.ref 6)) rP mC ⟨0,0,0,0⟩ (787+(770+(317+2))) (mB.drop 30) ⟨79,0,85,26⟩ w ⟨mH1 w.params,Array.mk [],⟨0,0,0,0⟩,423,a⟩:=L2.r9 (mR2 w a) (L2.B0 mB 30 24) (mT3 w a)
theorem mT1 (w:Za) (a:OsState):L2.ux Y0 hV hLo hX hH.obs hH.val Yn 11 (some (.ref 6)) rP mC ⟨0,0,0,0⟩ (907+(787+(770+(317+2)))) (mB.drop 6) ⟨11,0,15,24⟩ w ⟨mH0 w.params,Array.mk [],⟨0,0,0,0⟩,271,a⟩:=L2.r9 (mR1 w a) (L2.B0 mB 6 24) (mT2 w a)
theorem hL:PySem.W.LeftO Y0 hV hLo hX hH.obs hH.val 7470:=L2.Gf (c:=mC) (env:=rP) (b:=mB) (n2:=907+(787+(770+(317+2)))) rfl (List.take_append_drop 6 mB) (PySem.W.boot_open (by kernel_rfl) (by decide) (λs=>by kernel_rfl)) mSz mR0 (λw a=>mT1 w a) (by decide)
end K26
namespace L2
open PySem PySem.Spec PyProof.Rows
abbrev Key:=Sum Int Str
def rS:Key->Vy->Bool
 | .inl k,v=>Value.isInt k v
 | .inr x,v=>Value.isStrOf x v
def QA (w:Za):Key->Int
 | .inl k=>hashInt k
 | .inr x=>hashStr w x
theorem bY:∀{k:Key}{v:Vy},rS k v=true->(∃i t,k=Sum.inl i/\v=Value.int i t)\/(∃x t,k=Sum.inr x/\v=Value.str x t)
 | .inl i,v,h=>by
  obtain⟨t,e⟩:=Value.isInt_shape (k:=i) (v:=v) h;exact .inl ⟨i,t,rfl,e⟩
 | .inr x,v,h=>by
  obtain⟨t,e⟩:=Value.isStrOf_shape (x:=x) (v:=v) h;exact .inr ⟨x,t,rfl,e⟩
theorem EB (i:Int) (t:Tok):rS (.inl i) (.int i t)=true:=by simp[rS,Value.isInt]
theorem Ez (x:Str) (t:Tok):rS (.inr x) (.str x t)=true:=by simp[rS,Value.isStrOf]
theorem Mc (a b:Int):decide ((Sum.inl a:Key)=Sum.inl b)=(a == b):=by
 by_cases e:a=b
 ·subst e;simp
 ·have h:¬ (Sum.inl a:Key)=Sum.inl b:=λq=>e (Sum.inl.inj q);rw[Zh h];exact(beq_eq_false_iff_ne.mpr e).symm
theorem L9 (a b:Str):decide ((Sum.inr a:Key)=Sum.inr b)=decide (a=b):=by
 by_cases e:a=b
 ·subst e;simp
 ·have h:¬ (Sum.inr a:Key)=Sum.inr b:=λq=>e (Sum.inr.inj q);rw[Zh h,Zh e]
theorem L4 (a:Int) (b:Str):decide ((Sum.inl a:Key)=Sum.inr b)=false:=Zh (λq=>nomatch q)
theorem Li (a:Str) (b:Int):decide ((Sum.inr a:Key)=Sum.inl b)=false:=Zh (λq=>nomatch q)
def aX (prog:Z9) (w:Za):PySem.KeyKind prog w Key where
 is:=rS
 hash:=QA w
 inj:=λv a b ha hb=>by
  rcases bY ha with⟨i,t,rfl,rfl⟩ | ⟨x,t,rfl,rfl⟩
  ·rcases bY hb with⟨j,u,rfl,e⟩ | ⟨y,u,rfl,e⟩
   ·injection e with e1 _;rw[e1]
   ·exact nomatch e
  ·rcases bY hb with⟨j,u,rfl,e⟩ | ⟨y,u,rfl,e⟩
   ·exact nomatch e
   ·injection e with e1 _;rw[e1]
 byValue:=λk v h=>by
  rcases bY h with⟨i,t,rfl,rfl⟩ | ⟨x,t,rfl,rfl⟩ <;> rfl
 pyHash:=λhv h=>by
  rcases bY hv with⟨i,t,rfl,rfl⟩ | ⟨x,t,rfl,rfl⟩
  ·exact wpAny_pyHash_int h
  ·exact wpAny_pyHash_str h
 eqBool:=λhu hv h=>by
  rcases bY hu with⟨i,t,rfl,rfl⟩ | ⟨x,t,rfl,rfl⟩
  ·rcases bY hv with⟨j,u,rfl,rfl⟩ | ⟨y,u,rfl,rfl⟩
   ·rw[Mc]at h;exact wpAny_eqBool_int h
   ·rw[L4]at h;exact SeqAt.EqAt.int_str i t y u _ _ _ _ h
  ·rcases bY hv with⟨j,u,rfl,rfl⟩ | ⟨y,u,rfl,rfl⟩
   ·rw[Li]at h;exact SeqAt.EqAt.str_int x t j u _ _ _ _ h
   ·rw[L9]at h;exact wpAny_eqBool_str h
 «strs»:=λk x t v h=>by
  rcases bY h with⟨i,u,rfl,e⟩ | ⟨y,u,rfl,e⟩
  ·exact nomatch e
  ·injection e with e1 _;subst e1;cases v <;> rfl
theorem zg (prog:Z9) (w:Za) (i:Int) (t:Tok):(aX prog w).is (.inl i) (.int i t)=true:=EB i t
theorem iL (prog:Z9) (w:Za) (x:Str) (t:Tok):(aX prog w).is (.inr x) (.str x t)=true:=Ez x t
inductive V where
 | non | bl (b:Bool) | int (i:Int) | str (x:Str) | byt (b:Array UInt8) | flt (b:UInt64) | ref (a:Z6) | ty (n:String)
 deriving DecidableEq
def RelV:V->Vy->Prop
 | .non,u=>u=Value.none
 | .bl b,u=>u=Value.bool b
 | .int i,u=>∃t,u=Value.int i t
 | .str x,u=>∃t,u=Value.str x t
 | .byt b,u=>∃t,u=Value.bytes b t
 | .flt b,u=>∃t,u=Value.float b t
 | .ref a,u=>u=Value.ref a
 | .ty n,u=>u=Value.type n
abbrev aR:List V->List Vy->Prop:=Paired RelV
theorem aR.length {xs:List V}{us:List Vy} (r:aR xs us):xs.length=us.length:=Paired.length r
theorem aR.get:∀{xs:List V}{us:List Vy}{i:Nat}{x:V},aR xs us->xs[i]? = some x->∃u,us[i]? = some u/\RelV x u
 | _,_,_,_,.nil,e=>by simp at e
 | _,_,0,_,.cons r _,e=>by simp at e;subst e;exact⟨_,rfl,r⟩
 | _,_,i+1,x,.cons _ t,e=>by
  obtain⟨u,b,a⟩:=aR.get (i:=i) (x:=x) t (by simpa using e);exact⟨u,by simpa using b,a⟩
theorem aR.set {x:V}{u:Vy} (r:RelV x u):∀{xs:List V}{us:List Vy} (i:Nat),aR xs us->aR (xs.set i x) (us.set i u)
 | _,_,_,.nil=>.nil
 | _,_,0,.cons _ t=>.cons r t
 | _,_,i+1,.cons q t=>.cons q (aR.set r i t)
theorem aR.append:∀{xs ys:List V}{us ws:List Vy},aR xs us->aR ys ws->aR (xs++ys) (us++ws)
 | _,_,_,_,.nil,s=>s
 | _,_,_,_,.cons r t,s=>.cons r (aR.append t s)
theorem aR.take:∀{xs:List V}{us:List Vy} (n:Nat),aR xs us->aR (xs.take n) (us.take n)
 | _,_,0,_=>.nil
 | _,_,_+1,.nil=>.nil
 | _,_,n+1,.cons r t=>.cons r (aR.take n t)
theorem aR.drop:∀{xs:List V}{us:List Vy} (n:Nat),aR xs us->aR (xs.drop n) (us.drop n)
 | _,_,0,r=>r
 | _,_,_+1,.nil=>.nil
 | _,_,n+1,.cons _ t=>aR.drop n t
theorem aR.none_of:∀{xs:List V}{us:List Vy}{i:Nat},aR xs us->xs[i]? = none->us[i]? = none:=λ{xs us i} r e=>by
 have h1:=r.length;have h2:xs.length<=i:=Ue.mp e;exact Ue.mpr (by lia)
def jm:Option V->Option Vy->Prop
 | some v,some u=>RelV v u
 | none,none=>True
 | _,_=>False
def KV {κ:Type}:List (κ×V)->List (κ×Vy)->Prop:=Paired λ(p:κ×V) (q:κ×Vy)=>p.1=q.1/\RelV p.2 q.2
def kV:Key->V
 | .inl i=>.int i
 | .inr x=>.str x
inductive HO where
 | lst (xs:List V)
 | tup (xs:List V)
 | dK (kvs:List (Key×V)) | dT (kvs:List (List Key×V))
 | set (S:Int->Bool) (n:Nat)
 | ins (C dx:Z6) (fs:List (Str×V))
 | own (x:Z6)
 | xd (fs:List (Str×V))
 | met (f x:Z6)
 | rng (lo hi:Int)
 | frz (o:Obj) (u:HO)
 | tbl (ps:Array Vy)
 | ext (φ:Heap->Prop)
abbrev Hp:=Z6->Option HO
def upd (H:Hp) (a:Z6) (o:HO):Hp:=λb=>if b=a then some o else H b
theorem ab {H:Hp}{a:Z6}{o:HO}:upd H a o a=some o:=by unfold upd;rw[Zj rfl]
theorem aq {H:Hp}{a b:Z6}{o:HO} (h:b≠a):upd H a o b=H b:=by unfold upd;rw[Zk h]
theorem NH {H:Hp}{a b:Z6}{o u:HO} (h:H a=some o) (h':H b=some u) (d:o≠u):a≠b:=by
 intro e;subst e;rw[h]at h';exact d (Ye h')
theorem aw {H:Hp}{a b:Z6}{o:HO} (h:H a=some o) (h':H b=none):a≠b:=by
 intro e;subst e;rw[h]at h';cases h'
section
variable (P:Z9) (w:Za)
def bW (H:Hp) (h:Heap) (a:Z6):HO->Prop
 | .lst xs=>xs.length<=Zc/\∃(its:List Vy) (n:Nat),aR xs its/\h.get? a=some { cls:=.type "list",data:=.seq its.toArray n }
 | .tup xs=>xs.length<=Zc/\∃its:List Vy,aR xs its/\IsTup h a its.toArray
 | .dK kvs=>kvs.length<=Zc/\(a == sysModules)=false/\∃vs,KV kvs vs/\h.DictOf (aX P w) a vs
 | .dT kvs=>kvs.length<=Zc/\(a == sysModules)=false/\∃xs:List (List Key×Z6×Vy),
   Paired (λ(p:List Key×V) (q:List Key×Z6×Vy)=>p.1=q.1/\H q.2.1=some (.tup (p.1.map kV))/\RelV p.2 q.2.2) kvs xs /\
   ∃o es ep,h.get? a=some o/\o.ExactDict/\o.data = .dict es ep/\es.toList=xs.map (entryOfKey (tupleKind (aX P w)))/\(xs.map (·.1)).Nodup
 | .set S n=>h.SetOf (intKind P w) a S n
 | .ins C dx fs=>H dx=some (.own a)/\fs.length<=1000/\dx≠a/\h.get? a=some (YL C dx) /\
   ∃mA,h.Ns1 dx mA/\(∀f,jm (fs.lookup f) (mA f))/\PySem.Within mA (fs.map (·.1))
 | .own _=>∃o,h.get? a=some o
 | .xd fs=>∃mA,h.Ns1 a mA/\∀f,jm (fs.lookup f) (mA f)
 | .rng lo hi=>∃t u v,h.get? a=some { cls:=.type "range",data:=.fields #[.int lo t,.int hi u,.int 1 v] }
 | .frz o u=>h.get? a=some o/\bW H h a u
 | .tbl ps=>h.get? a=some { cls:=.none,data:=.fields ps }
 | .met f x=>h.get? a=some (PySem.W.methodObj (.ref f) (.ref x))
 | .ext φ=>φ h/\(∃o,h.get? a=some o)/\∀h1 h2:Heap,φ h1->(∀o,h1.get? a=some o->h2.get? a=some o)->φ h2
def HOk (H:Hp) (h:Heap):Prop:=∀a o,H a=some o->bW P w H h a o
end
section
variable {P:Z9}{w:Za}{H H':Hp}{h h':Heap}{a:Z6}{o:HO}
theorem bW.lt (x:bW P w H h a o):a<h.objs.size:=by
 cases o with
 | lst d=>obtain⟨_,_,_,_,e⟩:=x;exact Y3 e
 | tup d=>obtain⟨_,_,_,p⟩:=x;exact p.lt
 | dK b=>obtain⟨_,_,_,_,o,_,_,e,_⟩:=x;exact Y3 e
 | dT b=>obtain⟨_,_,_,_,o,_,_,e,_⟩:=x;exact Y3 e
 | set S n=>obtain⟨o,_,_,_,e,_⟩:=x;exact Y3 e
 | ins C _ c=>obtain⟨_,_,_,e,_⟩:=x;exact Y3 e
 | own y=>obtain⟨_,e⟩:=x;exact Y3 e
 | xd c=>obtain⟨_,⟨_,_,_,e,_⟩,_⟩:=x;exact Y3 e
 | rng _ _=>obtain⟨_,_,_,e⟩:=x;exact Y3 e
 | frz _ u=>obtain⟨e,_⟩:=x;exact Y3 e
 | tbl _=>exact Y3 (show h.get? a=some _ from x)
 | met f y=>exact Y3 (show h.get? a=some _ from x)
 | ext _=>obtain⟨_,⟨_,e⟩,_⟩:=x;exact Y3 e
theorem Paired.Lk {α β:Type}{F G:α->β->Prop}:∀{l₁:List α}{l₂:List β},Paired F l₁ l₂->(∀a b,F a b->G a b)->Paired G l₁ l₂
 | _,_,.nil,_=>.nil
 | _,_,.cons r t,f=>.cons (f _ _ r) (Paired.Lk t f)
theorem bW.wK (x:bW P w H h a o) (k:∀b u,(b=a\/H b=some (.own a))->h.get? b=some u->h'.get? b=some u)
  (G:∀b,H b=some (.own a)->H' b=some (.own a)) (F:∀b xs,H b=some (.tup xs)->H' b=some (.tup xs)):bW P w H' h' a o:=by
 induction o with
 | lst xs=>obtain⟨z,l,n,r,e⟩:=x;exact⟨z,l,n,r,k _ _ (.inl rfl) e⟩
 | tup xs=>obtain⟨z,l,r,g,e,c⟩:=x;exact⟨z,l,r,g,k _ _ (.inl rfl) e,c⟩
 | dK A=>obtain⟨z,y,K,r,g,j,i,e,c⟩:=x;exact⟨z,y,K,r,g,j,i,k _ _ (.inl rfl) e,c⟩
 | dT A=>
  obtain⟨z,y,xs,r,g,j,i,e,c⟩:=x;exact⟨z,y,xs,Paired.Lk r λp q z=>⟨z.1,F _ _ z.2.1,z.2.2⟩,g,j,i,k _ _ (.inl rfl) e,c⟩
 | set S n=>obtain⟨g,j,i,t,e,c⟩:=x;exact⟨g,j,i,t,k _ _ (.inl rfl) e,c⟩
 | ins C _ E=>
  obtain⟨d,z,I,e,s,⟨m,j,i,J,c⟩,r⟩:=x;exact⟨G _ d,z,I,k _ _ (.inl rfl) e,s,⟨m,j,i,k _ _ (.inr d) J,c⟩,r⟩
 | own y=>obtain⟨g,e⟩:=x;exact⟨g,k _ _ (.inl rfl) e⟩
 | xd E=>obtain⟨s,⟨m,j,i,e,c⟩,r⟩:=x;exact⟨s,⟨m,j,i,k _ _ (.inl rfl) e,c⟩,r⟩
 | rng _ _=>obtain⟨t,u,v,e⟩:=x;exact⟨t,u,v,k _ _ (.inl rfl) e⟩
 | frz g u L=>obtain⟨e,q⟩:=x;exact⟨k _ _ (.inl rfl) e,L q⟩
 | tbl D=>
  have e:h.get? a=some { cls:=.none,data:=.fields D }:=x;show h'.get? a=some { cls:=.none,data:=.fields D };exact k a _ (.inl rfl) e
 | met f y=>
  have e:h.get? a=some (PySem.W.methodObj (.ref f) (.ref y)):=x;show h'.get? a=some (PySem.W.methodObj (.ref f) (.ref y));exact k a _ (.inl rfl) e
 | ext _=>obtain⟨p,⟨o,e⟩,B⟩:=x;exact⟨B _ _ p λo q=>k _ _ (.inl rfl) q,⟨o,k _ _ (.inl rfl) e⟩,B⟩
theorem HOk.lt (x:HOk P w H h) (e:H a=some o):a<h.objs.size:=(x a o e).lt
theorem HOk.fresh (x:HOk P w H h) (e:h.objs.size<=a):H a=none:=by
 cases q:H a with
 | none=>rfl
 | some u=>exact absurd (SN (x.lt q) e) (Tf _)
theorem HOk.kept (x:HOk P w H h) (k:∀b u,h.get? b=some u->h'.get? b=some u):HOk P w H h':=λa o e=>
 (x a o e).wK (λb u _ q=>k b u q) (λ_ q=>q) λ_ _ q=>q
theorem HOk.laid (x:HOk P w H h) (k:∀b u,h.get? b=some u->h'.get? b=some u) (i:h.objs.size<=a) (d:bW P w (upd H a o) h' a o):HOk P w (upd H a o) h':=λb u e=>by
 have f:=x.fresh i;by_cases g:b=a
 ·subst g;rw[ab]at e;cases e;exact d
 ·rw[aq g]at e;exact(x b u e).wK (λc v _ q=>k c v q) (λc q=>by rw[aq (aw q f)];exact q) λc _ q=>by rw[aq (aw q f)];exact q
end
def Rd (H:Hp) (a:Z6) (u:HO):Prop:=H a=some u\/∃o,H a=some (.frz o u)
theorem Rd.of {H:Hp}{a:Z6}{u:HO} (h:H a=some u):Rd H a u:=.inl h
theorem Rd.ok {P:Z9}{w:Za}{H:Hp}{h:Heap}{a:Z6}{u:HO} (r:Rd H a u) (x:HOk P w H h):bW P w H h a u:=by
 rcases r with r | ⟨o,r⟩
 ·exact x a u r
 ·obtain⟨_,q⟩:=x a _ r;exact q
def Mut:Option HO->Prop
 | some (.lst _)=>True
 | some (.dK _)=>True
 | some (.dT _)=>True
 | some (.set _ _)=>True
 | some (.ins _ _ _)=>True
 | some (.ext _)=>True
 | _=>False
section
variable {P:Z9}{w:Za}{H:Hp}{h h':Heap}{x e:Z6}{o':HO}
theorem HOk.write (o:HOk P w H h) (mu:Mut (H x)) (l:e=x\/H e=some (.own x)) (k:∀b u,b≠e->h.get? b=some u->h'.get? b=some u) (i:∃u,h'.get? e=some u)
  (j:bW P w (upd H x o') h' x o'):HOk P w (upd H x o') h':=λb u q=>by
 have m:∀c y,H c=some (.own y)->c≠x:=λc y r z=>by subst z;rw[r]at mu;exact mu
 have p:∀c g,H c=some (.tup g)->c≠x:=λc g r z=>by subst z;rw[r]at mu;exact mu
 by_cases d:b=x
 ·subst d;rw[ab]at q;cases q;exact j
 ·rw[aq d]at q;by_cases a:b=e
  ·have n:H b=some (.own x):=by
    rcases l with z | z
    ·exact absurd (a.trans z) d
    ·rw[a];exact z
   rw[q]at n;cases n;obtain⟨v,s⟩:=i;exact⟨v,by rw[a];exact s⟩
  ·refine(o b u q).wK (λc v f r=>k c v ?_ r) (λc r=>by rw[aq (m c b r)];exact r) λc g r=>by rw[aq (p c g r)];exact r
   rcases f with rfl | f
   ·exact a
   ·rintro rfl;rcases l with z | z
    ·exact m c b f z
    ·rw[f]at z;cases z;exact d rfl
end
structure Un (fs ex:List Z6) (H H':Hp) (h h':Heap):Prop where
 keep:∀b o,h.get? b=some o->H b=none->b∉fs->b∉ex->h'.get? b=some o
 slot:∀b o,h.get? b=some o->H b=none->b∈fs->b∉ex->∃sl,h'.get? b=some { o with slots:=sl }
 free:∀b o,h.get? b=some o->H b=none->b∉ex->H' b=none
 there:∀b o,h.get? b=some o->b∉ex->∃o',h'.get? b=some o'
 tG:∀b xs,H b=some (.tup xs)->H' b=some (.tup xs)
 rA:∀b o u,H b=some (.frz o u)->H' b=some (.frz o u)
 qY:∀b ps,H b=some (.tbl ps)->∃more,H' b=some (.tbl (ps++more))
section
variable {fs fs' ex ex':List Z6}{H H1 H2:Hp}{h h1 h2 h':Heap}{a x e:Z6}{o:HO}
theorem Un.any (u:Un fs ex H H1 h h1) {b:Z6}{a:Obj} (q:h.get? b=some a) (n:H b=none) (hx:b∉ex):∃sl,h1.get? b=some { a with slots:=sl }:=by
 by_cases c:b∈fs
 ·exact u.slot b a q n c hx
 ·exact⟨a.slots,u.keep b a q n c hx⟩
theorem Un.trans (a:Un fs ex H H1 h h1) (b:Un fs ex H1 H2 h1 h2):Un fs ex H H2 h h2 where
 keep:=λc e q n g d=>b.keep c e (a.keep c e q n g d) (a.free c e q n d) g d
 slot:=λc e q n g d=>by
  obtain⟨_,f⟩:=a.slot c e q n g d;obtain⟨l,j⟩:=b.slot c _ f (a.free c e q n d) g d;exact⟨l,j⟩
 free:=λc e q n d=>by
  obtain⟨k,f⟩:=a.there c e q d;exact b.free c k f (a.free c e q n d) d
 there:=λc e q d=>by
  obtain⟨k,f⟩:=a.there c e q d;exact b.there c k f d
 tG:=λc i q=>b.tG c i (a.tG c i q)
 rA:=λc e i q=>b.rA c e i (a.rA c e i q)
 qY:=λc o q=>by
  obtain⟨m,f⟩:=a.qY c o q;obtain⟨p,j⟩:=b.qY c _ f;exact⟨m++p,by rw[j,Array.append_assoc]⟩
theorem Un.kept (k:∀b u,h.get? b=some u->h'.get? b=some u):Un fs ex H H h h':=
 ⟨λb a q _ _ _=>k b a q,λb a q _ _ _=>⟨a.slots,k b a q⟩,λ_ _ _ n _=>n,λb a q _=>⟨a,k b a q⟩,λ_ _ q=>q,λ_ _ _ q=>q,λ_ _ q=>⟨#[],by rw[q];simp⟩⟩
theorem Un.refl:Un fs ex H H h h:=Un.kept λ_ _ q=>q
theorem Un.laid (k:∀b u,h.get? b=some u->h'.get? b=some u) (d:h.objs.size<=a) (c:H a=none):Un fs ex H (upd H a o) h h' where
 keep:=λb u q _ _ _=>k b u q
 slot:=λb u q _ _ _=>⟨u.slots,k b u q⟩
 free:=λb u q n _=>by rw[aq (SD (SN (Y3 q) d))];exact n
 there:=λb u q _=>⟨u,k b u q⟩
 tG:=λb e q=>by rw[aq (aw q c)];exact q
 rA:=λb u e q=>by rw[aq (aw q c)];exact q
 qY:=λb _ q=>⟨#[],by rw[aq (aw q c),q];simp⟩
theorem Un.write (mu:Mut (H x)) (l:e=x\/H e=some (.own x)) (k:∀b u,b≠e->h.get? b=some u->h'.get? b=some u) (d:∃u,h'.get? e=some u):Un fs ex H (upd H x o) h h':=by
 have f:∀b,H b=none->b≠x:=λb n z=>by subst z;rw[n]at mu;exact mu
 have g:∀b,H b=none->b≠e:=λb n z=>by
  subst z;rcases l with r | r
  ·exact f b n r
  ·rw[n]at r;cases r
 have c:∀b u,H b=some u -> ¬ Mut (some u)->b≠x:=λb u q i z=>by subst z;rw[q]at mu;exact i mu
 refine⟨λb u q n _ _=>k b u (g b n) q,λb u q n _ _=>⟨u.slots,k b u (g b n) q⟩,λb u q n _=>by rw[aq (f b n)];exact n,λb u q _=>?_,
  λb j q=>by rw[aq (c b _ q λz=>z)];exact q,λb u j q=>by rw[aq (c b _ q λz=>z)];exact q,λb _ q=>⟨#[],by rw[aq (c b _ q λz=>z),q];simp⟩⟩
 by_cases a:b=e
 ·subst a;exact d
 ·exact⟨u,k b u a q⟩
end
def trk (h:Heap) (H:Hp):List Z6:=(Y7 h.objs.size).filter λa=>(H a).isSome
def yq (h:Heap) (H:Hp):Heap:=PySem.W.hideAll h (trk h H)
theorem Ec (h:Heap) (H:Hp):(yq h H).objs.size=h.objs.size:=PySem.W.hideAll_size _ _
theorem zt {h:Heap}{H:Hp}{b:Z6}{o:Obj} (e:h.get? b=some o) (n:H b=none):(yq h H).get? b=some o:=
 PySem.W.hideAll_get _ e λhm=>by
  have q:(H b).isSome=true:=(SM.mp hm).2;rw[n]at q;simp at q
theorem Jt {h:Heap}{H:Hp}{b:Z6}{o:Obj} (e:(yq h H).get? b=some o):h.get? b=some o/\H b=none:=by
 have a:h.get? b=some o:=PySem.W.of_hideAll (trk h H) e;refine⟨a,?_⟩;cases q:H b with
 | none=>rfl
 | some x=>
  have c:b∈trk h H:=SM.mpr ⟨S5.mpr (Y3 a),by simp[q]⟩;have z:(yq h H).get? b=none:=PySem.W.hideAll_none (trk h H) c;rw[z]at e;cases e
def Im (g h:Heap) (L:Z6):List (Z6×Obj):=(Y7 h.objs.size).filterMap λa=>if a=L\/(g.get? a).isSome=true then none else(h.get? a).map λo=>(a,o)
def rest (g h:Heap) (L d:Z6):List (Z6×Obj):=(Im g h L).filter λp=>decide (p.1≠d)
structure Mod (K:Vz) (mg:Str->Option Vy) (base:Heap):Prop where
 kin:K.In base
 glob:base.Ns mainGlobals mg
 blt:∃mb,base.Ns builtinsNs mb/\∀x:Str,x ≠ "__name__" -> mb x=bootBuiltins x
 nolimit:base.NoLimit
structure Cx where
 prog:Z9
 w:Za
 K:Vz
 mg:Str->Option Vy
 base:Heap
 A:Z8
 N:List Str
 s₀:Vx
 H₀:Hp
 env:Env
 outer:List Env
 stack:List Env
 ex:List Z6
 fn:Str->Bool
 calm:Bool
 pn:List (Z6×Obj)
 xe:Vy->Vx->Prop
def frs (l:List Env):List Z6:=l.filterMap (·.frame)
abbrev Cx.fs (X:Cx):List Z6:=frs X.outer
def Vis (sc:Scope) (x:Str):Prop:=sc.names.lookup x=some .local\/sc.names.lookup x=some .cell\/sc.names.lookup x=some .free
def Loc (sc:Scope) (x:Str):Prop:=sc.names.lookup x=some .local\/sc.names.lookup x=some .cell
def Look (env:Env) (h:Heap) (m:Str->Option Vy) (x:Str) (u:Vy):Prop:=
 (env.kindOf x=some .local/\m x=some u)\/((env.kindOf x=some .cell\/env.kindOf x=some .free)/\∃c,env.cells.lookup x=some c/\h.IsCell c (some u))
structure Cx.Ok (X:Cx):Prop where
 mod:Mod X.K X.mg X.base
 kind:X.env.scope.kind = .function
 glob:X.env.globals=mainGlobals
 blt:X.env.builtins=builtinsNs
 above:X.s₀.heap.objs.size<=X.env.locals
 inj:∀x y c,X.env.cells.lookup x=some c->X.env.cells.lookup y=some c->x=y
 has:∀x,(X.env.kindOf x=some .cell\/X.env.kindOf x=some .free)->∃c,X.env.cells.lookup x=some c
 cab:∀x c,X.fn x=true->X.env.cells.lookup x=some c->X.s₀.heap.objs.size<=c
 hd:X.calm=true->X.A.handled=none
 frames:X.A.frames=some X.stack
 stk:X.stack=X.outer\/(X.stack=X.env::X.outer/\X.env.frame=some X.env.locals)
 exf:∀b∈X.ex,b≠X.env.locals/\∀x c,X.env.cells.lookup x=some c->c≠b
 bs:∀b o,X.base.get? b=some o->X.s₀.heap.get? b=some o/\X.H₀ b=none
 bsz:X.base.objs.size<=X.s₀.heap.objs.size
 Gr:∀b o,X.base.get? b=some o->b∉X.ex
 Hn:∀b∈X.ex,b∉X.fs
 ot:X.s₀.heap.FunFrames X.base X.outer
 frf:∀b∈X.fs,X.H₀ b=none
structure Inv (X:Cx) (pins:List (Z6×Obj)) (σ:List (Option V)) (H:Hp) (s:Vx):Prop where
 ok:X.Ok
 os:s.os=X.s₀.os
 bare:AllBare s.gens
 base:Un X.fs X.ex X.H₀ H X.s₀.heap s.heap
 loc:∃m,s.heap.Ns X.env.locals m/\∀(i:Nat) (x:Str) (v:V),X.N[i]? = some x->σ[i]? = some (some v)->Vis X.env.scope x->∃u,RelV v u/\Look X.env s.heap m x u
 cell:∀x c,X.env.cells.lookup x=some c->∃v,s.heap.IsCell c v
 free:H X.env.locals=none
 kG:∀x c,X.env.cells.lookup x=some c->H c=none
 pin:∀p∈X.pn++pins,s.heap.get? p.1=some p.2/\H p.1=none/\p.1≠X.env.locals/\p.1∉X.fs/\∀v,p.2.data ≠ .cell v
 hok:HOk X.prog X.w H s.heap
 len:σ.length=X.N.length
section
variable {X:Cx}{pins:List (Z6×Obj)}{σ:List (Option V)}{H H':Hp}{s:Vx}{h':Heap}
theorem Cx.Ok.O8 (ok:X.Ok) {b:Z6}{o:Obj} (e:X.base.get? b=some o):b∉X.fs:=λhb=>by
 have:=(ok.ot.mem hb).1;rw[e]at this;cases this
theorem Inv.bs (I:Inv X pins σ H s):∀b o,X.base.get? b=some o->s.heap.get? b=some o/\H b=none:=λb o e=>
 ⟨I.base.keep b o (I.ok.bs b o e).1 (I.ok.bs b o e).2 (I.ok.O8 e) (I.ok.Gr b o e),I.base.free b o (I.ok.bs b o e).1 (I.ok.bs b o e).2 (I.ok.Gr b o e)⟩
theorem Inv.bk (I:Inv X pins σ H s):∀b o,X.base.get? b=some o->s.heap.get? b=some o:=λb o e=>(I.bs b o e).1
theorem Inv.mod (I:Inv X pins σ H s):Mod X.K X.mg X.base:=I.ok.mod
theorem Inv.kIn (I:Inv X pins σ H s):X.K.In s.heap:=I.ok.mod.kin.keeps I.bk
theorem Inv.nolimit (I:Inv X pins σ H s):s.heap.NoLimit:=I.ok.mod.nolimit.keeps I.bk
theorem Inv.lt (I:Inv X pins σ H s):X.env.locals<s.heap.objs.size:=let ⟨_,hn,_⟩:=I.loc;hn.lt
theorem Inv.sz (I:Inv X pins σ H s):X.s₀.heap.objs.size<=s.heap.objs.size:=Sl I.ok.above (TF I.lt)
theorem Inv.M5 (I:Inv X pins σ H s) {a:Z6} (h:s.heap.objs.size<=a):a∉X.fs:=λhb=>by
 obtain⟨_,o,ho,_⟩:=I.ok.ot.mem hb;exact absurd (SN (Y3 ho) (Sl I.sz h)) (Tf _)
theorem Inv.cne (I:Inv X pins σ H s):∀x c,X.env.cells.lookup x=some c->c≠X.env.locals:=λx c e z=>by
 obtain⟨v,o,d,f⟩:=I.cell x c e;obtain⟨m,⟨_,_,_,a,b,_⟩,_⟩:=I.loc;rw[z,a]at d;cases d;rw[b]at f;cases f
theorem Inv.ot (I:Inv X pins σ H s):s.heap.FunFrames X.base X.outer:=by
 have d:∀(l:List Env),(∀b∈frs l,b∈X.fs)->X.s₀.heap.FunFrames X.base l->s.heap.FunFrames X.base l:=by
  intro l
  induction l with
  | nil=>intro _ _;trivial
  | cons _ r n=>
   intro f j;obtain⟨h,⟨L,o,a,k,i,g⟩,m⟩:=j;have hL:L∈X.fs:=f L (by unfold frs;rw[Uh,a];exact Sk);obtain⟨_,e⟩:=I.base.slot L o i (I.ok.frf L hL) hL λz=>I.ok.Hn L z hL;exact⟨h,⟨L,_,a,k,e,g⟩,n (λb c=>f b (by unfold frs;rw[Uh,a];exact Sf _ c)) m⟩
 exact d X.outer (λ_ c=>c) I.ok.ot
theorem Inv.stack (I:Inv X pins σ H s):s.heap.FunFrames X.base X.stack:=by
 rcases I.ok.stk with e | ⟨e,a⟩
 ·rw[e];exact I.ot
 ·rw[e];obtain⟨m,b,_⟩:=I.loc;refine .cons (by rw[I.ok.kind];decide) a b ?_ I.ot;exact Heap.get?_none_of_le (Sl I.ok.bsz I.ok.above)
theorem Inv.AU (I:Inv X pins σ H s):∀b∈frs X.stack,b∈X.env.locals::X.fs:=λb a=>by
 rcases I.ok.stk with e | ⟨e,c⟩
 ·rw[e]at a;exact Sf _ a
 ·rw[e]at a;unfold frs at a;rw[Uh,c]at a;exact a
theorem Inv.CC (I:Inv X pins σ H s):∀b∈frs X.stack,H b=none:=λb a=>by
 rcases Su.mp (I.AU b a)with e | a
 ·rw[e];exact I.free
 ·obtain⟨_,o,c,_⟩:=I.ok.ot.mem a;exact I.base.free b o c (I.ok.frf b a) λz=>I.ok.Hn b z a
theorem Inv.step {g':Array GenState}{t':Nat}{d':Drawn}{ch:List Z6} (I:Inv X pins σ H s)
  (j:∀b∈ch,(b∈X.ex\/X.s₀.heap.objs.size<=b)/\b≠X.env.locals/\(∀x c,X.env.cells.lookup x=some c->c≠b)/\∀p∈X.pn++pins,p.1≠b)
  (g:∀b o,b≠X.env.locals->b∉X.fs->b∉ch->s.heap.get? b=some o->H b=none->h'.get? b=some o)
  (slot:∀b o,b≠X.env.locals->b∈X.fs->b∉ch->s.heap.get? b=some o->H b=none->∃sl,h'.get? b=some { o with slots:=sl }) (f:∀b o,b∉ch->s.heap.get? b=some o->H b=none->H' b=none)
  (A:∀b o,b∉ch->s.heap.get? b=some o->∃o',h'.get? b=some o')
  (V:∀b xs,H b=some (.tup xs)->H' b=some (.tup xs)) (Q:∀b o u,H b=some (.frz o u)->H' b=some (.frz o u)) (U:∀b ps,H b=some (.tbl ps)->∃more,H' b=some (.tbl (ps++more)))
  (ns:∀m,s.heap.Ns X.env.locals m->h'.Ns X.env.locals m) (G:HOk X.prog X.w H' h') (O:AllBare g') :
  Inv X pins σ H' { s with heap:=h',gens:=g',drawn:=d',toks:=t' }:=by
 have D:∀b o,X.s₀.heap.get? b=some o->b≠X.env.locals:=λb o e=>SD (SN (Y3 e) I.ok.above);have y:∀b o,X.s₀.heap.get? b=some o->b∉X.ex->b∉ch:=λb o e a B=>by
  rcases(j b B).1 with z | z
  ·exact a z
  ·exact absurd (SN (Y3 e) z) (Tf _)
 have cellK:∀x c,X.env.cells.lookup x=some c->∀v,s.heap.IsCell c v->h'.IsCell c v:=λx c e v ⟨o,C,F⟩=>by
  have h:c∉ch:=λz=>(j c z).2.2.1 x c e rfl;by_cases L:c∈X.fs
  ·obtain⟨sl,q⟩:=slot c o (I.cne x c e) L h C (I.kG x c e);exact⟨_,q,F⟩
  ·exact⟨o,g c o (I.cne x c e) L h C (I.kG x c e),F⟩
 refine⟨I.ok,I.os,O,⟨λb o e n B a=>?_,λb o e n B a=>?_,λb o e n a=>?_,λb o e a=>?_,λb xs e=>V b xs (I.base.tG b xs e),λb o xs e=>Q b o xs (I.base.rA b o xs e),λb ps e=>?_⟩,?_,λx c e=>?_,?_,λx c e=>?_,λp N=>?_,G,I.len⟩
 ·exact g b o (D b o e) B (y b o e a) (I.base.keep b o e n B a) (I.base.free b o e n a)
 ·obtain⟨sl,t⟩:=I.base.slot b o e n B a;obtain⟨J,E⟩:=slot b _ (D b o e) B (y b o e a) t (I.base.free b o e n a);exact⟨J,E⟩
 ·obtain⟨o',t⟩:=I.base.there b o e a;exact f b o' (y b o e a) t (I.base.free b o e n a)
 ·obtain⟨o',t⟩:=I.base.there b o e a;exact A b o' (y b o e a) t
 ·obtain⟨P,t⟩:=I.base.qY b ps e;obtain⟨W,E⟩:=U b _ t;exact⟨P++W,by rw[E,Array.append_assoc]⟩
 ·obtain⟨m,T,S⟩:=I.loc;refine⟨m,ns m T,λi x v t E R=>?_⟩;obtain⟨u,r,l⟩:=S i x v t E R;refine⟨u,r,?_⟩;rcases l with l | ⟨k,c,e,z⟩
  ·exact .inl l
  ·exact .inr ⟨k,c,e,cellK x c e _ z⟩
 ·obtain⟨v,z⟩:=I.cell x c e;exact⟨v,cellK x c e v z⟩
 ·obtain⟨m,⟨o,_,_,C,_⟩,_⟩:=I.loc;exact f _ o (λz=>(j _ z).2.1 rfl) C I.free
 ·obtain⟨v,o,C,F⟩:=I.cell x c e;exact f c o (λz=>(j c z).2.2.1 x c e rfl) C (I.kG x c e)
 ·obtain⟨e,n,M,K,d⟩:=I.pin p N;have h:p.1∉ch:=λz=>(j p.1 z).2.2.2 p N rfl;exact⟨g p.1 p.2 M K h e n,f p.1 p.2 h e n,M,K,d⟩
theorem Inv.un {t':Nat} (I:Inv X pins σ H s) (u:Un X.fs [] H H' s.heap h') (g:HOk X.prog X.w H' h'):Inv X pins σ H' { s with heap:=h',toks:=t' }:=by
 obtain⟨m,⟨o,_,_,h,r⟩,_⟩:=id I.loc;obtain⟨_,hL⟩:=u.any h I.free (by simp);exact I.step (g':=s.gens) (d':=s.drawn) (ch:=[]) (λ_ z=>nomatch z) (λb o _ d _ e n=>u.keep b o e n d (by simp)) (λb o _ d _ e n=>u.slot b o e n d (by simp)) (λb o _ e n=>u.free b o e n (by simp)) (λb o _ e=>u.there b o e (by simp)) u.tG u.rA u.qY (λ_ i=>by
  obtain⟨_,f,c,a,j⟩:=i;rw[h]at a;cases a;exact⟨_,f,c,hL,j⟩) g I.bare
theorem Inv.call {g':Array GenState}{t':Nat}{d':Drawn}{ch:List Z6} (I:Inv X pins σ H s) (u:Un (frs X.stack) ch H H' s.heap h') (i:HOk X.prog X.w H' h') (l:AllBare g')
  (f:∀b∈ch,(b∈X.ex\/X.s₀.heap.objs.size<=b)/\b≠X.env.locals/\(∀x c,X.env.cells.lookup x=some c->c≠b)/\∀p∈X.pn++pins,p.1≠b) :
  Inv X pins σ H' { s with heap:=h',gens:=g',drawn:=d',toks:=t' }:=by
 obtain⟨m,⟨o,_,_,j,r⟩,_⟩:=id I.loc;obtain⟨_,hL⟩:=u.any j I.free λz=>(f _ z).2.1 rfl;exact I.step (ch:=ch) f (λb o hL q a e n=>u.keep b o e n (λz=>(Su.mp (I.AU b z)).elim hL q) a) (λb o _ _ a e n=>u.any e n a) (λb o a e n=>u.free b o e n a) (λb o a e=>u.there b o e a) u.tG u.rA u.qY (λ_ k=>by
  obtain⟨_,h,g,d,t⟩:=k;rw[j]at d;cases d;exact⟨_,h,g,hL,t⟩) i l
theorem Inv.turned {t':Nat}{it:Z6} (I:Inv X pins σ H s) (k:∀b o,b≠it->s.heap.get? b=some o->h'.get? b=some o) (l:H it=none) (hL:it≠X.env.locals)
  (h1:it∈X.ex\/X.s₀.heap.objs.size<=it) (h2:∀x c,X.env.cells.lookup x=some c->c≠it) (f:∀p∈X.pn++pins,p.1≠it):Inv X pins σ H { s with heap:=h',toks:=t' }:=by
 have d:∀b u,H b=some u->b≠it:=λb u e z=>by rw[z,l]at e;cases e
 refine I.step (g':=s.gens) (d':=s.drawn) (ch:=[it]) (λb i=>?_) (λb o _ _ a e _=>k b o (λz=>a (by simp[z])) e) (λb o _ _ a e _=>⟨o.slots,k b o (λz=>a (by simp[z])) e⟩) (λ_ _ _ _ n=>n)
  (λb o a e=>⟨o,k b o (λz=>a (by simp[z])) e⟩) (λ_ _ e=>e) (λ_ _ _ e=>e) (λb _ e=>⟨#[],by rw[e];simp⟩) (λm h=>?_) (λb u e=>?_) I.bare
 ·have e:b=it:=by simpa using i
  subst e;exact⟨h1,hL,h2,f⟩
 ·obtain⟨o,t,g,j,r⟩:=h;exact⟨o,t,g,k _ o (YQ hL) j,r⟩
 ·refine(I.hok b u e).wK (λc v a q=>k c v ?_ q) (λ_ q=>q) λ_ _ q=>q;rcases a with z | z
  ·rw[z];exact d b u e
  ·exact d c _ z
theorem Inv.tok (I:Inv X pins σ H s) (t:Nat):Inv X pins σ H { s with toks:=t }:=I.un (h':=s.heap) (t':=t) Un.refl I.hok
theorem Inv.kept {t':Nat} (I:Inv X pins σ H s) (k:∀b u,s.heap.get? b=some u->h'.get? b=some u):Inv X pins σ H { s with heap:=h',toks:=t' }:=I.un (Un.kept k) (I.hok.kept k)
theorem Inv.laid {a:Z6}{o:HO}{t':Nat} (I:Inv X pins σ H s) (k:∀b u,s.heap.get? b=some u->h'.get? b=some u) (d:s.heap.objs.size<=a) (c:bW X.prog X.w (upd H a o) h' a o) :
  Inv X pins σ (upd H a o) { s with heap:=h',toks:=t' }:=I.un (Un.laid k d (I.hok.fresh d)) (I.hok.laid k d c)
theorem Inv.write {x e:Z6}{o:HO}{t':Nat} (I:Inv X pins σ H s) (mu:Mut (H x)) (d:e=x\/H e=some (.own x)) (k:∀b u,b≠e->s.heap.get? b=some u->h'.get? b=some u) (a:∃u,h'.get? e=some u)
  (c:bW X.prog X.w (upd H x o) h' x o):Inv X pins σ (upd H x o) { s with heap:=h',toks:=t' }:=I.un (Un.write mu d k a) (I.hok.write mu d k a c)
theorem Inv.oF {a:List (Z6×Obj)} (I:Inv X pins σ H s) (h:∀p∈a,s.heap.get? p.1=some p.2/\H p.1=none/\p.1≠X.env.locals/\p.1∉X.fs/\∀v,p.2.data ≠ .cell v):Inv X a σ H s:=
 ⟨I.ok,I.os,I.bare,I.base,I.loc,I.cell,I.free,I.kG,λp b=>(Sz.mp b).elim (λz=>I.pin p (TV _ z)) (h p),I.hok,I.len⟩
theorem yW {N:List Str} (hN:N.Nodup) {i j:Nat}{x:Str} (a:N[i]? = some x) (b:N[j]? = some x):i=j:=by
 obtain⟨h1,e1⟩:=Tn.mp a;obtain⟨h2,e2⟩:=Tn.mp b;exact(List.getElem_inj hN).mp (e1.trans e2.symm)
theorem uY {M:Model}{A:Z8}{E:Vy->Vx->Prop}{i:Nat}{x:Str}{v:V}{u:Vy}{Q:Unit->Vx->Prop} (I:Inv X pins σ H s) (hN:X.N.Nodup) (hi:X.N[i]? = some x) (hx:Loc X.env.scope x) (r:RelV v u)
  (h:∀s',Inv X pins (σ.set i (some v)) H s'->(∃a,YE a s.heap s'.heap/\(a=X.env.locals\/X.env.cells.lookup x=some a))->Q () s') (hf:X.fn x=true\/X.env.scope.names.lookup x=some .local:=by first | exact .inl rfl | exact .inr rfl | assumption):Zd M A (storeName X.env x u) Q E s:=by
 obtain⟨m,hn,hl⟩:=id I.loc;have Rg:(X.env.scope.kind == .class || (X.env.scope.kind == .module && X.env.locals != X.env.globals))=false:=by rw[I.ok.kind];rfl
 have C:i<σ.length:=by rw[I.len];exact(Tn.mp hi).1
 have F:=I.cne;have l:∀{a:Z6}{h':Heap},(∃o,s.heap.get? a=some o/\H a=none)->YE a s.heap h'->HOk X.prog X.w H h':=λ{a h'} ha f b ob e=>by
  obtain⟨_,_,J3⟩:=ha;refine(I.hok b ob e).wK (λc P t q=>(f.2 c ?_).trans q) (λ_ q=>q) λ_ _ q=>q;rintro rfl;rcases t with rfl | t
  ·rw[J3]at e;cases e
  ·rw[J3]at t;cases t
 rcases hx with hk | hk
 ·refine wpAny_storeName_local hk hn (λh' hn' f=>?_) Rg;obtain⟨oL,_,_,Z,_⟩:=id hn;refine h _ ⟨I.ok,I.os,I.bare,⟨λb o e n G hx=>?_,λb o e n G hx=>?_,I.base.free,λb o e hx=>?_,I.base.tG,I.base.rA,I.base.qY⟩,⟨_,hn',λj y U g B Y=>?_⟩,λy c e=>?_,I.free,I.kG,λp hp=>?_,l ⟨oL,Z,I.free⟩ f,by simpa using I.len⟩ ⟨_,f,.inl rfl⟩
  ·exact(f.2 b (SD (SN (Y3 e) I.ok.above))).trans (I.base.keep b o e n G hx)
  ·obtain⟨W,g⟩:=I.base.slot b o e n G hx;exact⟨W,(f.2 b (SD (SN (Y3 e) I.ok.above))).trans g⟩
  ·obtain⟨o',g⟩:=I.base.there b o e hx;exact⟨o',(f.2 b (SD (SN (Y3 e) I.ok.above))).trans g⟩
  ·by_cases J:j=i
   ·subst J;rw[hi]at g;cases g;rw[UU C]at B;cases B;exact⟨u,r,.inl ⟨hk,by simp⟩⟩
   ·rw[List.getElem?_set_ne (YQ J)]at B;obtain⟨u',r',q⟩:=hl j y U g B Y;refine⟨u',r',?_⟩;rcases q with⟨k,e⟩ | ⟨k,c,e,z⟩
    ·refine .inl ⟨k,?_⟩;have:y≠x:=λe=>J (yW hN g (e ▸ hi));simp[this,e]
    ·exact .inr ⟨k,c,e,z.sameBut f (F y c e)⟩
  ·obtain⟨P,z⟩:=I.cell y c e;exact⟨P,z.sameBut f (F y c e)⟩
  ·obtain⟨e,n,S,T,d⟩:=I.pin p hp;exact⟨(f.2 p.1 S).trans e,n,S,T,d⟩
 ·have D:X.fn x=true:=by
   rcases hf with z | z
   ·exact z
   ·rw[z]at hk;cases hk
  obtain⟨c,t⟩:=I.ok.has x (.inl hk);obtain⟨P,z⟩:=I.cell x c t;refine wpAny_storeName_cell I.ok.kind hk t z (λh' L f=>?_);obtain⟨oc,O,QZ⟩:=id z;refine h { s with heap:=h' } ⟨I.ok,I.os,I.bare,⟨λb o e n G hx=>?_,λb o e n G hx=>?_,I.base.free,λb o e hx=>?_,I.base.tG,I.base.rA,I.base.qY⟩,⟨m,hn.sameBut f (YQ (F x c t)),λj y U g B Y=>?_⟩,λy R e=>?_,I.free,I.kG,λp hp=>?_,l ⟨oc,O,I.kG x c t⟩ f,by simpa using I.len⟩ ⟨c,f,.inr t⟩
  ·exact(f.2 b (SD (SN (Y3 e) (I.ok.cab x c D t)))).trans (I.base.keep b o e n G hx)
  ·obtain⟨W,g⟩:=I.base.slot b o e n G hx;exact⟨W,(f.2 b (SD (SN (Y3 e) (I.ok.cab x c D t)))).trans g⟩
  ·obtain⟨o',g⟩:=I.base.there b o e hx;exact⟨o',(f.2 b (SD (SN (Y3 e) (I.ok.cab x c D t)))).trans g⟩
  ·by_cases J:j=i
   ·subst J;rw[hi]at g;cases g;rw[UU C]at B;cases B;exact⟨u,r,.inr ⟨.inl hk,c,t,L⟩⟩
   ·rw[List.getElem?_set_ne (YQ J)]at B;obtain⟨u',r',q⟩:=hl j y U g B Y;refine⟨u',r',?_⟩;rcases q with q | ⟨k,R,e,z'⟩
    ·exact .inl q
    ·refine .inr ⟨k,R,e,z'.sameBut f ?_⟩;rintro rfl;exact J (yW hN g (I.ok.inj _ _ _ e t ▸ hi))
  ·by_cases K:R = c
   ·subst K;exact⟨_,L⟩
   ·obtain⟨w2,z2⟩:=I.cell y R e;exact⟨w2,z2.sameBut f K⟩
  ·obtain⟨e,n,S,T,d⟩:=I.pin p hp;refine⟨(f.2 p.1 ?_).trans e,n,S,T,d⟩;intro q;rw[q,O]at e;have q':oc=p.2:=Ye e;exact d P (by rw[<-q'];exact QZ)
theorem Aa {M:Model}{A:Z8}{E:Vy->Vx->Prop}{i:Nat}{x:Str}{v:V}{u:Vy}{Q:Unit->Vx->Prop} (I:Inv X pins σ H s) (a:X.N.Nodup) (hi:X.N[i]? = some x) (hx:Loc X.env.scope x) (r:RelV v u)
  (h:∀s',Inv X pins (σ.set i (some v)) H s'->Q () s') (c:X.fn x=true\/X.env.scope.names.lookup x=some .local:=by first | exact .inl rfl | exact .inr rfl | assumption):Zd M A (storeName X.env x u) Q E s:=
 uY I a hi hx r (λs' b _=>h s' b) c
theorem Inv.N7 {s':Vx}{ch:List Z6} (I:Inv X pins σ H s) (f:s'.os=s.os) (u:Un (frs X.stack) ch H H' s.heap s'.heap) (a:HOk X.prog X.w H' s'.heap) (g:AllBare s'.gens)
  (d:∀b∈ch,(b∈X.ex\/X.s₀.heap.objs.size<=b)/\b≠X.env.locals/\(∀x c,X.env.cells.lookup x=some c->c≠b)/\∀p∈X.pn++pins,p.1≠b):Inv X pins σ H' s':=by
 obtain⟨_,g',d',t',h⟩:=s';have e:h = s.os:=f;subst e;exact I.call (g':=g') (t':=t') (d':=d') u a g d
end
abbrev XK:=Vy->Option Z6->Hp->Prop
abbrev St:=List (Option V)
abbrev VK:=V->Hp->Prop
abbrev TE:=St->Hp->VK->Prop
abbrev TT:=St->Hp->(Bool->Hp->Prop)->Prop
abbrev TA:=St->Hp->(List V->Hp->Prop)->Prop
structure Ends where
 nx:St->Hp->Prop
 rt:VK
 bk:St->Hp->Prop:=λ_ _=>False
 ct:St->Hp->Prop:=λ_ _=>False
abbrev TS:=Ends->St->Hp->Prop
def EP (X:Cx) (pins:List (Z6×Obj)) (σ:St) (Q:VK) (u:Vy) (s':Vx):Prop:=∃v H',Inv X pins σ H' s'/\RelV v u/\Q v H'
def TP (X:Cx) (pins:List (Z6×Obj)) (σ:St) (Q:Bool->Hp->Prop) (b:Bool) (s':Vx):Prop:=∃H',Inv X pins σ H' s'/\Q b H'
def AP (X:Cx) (pins:List (Z6×Obj)) (σ:St) (Q:List V->Hp->Prop) (us:List Vy) (s':Vx):Prop:=∃vs H',Inv X pins σ H' s'/\aR vs us/\Q vs H'
def SP (X:Cx) (pins:List (Z6×Obj)) (D:Ends) (f:Flow) (s':Vx):Prop:=
 match f with
 | .next=>∃σ' H',Inv X pins σ' H' s'/\D.nx σ' H'
 | .brk=>∃σ' H',Inv X pins σ' H' s'/\D.bk σ' H'
 | .cont=>∃σ' H',Inv X pins σ' H' s'/\D.ct σ' H'
 | .ret u=>∃v σ' H',Inv X pins σ' H' s'/\RelV v u/\D.rt v H'
def PE (X:Cx) (e:Expr) (t:TE):Prop:=
 ∀(pins:List (Z6×Obj)) (s:Vx) (σ:St) (H:Hp) (Q:VK),Inv X pins σ H s->t σ H Q->Zd (model X.prog X.w) X.A (eval e X.env) (EP X pins σ Q) X.xe s
def PT (X:Cx) (e:Expr) (t:TT):Prop:=
 ∀(pins:List (Z6×Obj)) (s:Vx) (σ:St) (H:Hp) (Q:Bool->Hp->Prop),Inv X pins σ H s->t σ H Q->Zd (model X.prog X.w) X.A (isTrue e X.env (eval e X.env)) (TP X pins σ Q) X.xe s
def PW (X:Cx) (e:Expr) (t:TT):Prop:=
 ∀(whole:Sem Vy) (pins:List (Z6×Obj)) (s:Vx) (σ:St) (H:Hp) (Q:Bool->Hp->Prop),Inv X pins σ H s->t σ H Q->Zd (model X.prog X.w) X.A (isTrue e X.env whole) (TP X pins σ Q) X.xe s
theorem PW.pt {X:Cx}{e:Expr}{t:TT} (h:PW X e t):PT X e t:=h _
def PA (X:Cx) (es:List Expr) (t:TA):Prop:=
 ∀(pos:Pos) (pins:List (Z6×Obj)) (s:Vx) (σ:St) (H:Hp) (Q:List V->Hp->Prop),Inv X pins σ H s->t σ H Q->Zd (model X.prog X.w) X.A (spliced (backTo pos (Ze es X.env))) (AP X pins σ Q) X.xe s
def PS (X:Cx) (st:Stmt) (t:TS):Prop:=
 ∀(pins:List (Z6×Obj)) (s:Vx) (σ:St) (H:Hp) (D:Ends),Inv X pins σ H s->t D σ H->Zd (model X.prog X.w) X.A (exec st X.env) (SP X pins D) X.xe s
def PSs (X:Cx) (st:List Stmt) (t:TS):Prop:=
 ∀(pins:List (Z6×Obj)) (s:Vx) (σ:St) (H:Hp) (D:Ends),Inv X pins σ H s->t D σ H->Zd (model X.prog X.w) X.A (execs st X.env) (SP X pins D) X.xe s
theorem thn {α:Type}{t:Sem α}{Q Q':α->Vx->Prop}{M:Model}{A:Z8}{E:Vy->Vx->Prop}{s:Vx} (h:Zd M A t Q E s) (hQ:∀a s,Q a s->Q' a s):Zd M A t Q' E s:=Vt h hQ λ_ _ x=>x
section
variable {X:Cx}
def qX (i:Nat):TE:=λσ H Q=>∃v,σ[i]? = some (some v)/\Q v H
def tC (v:V):TE:=λ_ H Q=>Q v H
theorem Lp {i:Nat}{x:Str}{pos:Pos} (w:X.N[i]? = some x) (o:Vis X.env.scope x) (g:(x == ("__debug__" : Str))=false:=by decide) (f:(x == ("__classdict__" : Str))=false:=by decide):PE X (.Name x pos) (qX i):=by
 intro d s p H Q I h;obtain⟨v,e,h⟩:=h;obtain⟨m,t,q⟩:=I.loc;obtain⟨u,r,l⟩:=q i x v w e o;have b:EP X d p Q u s:=⟨v,H,I,r,h⟩;rcases l with⟨a,n⟩ | ⟨a,c,j,k⟩
 ·exact wpAny_Name (wpAny_loadName_local I.ok.kind a t n b) g
 ·rcases a with a | a
  ·exact wpAny_Name (wpAny_loadName_cell I.ok.kind a j k b) g
  ·exact wpAny_Name (wpAny_loadName_free I.ok.kind a j k b f) g
theorem ap {i j pos}:PE X (.Constant (.int i) j pos) (tC (.int i)):=λ_ _ _ H _ I h=>wpAny_Constant_int ⟨.int i,H,I.tok _,⟨_,rfl⟩,h⟩
theorem kF {b j pos}:PE X (.Constant (.bool b) j pos) (tC (.bl b)):=λ_ _ _ H _ I h=>Constant_bool ⟨.bl b,H,I,rfl,h⟩
theorem uu {j pos}:PE X (.Constant .none j pos) (tC .non):=λ_ _ _ H _ I h=>Constant_none ⟨.non,H,I,rfl,h⟩
theorem aJ {x j pos}:PE X (.Constant (.str x) j pos) (tC (.str x)):=λ_ _ _ H _ I h=>Calls.Constant_str ⟨.str x,H,I.tok _,⟨_,rfl⟩,h⟩
def Gl (X:Cx) (x:Str):Prop:=X.env.kindOf x=some .globalImplicit
theorem md {E:Vy->Vx->Prop}{pins:List (Z6×Obj)}{s:Vx}{σ:St}{H:Hp}{x:Str}{u:Vy}{pos:Pos}{Q:Vy->Vx->Prop} (I:Inv X pins σ H s) (c:Gl X x) (b:X.mg x=some u) (h:Q u s)
  (a:(x == ("__debug__" : Str))=false:=by decide):Zd (model X.prog X.w) X.A (eval (.Name x pos) X.env) Q E s:=
 Calls.Name_function_global I.ok.kind c (Calls.loadGlobal_global (by rw[I.ok.glob];exact I.mod.glob.keeps I.bk) b h) a
theorem eN {E:Vy->Vx->Prop}{pins:List (Z6×Obj)}{s:Vx}{σ:St}{H:Hp}{x:Str}{u:Vy}{pos:Pos}{Q:Vy->Vx->Prop} (I:Inv X pins σ H s) (d:Gl X x) (b:X.mg x=none) (g:bootBuiltins x=some u) (h:Q u s)
  (e:x ≠ "__name__" :=by decide) (a:(x == ("__debug__" : Str))=false:=by decide):Zd (model X.prog X.w) X.A (eval (.Name x pos) X.env) Q E s:=by
 obtain⟨_,c,f⟩:=I.mod.blt;exact Calls.Name_function_global I.ok.kind d (Calls.loadGlobal_builtin (by rw[I.ok.glob];exact I.mod.glob.keeps I.bk) b (by rw[I.ok.blt];exact c.keeps I.bk) ((f x e).trans g) h) a
theorem gp {x:Str}{v:V}{u:Vy}{pos:Pos} (c:Gl X x) (b:X.mg x=some u) (r:RelV v u) (a:(x == ("__debug__" : Str))=false:=by decide):PE X (.Name x pos) (tC v):=
 λ_ _ _ H _ I h=>md I c b ⟨v,H,I,r,h⟩ a
theorem rO {x:Str}{v:V}{u:Vy}{pos:Pos} (c:Gl X x) (b:X.mg x=none) (e:bootBuiltins x=some u) (r:RelV v u) (d:x ≠ "__name__" :=by decide) (a:(x == ("__debug__" : Str))=false:=by decide):PE X (.Name x pos) (tC v):=
 λ_ _ _ H _ I h=>eN I c b e ⟨v,H,I,r,h⟩ d a
variable {a b:Expr}{ta tb:TE}{pos:Pos}
def tB (t:TE):TT:=λσ H Q=>t σ H λx H1=>∃c,x = .bl c/\Q c H1
theorem cU {e:Expr}{t:TE} (h:PE X e t) (j:∀whole,isTrue e X.env whole=(do let v <-whole;standAt e.pos;holding [v] (truthy v)):=by intro _;rfl):PT X e (tB t):=by
 intro a s f H Q I i;refine isTrue_plain (thn (h a s f H _ I i) λv _ ⟨x,c,g,b,k⟩=>?_) (j _);obtain⟨d,rfl,q⟩:=k;cases b;exact wpAny_truthy_bool ⟨c,g,q⟩
variable {tA tB':TT}{rest:List Expr}
def QS (t u:TT):TT:=λσ H Q=>t σ H λc H1=>if c=true then u σ H1 Q else Q false H1
def tOr (t u:TT):TT:=λσ H Q=>t σ H λc H1=>if c=true then Q true H1 else u σ H1 Q
def KD (t:TT):TT:=λσ H Q=>t σ H λc H1=>Q (!c) H1
theorem pw_and1 (f:PT X a tA):PW X (.BoolOp .And [a] pos) tA:=by
 intro _ b s d H Q I h;refine isTrue_and (thn (f b s d H Q I h) λc _ e=>?_);cases c with
 | true=>exact isTrue_and_nil e
 | false=>exact e
theorem pw_or1 (f:PT X a tA):PW X (.BoolOp .Or [a] pos) tA:=by
 intro _ b s d H Q I h;refine isTrue_or (thn (f b s d H Q I h) λc _ e=>?_);cases c with
 | false=>exact isTrue_or_nil e
 | true=>exact e
theorem pw_and (k:PT X a tA) (l:PW X (.BoolOp .And (b::rest) pos) tB'):PW X (.BoolOp .And (a::b::rest) pos) (QS tA tB'):=by
 intro m d s f H Q I h;refine isTrue_and (thn (k d s f H _ I h) λc j ⟨e,g,i⟩=>?_);cases c with
 | true=>exact l m d j f e Q g i
 | false=>exact⟨e,g,i⟩
theorem pw_or (k:PT X a tA) (l:PW X (.BoolOp .Or (b::rest) pos) tB'):PW X (.BoolOp .Or (a::b::rest) pos) (tOr tA tB'):=by
 intro m d s f H Q I h;refine isTrue_or (thn (k d s f H _ I h) λc j ⟨e,g,i⟩=>?_);cases c with
 | true=>exact⟨e,g,i⟩
 | false=>exact l m d j f e Q g i
theorem ip (ha:PT X a tA):PT X (.UnaryOp .Not a pos) (KD tA):=by
 intro pins s σ H Q I h;exact isTrue_not (ha pins s σ H (λc H1=>Q (!c) H1) I h)
def MF (ta tb:TE):TE:=λσ H Q=>ta σ H λx H1=>∃c,x = .bl c/\if c=true then tb σ H1 Q else Q (.bl false) H1
theorem kY {op}{t:TE} (h:PE X a t):PE X (.BoolOp op [a] pos) t:=λpins s σ H Q I hw=>BoolOp_one (h pins s σ H Q I hw)
theorem nR (l:PE X a ta) (m:PE X (.BoolOp .And (b::rest) pos) tb):PE X (.BoolOp .And (a::b::rest) pos) (MF ta tb):=by
 intro d s f H Q I h;refine BoolOp_and (thn (l d s f H _ I h) λv k ⟨x,i,g,j,e⟩=>?_);obtain⟨c,rfl,e⟩:=e;cases j;refine wpAny_truthy_bool ?_;cases c with
 | true=>exact m d k f i Q g e
 | false=>exact⟨.bl false,i,g,rfl,e⟩
def tIf (t:TT) (ta tb:TE):TE:=λσ H Q=>t σ H λc H1=>if c=true then ta σ H1 Q else tb σ H1 Q
theorem l7 {c:Expr} (l:PT X c tA) (m:PE X a ta) (n:PE X b tb):PE X (.IfExp c a b pos) (tIf tA ta tb):=by
 intro e s f H Q I h;refine wpAny_IfExp (thn (l e s f H _ I h) λd i ⟨j,g,k⟩=>?_);cases d with
 | true=>exact m e i f j Q g k
 | false=>exact n e i f j Q g k
end
def SqL (K:Vz) (H:Hp) (a:Z6) (xs:List V):Prop:=
 Rd H a (.lst xs) \/
  ∃(o:Obj) (its:Array Vy) (n:Nat),K.lookup a=some o/\o.cls = .type "list" /\ o.dict=none/\o.data = .seq its n/\its.size<=Zc/\aR xs its.toList
def SqT (K:Vz) (H:Hp) (a:Z6) (xs:List V):Prop:=
 Rd H a (.tup xs) \/
  ∃(o:Obj) (its:Array Vy) (n:Nat),K.lookup a=some o/\o.cls = .type "tuple" /\ o.data = .seq its n/\its.size<=Zc/\aR xs its.toList
def QE:Vy->Option V
 | .none=>some .non
 | .bool b=>some (.bl b)
 | .int i _=>some (.int i)
 | .str x _=>some (.str x)
 | .bytes b _=>some (.byt b)
 | .float b _=>some (.flt b)
 | .ref a=>some (.ref a)
 | .type n=>some (.ty n)
 | _=>none
theorem RelV.abs {x:V}{u:Vy} (r:RelV x u):QE u=some x:=by
 cases x with
 | non=>cases r;rfl
 | bl _=>cases r;rfl
 | int _=>obtain⟨t,rfl⟩:=r;rfl
 | str _=>obtain⟨t,rfl⟩:=r;rfl
 | byt _=>obtain⟨t,rfl⟩:=r;rfl
 | flt _=>obtain⟨t,rfl⟩:=r;rfl
 | ref _=>cases r;rfl
 | ty _=>cases r;rfl
theorem RelV.inj {x y:V}{u:Vy} (r:RelV x u) (q:RelV y u):x=y:=Ye (r.abs.symm.trans q.abs)
theorem aR.inj:∀{xs ys:List V}{us:List Vy},aR xs us->aR ys us->xs=ys
 | _,_,_,.nil,.nil=>rfl
 | _,_,_,.cons r t,.cons r' t'=>by rw[r.inj r',aR.inj t t']
section
variable {X:Cx}{pins:List (Z6×Obj)}{σ:St}{H:Hp}{s:Vx}{a:Z6}{xs ys:List V}
theorem SqL.of {K:Vz} (h:H a=some (.lst xs)):SqL K H a xs:=.inl (.inl h)
theorem SqT.of {K:Vz} (h:H a=some (.tup xs)):SqT K H a xs:=.inl (.inl h)
theorem Inv.list (I:Inv X pins σ H s) (h:SqL X.K H a xs):∃its:List Vy,aR xs its/\PlainL s.heap a its.toArray/\xs.length<=Zc:=by
 rcases h with h | ⟨o,its,n,f,d,c,b,_,r⟩
 ·obtain⟨z,its,n,r,e⟩:=h.ok I.hok;exact⟨its,r,⟨_,n,e,rfl,rfl,rfl⟩,z⟩
 ·refine⟨its.toList,r,⟨o,n,I.kIn a o f,d,c,by simpa using b⟩,?_⟩;have e:=r.length;simp only[SA]at e;lia
theorem Inv.tuple (I:Inv X pins σ H s) (h:SqT X.K H a xs):∃its:List Vy,aR xs its/\IsTup s.heap a its.toArray/\xs.length<=Zc:=by
 rcases h with h | ⟨o,its,n,d,c,b,_,r⟩
 ·obtain⟨z,its,r,p⟩:=h.ok I.hok;exact⟨its,r,p,z⟩
 ·refine⟨its.toList,r,⟨o,I.kIn a o d,c,n,by simpa using b⟩,?_⟩;have e:=r.length;simp only[SA]at e;lia
theorem Inv.n5 (I:Inv X pins σ H s) (h:SqL X.K H a xs) (h':SqL X.K H a ys):xs=ys:=by
 obtain⟨b,r,⟨o,n,e,_,_,d⟩,_⟩:=I.list h;obtain⟨kL,g,⟨_,_,c,_,_,f⟩,_⟩:=I.list h';rw[e]at c;cases c;rw[d]at f;injection f with d1 _;have:b=kL:=by simpa using congrArg Array.toList d1
 subst this;exact r.inj g
theorem Inv.C9 (I:Inv X pins σ H s) (h:SqT X.K H a xs) (h':SqT X.K H a ys):xs=ys:=by
 obtain⟨b,r,⟨o,e,_,n,d⟩,_⟩:=I.tuple h;obtain⟨kL,g,⟨_,c,_,_,f⟩,_⟩:=I.tuple h';rw[e]at c;cases c;rw[d]at f;injection f with d1 _;have:b=kL:=by simpa using congrArg Array.toList d1
 subst this;exact r.inj g
end
abbrev Cx.uM (X:Cx) (E:Vy->Vx->Prop):Cx:={ X with xe:=E }
abbrev Cx.nox (X:Cx):Cx:=X.uM λ_ _=>False
theorem Cx.Ok.uM {X:Cx} (ok:X.Ok) (E:Vy->Vx->Prop):(X.uM E).Ok:=
 ⟨ok.mod,ok.kind,ok.glob,ok.blt,ok.above,ok.inj,ok.has,ok.cab,ok.hd,ok.frames,ok.stk,ok.exf,ok.bs,ok.bsz,ok.Gr,ok.Hn,ok.ot,ok.frf⟩
theorem Cx.Ok.li {X:Cx}{E:Vy->Vx->Prop} (ok:(X.uM E).Ok):X.Ok:=
 ⟨ok.mod,ok.kind,ok.glob,ok.blt,ok.above,ok.inj,ok.has,ok.cab,ok.hd,ok.frames,ok.stk,ok.exf,ok.bs,ok.bsz,ok.Gr,ok.Hn,ok.ot,ok.frf⟩
section
variable {X:Cx}{pins:List (Z6×Obj)}{σ:St}{H:Hp}{s:Vx}{E:Vy->Vx->Prop}
theorem Inv.uM (I:Inv X pins σ H s) (E:Vy->Vx->Prop):Inv (X.uM E) pins σ H s:=⟨I.ok.uM E,I.os,I.bare,I.base,I.loc,I.cell,I.free,I.kG,I.pin,I.hok,I.len⟩
theorem Inv.li (I:Inv (X.uM E) pins σ H s):Inv X pins σ H s:=⟨I.ok.li,I.os,I.bare,I.base,I.loc,I.cell,I.free,I.kG,I.pin,I.hok,I.len⟩
theorem SP.li {D:Ends}{f:Flow}{s':Vx} (h:SP (X.uM E) pins D f s'):SP X pins D f s':=by
 cases f with
 | next=>obtain⟨a,b,I,q⟩:=h;exact⟨a,b,I.li,q⟩
 | brk=>obtain⟨a,b,I,q⟩:=h;exact⟨a,b,I.li,q⟩
 | cont=>obtain⟨a,b,I,q⟩:=h;exact⟨a,b,I.li,q⟩
 | ret u=>obtain⟨v,a,b,I,r,q⟩:=h;exact⟨v,a,b,I.li,r,q⟩
theorem PSs.nox {st:List Stmt}{t:TS} (h:PSs X.nox st t):PSs X st t:=λpins s σ H D I hw=>
 Vt (h pins s σ H D (I.uM _) hw) (λ_ _ q=>q.li) λ_ _ z=>False.elim z
end
section
variable {X:Cx}{st:Stmt}{rest:List Stmt}{t u:TS}{e:Expr}{te:TE}{pos:Pos}
def OY:TS:=λD σ H=>D.nx σ H
def Q4 (t u:TS):TS:=λD σ H=>t { D with nx:=u D } σ H
theorem aO:PSs X [] OY:=λ_ _ σ H _ I h=>wpAny_execs_nil ⟨σ,H,I,h⟩
theorem aj (h1:PS X st t) (h2:PSs X rest u):PSs X (st::rest) (Q4 t u):=by
 intro a s e H D I h;refine wpAny_execs_cons (thn (h1 a s e H { D with nx:=u D } I h) λf g q=>?_);cases f with
 | next=>
  obtain⟨b,c,d,q⟩:=q;exact h2 a g b c D d q
 | ret v=>exact q
 | brk=>exact q
 | cont=>exact q
theorem ak (h1:PS X st t):PSs X [st] t:=by
 intro a s b H D I h;refine wpAny_execs_cons (thn (h1 a s b H D I h) λf _ q=>?_);cases f with
 | next=>exact wpAny_execs_nil q
 | ret v=>exact q
 | brk=>exact q
 | cont=>exact q
theorem Inv.quiet {pins:List (Z6×Obj)}{σ:St}{H:Hp}{s:Vx} (I:Inv X pins σ H s):interactive X.env=false:=by simp[interactive,I.ok.kind]
def NS (te:TE):TS:=λD σ H=>te σ H λ_ H1=>D.nx σ H1
theorem cm (g:PE X e te) (c:swapsWith e none pos.line X.env=pure false:=by rfl):PS X (.Expr e pos) (NS te):=by
 intro a s b H D I h;exact wpAny_Expr_any (thn (g a s b H _ I h) λv _ ⟨x,f,d,_,i⟩=>⟨b,f,d,i⟩) I.quiet c
def N8 (te:TE):TS:=λD σ H=>te σ H D.rt
theorem aC (he:PE X e te):PS X (.Return (some e) pos) (N8 te):=by
 intro pins s σ H D I h;exact wpAny_Return_some (thn (he pins s σ H _ I h) λv s1 ⟨x,H1,I1,r1,q1⟩=>⟨x,σ,H1,I1,r1,q1⟩)
def QW (c:TT) (t u:TS):TS:=λD σ H=>c σ H λb H1=>if b=true then t D σ H1 else u D σ H1
theorem bB {c:Expr}{a b:List Stmt}{tc:TT} (l:PT X c tc) (m:PSs X a t) (n:PSs X b u):PS X (.If c a b pos) (QW tc t u):=by
 intro e s f H D I h;refine wpAny_If (thn (l e s f H _ I h) λd i ⟨j,g,k⟩=>?_);cases d with
 | true=>exact m e i f j D g k
 | false=>exact n e i f j D g k
def KY:TS:=λ_ _ _=>False
theorem e7:PS X st KY:=λ_ _ _ _ _ _ h=>h.elim
end
abbrev TG:=V->St->Hp->(St->Hp->Prop)->Prop
abbrev TGs:=List V->St->Hp->(St->Hp->Prop)->Prop
def PG (X:Cx) (target:Expr) (t:TG):Prop:=
 ∀(pins:List (Z6×Obj)) (s:Vx) (σ:St) (H:Hp) (v:V) (u:Vy) (Q:St->Hp->Prop),Inv X pins σ H s->RelV v u->t v σ H Q ->
  Zd (model X.prog X.w) X.A (assign target X.env u) (λ_ s'=>∃σ' H',Inv X pins σ' H' s'/\Q σ' H') X.xe s
def PGs (X:Cx) (ts:List Expr) (t:TGs):Prop:=
 ∀(pins:List (Z6×Obj)) (s:Vx) (σ:St) (H:Hp) (vs:List V) (us:List Vy) (Q:St->Hp->Prop),Inv X pins σ H s->aR vs us->t vs σ H Q ->
  Zd (model X.prog X.w) X.A (assignInOrder ((assignEach ts X.env).map (·.2)) us) (λ_ s'=>∃σ' H',Inv X pins σ' H' s'/\Q σ' H') X.xe s
abbrev Lu:=V->V->V->Hp->(Hp->Prop)->Prop
def NV (X:Cx) (t:Lu):Prop:=
 ∀(pins:List (Z6×Obj)) (s:Vx) (σ:St) (H:Hp) (o i v:V) (ov iv u:Vy) (Q:Hp->Prop),Inv X pins σ H s->RelV o ov->RelV i iv->RelV v u->t o i v H Q ->
  Zd (model X.prog X.w) X.A (setItem ov iv u) (λ_ s'=>∃H',Inv X pins σ H' s'/\Q H') X.xe s
section
variable {X:Cx}{pos:Pos}
def aN (i:Nat):TG:=λv σ H Q=>Q (σ.set i (some v)) H
theorem av {i:Nat}{x:Str} (b:X.N.Nodup) (hi:X.N[i]? = some x) (hx:Loc X.env.scope x) (c:X.fn x=true\/X.env.scope.names.lookup x=some .local:=by first | exact .inl rfl | exact .inr rfl | assumption):PG X (.Name x pos) (aN i):=by
 intro _ s _ H v u Q I r h;exact wpAny_assign_Name (Aa I b hi hx r (λ_ a=>⟨_,H,a,h⟩) c)
def pH:TGs:=λvs σ H Q=>vs=[]/\Q σ H
def cF (t:TG) (u:TGs):TGs:=λvs σ H Q=>∃v r,vs=v::r/\t v σ H λσ' H'=>u r σ' H' Q
theorem bU:PGs X [] pH:=by
 intro pins s σ H vs us Q I r h;obtain⟨e,h⟩:=h;subst e;cases r;exact assignInOrder_nil ⟨σ,H,I,h⟩
theorem aI {e:Expr}{es:List Expr}{t:TG}{u:TGs} (h1:PG X e t) (h2:PGs X es u)
  (i:(assignEach (e::es) X.env).map (·.2)=assign e X.env::(assignEach es X.env).map (·.2):=by rfl):PGs X (e::es) (cF t u):=by
 intro a s j H _ _ Q I r h;obtain⟨v,_,c,h⟩:=h;subst c;cases r with
 | cons r d=>
  rw[i];refine assignInOrder_cons (thn (h1 a s j H _ _ _ I r h) λ_ l ⟨b,g,f,k⟩=>?_);exact h2 a l b g _ _ Q f d k
def oY (K:Vz) (n:Nat) (t:TGs):TG:=λv σ H Q=>∃a xs,v = .ref a/\SqT K H a xs/\xs.length=n/\t xs σ H Q
theorem c7 {es:List Expr}{k:Nat}{t:TGs}{n:Nat} (w:X.calm=true) (h:PGs X es t)
  (z:(assignEach es X.env).length=n:=by rfl) (f:(assignEach es X.env).findIdx? (·.1)=none:=by rfl):PG X (.Tuple es k pos) (oY X.K n t):=by
 intro c s i H v u Q I r d;obtain⟨a,A,j,y,x,d⟩:=d;subst j;cases r;obtain⟨_,g,m,_⟩:=I.tuple y;refine assign_Tuple_tuple (I.ok.hd w) m (by simp[z,<-x,g.length]) f λq l=>?_;have p:Inv X c i H { s with heap:=q }:=I.kept (t':=s.toks) λb o e=>l b o (SD (Y3 e)) e;exact h c _ i H A _ Q p (by simpa using g) d
def Qu (to ti:TE) (t:Lu):TG:=λv σ H Q=>to σ H λo H1=>ti σ H1 λi H2=>t o i v H2 λH3=>Q σ H3
theorem BU {o i:Expr}{to c:TE}{t:Lu} (n:PE X o to) (hi:PE X i c) (l:NV X t)
  (p:∀v,assign (.Subscript o i pos) X.env v=(do
   let ov <-holding [v] (eval o X.env)
   let iv <-holding [v,ov] (eval i X.env)
   standAt pos
   holding [v,ov,iv] (setItem ov iv v)
   release [v,ov,iv] []):=by intro _;rfl):PG X (.Subscript o i pos) (Qu to c t):=by
 intro a s b H v u Q I r h;rw[p];refine Vw (Vs (thn (n a s b H _ I h) λov A ⟨x,k,g,z,w⟩=>?_));refine Vw (Vs (thn (hi a A b k _ g w) λiv e ⟨y,f,C,j,B⟩=>?_));refine Vw (wpAny_standAt (Vw (Vs (thn (l a e b f x y v ov iv u _ C z j r B) λ_ _ ⟨m,q,d⟩=>?_))));exact wpAny_release ⟨b,m,q,d⟩
def Lz (te:TE) (g:TG):TS:=λD σ H=>te σ H λx H1=>g x σ H1 D.nx
theorem nv {tg e:Expr}{te:TE}{g:TG} (d:PE X e te) (c:PG X tg g) (k:swapsWithSole [tg] e pos.line X.env=pure false:=by rfl) (f:swappedStores [tg] e X.env=pure none:=by rfl)
  (h1:(assignEach [tg] X.env).map (·.2)=[assign tg X.env]:=by rfl):PS X (.Assign [tg] e pos) (Lz te g):=by
 intro a s b H D I h;refine wpAny_Assign_stores (thn (d a s b H _ I h) λv n ⟨x,j,i,m,l⟩=>?_) k f;rw[h1];exact thn (c a n b j x v _ i m l) λ_ _ q=>q
theorem bf {i:Nat}{x:Str}{e:Expr}{te:TE}{pos':Pos} (m:X.N.Nodup) (hi:X.N[i]? = some x) (hx:Loc X.env.scope x) (b:PE X e te) (g:swapsWith e (some (.Name x pos')) pos.line X.env=pure false:=by rfl) (d:X.fn x=true\/X.env.scope.names.lookup x=some .local:=by first | exact .inl rfl | exact .inr rfl | assumption) :
  PS X (.Assign [.Name x pos'] e pos) (Lz te (aN i)):=by
 intro a s j H D I h;refine wpAny_Assign_Name (thn (b a s j H _ I h) λv _ ⟨y,f,c,l,k⟩=>?_) g;exact Aa c m hi hx l (λ_ n=>⟨_,f,n,k⟩) d
end
section
variable {X:Cx}{pos:Pos}
end
structure It where
 go:Nat->Hp->Prop
 yld:Nat->Hp->V->Hp->Prop
 stop:Nat->Hp->Prop
def b6 (X:Cx) (pins:List (Z6×Obj)) (H:Hp) (b:Z6):Prop:=
 H b=none/\b≠X.env.locals/\b∉X.fs/\(b∈X.ex\/X.s₀.heap.objs.size<=b)/\(∀x c,X.env.cells.lookup x=some c->c≠b)/\∀p∈X.pn++pins,p.1≠b
theorem Inv.o8 {X:Cx}{pins:List (Z6×Obj)}{σ:St}{H H':Hp}{s:Vx}{b:Z6} (I:Inv X pins σ H s) (a:s.heap.objs.size<=b) (f:H' b=none):b6 X pins H' b:=by
 refine⟨f,T9 (SN I.lt a),I.M5 a,.inr (Sl I.sz a),λx c e z=>?_,λp d z=>?_⟩
 ·obtain⟨v,q⟩:=I.cell x c e;exact absurd (SN q.lt (by rw[z];exact a)) (Tf _)
 ·exact absurd (SN (Y3 (I.pin p d).1) (by rw[z];exact a)) (Tf _)
structure Turn (P:Z9) (w:Za) (K:Vz) (tg:Expr) (J:It) (fp:List Z6) (it:Z6) (tn:Nat->Heap->Prop):Prop where
 mem:it∈fp
 obj:∀i h,tn i h->∀b∈fp,∃o,h.get? b=some o/\∀v,o.data ≠ .cell v
 keep:∀i h h',tn i h->(∀b∈fp,∀o,h.get? b=some o->h'.get? b=some o)->tn i h'
 item:∀(X:Cx),X.prog=P->X.w=w->X.K=K->X.calm=true->∀(i:Nat) (pins:List (Z6×Obj)) (s:Vx) (σ:St) (H:Hp) (E:Vy->Vx->Prop),Inv X pins σ H s->(∀b∈fp,b6 X pins H b)->tn i s.heap->J.go i H ->
  Zd (model P w) X.A (pyNext (.ref it)) (λr s1=>∃u,r=some u /\
   Zd (model P w) X.A (letOwnedTupleGo tg (.ref it) u) (λ_ s2=>∃x H',Inv X pins σ H' s2/\RelV x u/\J.yld i H x H'/\tn (i+1) s2.heap/\∀b∈fp,H' b=none) E s1) E s
 done:∀(X:Cx),X.prog=P->X.w=w->X.K=K->X.calm=true->∀(i:Nat) (pins:List (Z6×Obj)) (s:Vx) (σ:St) (H:Hp) (E:Vy->Vx->Prop),Inv X pins σ H s->(∀b∈fp,b6 X pins H b)->tn i s.heap->J.stop i H ->
  Zd (model P w) X.A (pyNext (.ref it)) (λr s1=>r=none/\Inv X pins σ H s1) E s
 self:∀(A:Z8) (i:Nat) (s:Vx) (Q:Vy->Vx->Prop) (E:Vy->Vx->Prop),tn i s.heap->Q (.ref it) s->Zd (model P w) A (pyIter (.ref it)) Q E s
abbrev TI:=St->Hp->(It->Hp->Prop)->Prop
def PIE (X:Cx) (pins:List (Z6×Obj)) (σ:St) (tg:Expr) (R:It->Hp->Prop) (itv:Vy) (s2:Vx):Prop:=
 ∃(it:Z6) (fp:List Z6) (tn:Nat->Heap->Prop) (J:It) (H':Hp),itv = .ref it/\Inv X pins σ H' s2/\Turn X.prog X.w X.K tg J fp it tn/\tn 0 s2.heap/\(∀b∈fp,b6 X pins H' b)/\R J H'
def PI (X:Cx) (tg iter:Expr) (wi:TI):Prop:=
 ∀(pins:List (Z6×Obj)) (s:Vx) (σ:St) (H:Hp) (R:It->Hp->Prop),Inv X pins σ H s->wi σ H R ->
  Zd (model X.prog X.w) X.A (eval iter X.env) (λv s1=>Zd (model X.prog X.w) X.A (pyIter v) (PIE X pins σ tg R) X.xe s1) X.xe s
theorem CQ {M:Model}{A:Z8}{E:Vy->Vx->Prop}{s:Vx}{tg:Expr}{it:Z6}{u:Vy}{o:Obj}{n:String}{vs:Array Vy}{Q:Unit->Vx->Prop} (b:s.heap.get? it=some o) (c:o.cls = .type n) (d:o.data = .fields vs)
  (e:["enumerate","zip","dict_itemiterator","dict_reverseitemiterator","odict_iterator","itertools.zip_longest","itertools.pairwise"].contains n=false) (a:Q () s):Zd M A (letOwnedTupleGo tg (.ref it) u) Q E s:=by
 unfold letOwnedTupleGo;cases tg <;> first
  | exact Vv a
  | (cases u <;> first
    | exact Vv a
    | (refine Vw (wpAny_load b ?_)
       rw[c,d];show Zd M A (if (["enumerate","zip","dict_itemiterator","dict_reverseitemiterator","odict_iterator","itertools.zip_longest","itertools.pairwise"].contains n && vs[0]? == some (rawInt _))=true then _ else _) Q E s;rw[Zk (by intro h;rw[e,Bool.false_and]at h;cases h)];exact Vv a))
def Itl (K:Vz) (a:Z6):It:=
 ⟨λi H=>∃xs x,SqL K H a xs/\xs[i]? = some x,λi H x H'=>H' = H/\∀xs,SqL K H a xs->xs[i]? = some x,λi H=>∃xs,SqL K H a xs/\xs.length<=i⟩
def Itt (K:Vz) (a:Z6):It:=
 ⟨λi H=>∃xs x,SqT K H a xs/\xs[i]? = some x,λi H x H'=>H' = H/\∀xs,SqT K H a xs->xs[i]? = some x,λi H=>∃xs,SqT K H a xs/\xs.length<=i⟩
def Itr (lo:Int) (n:Nat):It:=⟨λi _=>i<n,λi H x H'=>H' = H/\x = .int (lo+i),λi _=>n<=i⟩
theorem DY {P:Z9}{w:Za}{K:Vz}{tg:Expr} (a it:Z6):Turn P w K tg (Itl K a) [it] it (λi h=>h.IsListIter it a i) where
 mem:=by simp
 obj:=λi h f b j=>by
  have e:b=it:=by simpa using j
  subst e;obtain⟨o,e,c,d⟩:=f;exact⟨o,e,λv z=>by rw[d]at z;cases z⟩
 keep:=λi h n f k=>f.at λo e=>k it (by simp) o e
 item:=by
  intro X D t hK N i g s M H E I m f r;subst D t hK;obtain⟨Y,x,q,y⟩:=r;obtain⟨L,A,p,S⟩:=I.list q;obtain⟨u,R,T⟩:=A.get y;obtain⟨G,B,O,C,J,F⟩:=m it (by simp);refine wpAny_pyNext_list_item f p.isList (x:=u) (by simpa using R) λn l U=>?_;have W:Inv X g M H { s with heap:=n }:=I.turned (t':=s.toks) (λb o j e=>(U.2 b j).trans e) G B C J F;obtain⟨o,e,c,d⟩:=id l;exact⟨u,rfl,CQ (s:={ s with heap:=n }) e c d (by decide) ⟨x,H,W,T,⟨rfl,λ_ V=>by rw[I.n5 V q];exact y⟩,l,λb j=>(m b j).1⟩⟩
 done:=by
  intro X D t hK N i g s M H E I m f r;subst D t hK;obtain⟨Y,q,y⟩:=r;obtain⟨L,A,p,S⟩:=I.list q;obtain⟨G,B,O,C,J,F⟩:=m it (by simp);have Z:=A.length;exact wpAny_pyNext_list_end (I.ok.hd N) f p.isList (by simp;lia) λn Q=>⟨rfl,I.turned (t':=s.toks) (λb o j e=>Q b o j e) G B C J F⟩
 self:=λ_ _ _ _ _ f h=>wpAny_pyIter_listiter f h
theorem A3 {P:Z9}{w:Za}{K:Vz}{tg:Expr} (a it:Z6):Turn P w K tg (Itt K a) [it] it (λi h=>h.IsTupleIter it a i) where
 mem:=by simp
 obj:=λi h f b j=>by
  have e:b=it:=by simpa using j
  subst e;obtain⟨o,e,c,d⟩:=f;exact⟨o,e,λv z=>by rw[d]at z;cases z⟩
 keep:=λi h q f k=>f.at λo e=>k it (by simp) o e
 item:=by
  intro X F y hK N i g s M H E I n f t;subst F y hK;obtain⟨Y,x,r,A⟩:=t;obtain⟨l,B,p,S⟩:=I.tuple r;obtain⟨u,R,T⟩:=B.get A;obtain⟨J,C,O,D,L,G⟩:=n it (by simp);refine wpAny_pyNext_tuple_item f (show s.heap.IsTuple a l.toArray from p) (x:=u) (by simpa using R) λq m U=>?_;have W:Inv X g M H { s with heap:=q }:=I.turned (t':=s.toks) (λb o j e=>(U.2 b j).trans e) J C D L G;obtain⟨o,e,c,d⟩:=id m;exact⟨u,rfl,CQ (s:={ s with heap:=q }) e c d (by decide) ⟨x,H,W,T,⟨rfl,λ_ V=>by rw[I.C9 V r];exact A⟩,m,λb j=>(n b j).1⟩⟩
 done:=by
  intro X F y hK N i g s M H E I n f t;subst F y hK;obtain⟨Y,r,A⟩:=t;obtain⟨l,B,p,S⟩:=I.tuple r;obtain⟨J,C,O,D,L,G⟩:=n it (by simp);have Z:=B.length;exact wpAny_pyNext_tuple_end (I.ok.hd N) f (show s.heap.IsTuple a l.toArray from p) (by simp;lia) λq Q=>⟨rfl,I.turned (t':=s.toks) (λb o j e=>Q b o j e) J C D L G⟩
 self:=λ_ _ _ _ _ f h=>wpAny_pyIter_tupleiter f h
theorem AL {P:Z9}{w:Za}{K:Vz}{tg:Expr} (it:Z6) (lo:Int) (n:Nat):Turn P w K tg (Itr lo n) [it] it (λi h=>IsRangeIter h it (lo+(i:Nat) * 1) ((n:Int) - (i:Nat)) 1) where
 mem:=by simp
 obj:=λi h a b d=>by
  have e:b=it:=by simpa using d
  subst e;exact⟨_,a,λv z=>by
   have M:Data.fields _=Data.cell v:=z;cases M⟩
 keep:=λi h j a k=>k it (by simp) _ a
 item:=by
  intro X r m hK x i c s C H E I g a l;subst r m hK;obtain⟨y,p,D,q,A,u⟩:=g it (by simp);have W:=Walks.range (prog:=X.prog) (w:=X.w) (I.ok.hd x) it lo 1 n;refine W.item i s _ _ l a λv j B L f G=>?_;obtain⟨t,rfl⟩:=L;have J:Inv X c C H { s with heap:=j,toks:=B }:=I.turned (λb o d e=>G b o (by simpa using d) e) y p q A u;refine⟨_,rfl,CQ (s:={ s with heap:=j,toks:=B }) (n:= "range_iterator") f rfl rfl (by decide) ⟨.int (lo+i),H,J,⟨t,?_⟩,⟨rfl,rfl⟩,f,λb d=>(g b d).1⟩⟩;rw[Int.mul_one]
 done:=by
  intro X r m hK x i c s C H E I g a l;subst r m hK;obtain⟨y,p,D,q,A,u⟩:=g it (by simp);exact wpAny_pyNext_range_end (I.ok.hd x) a (by have:n<=i:=l;lia) λj F=>⟨rfl,I.turned (t':=s.toks) (λb o d e=>F b o d e) y p q A u⟩
 self:=λ_ _ _ _ _ a h=>wpAny_pyIter_rangeiter a h
section
variable {X:Cx}{tg:Expr}
def CD (K:Vz) (tl:TE):TI:=λσ H R=>tl σ H λx H1=>∃a,x = .ref a/\(∃xs,SqL K H1 a xs)/\R (Itl K a) H1
def Ra (K:Vz) (tl:TE):TI:=λσ H R=>tl σ H λx H1=>∃a,x = .ref a/\(∃xs,SqT K H1 a xs)/\R (Itt K a) H1
theorem aM {l:Expr}{tl:TE} (j:PE X l tl):PI X tg l (CD X.K tl):=by
 intro c s i H R I h;refine thn (j c s i H _ I h) λv s1 ⟨x,g,d,n,m⟩=>?_;obtain⟨a,e,⟨_,k⟩,q⟩:=m;subst e;cases n;obtain⟨_,_,p,_⟩:=d.list k;refine wpAny_pyIter_list p.isList ?_;refine⟨s1.heap.objs.size,[s1.heap.objs.size],_,_,g,rfl,d.kept (t':=s1.toks) λb o e=>Vu _ e,DY a _,⟨_,Y2 _ rfl,rfl,rfl⟩,λb f=>?_,q⟩;have e:b=s1.heap.objs.size:=by simpa using f
 subst e;exact d.o8 (Sb _) (d.hok.fresh (Sb _))
theorem K6 {l:Expr}{tl:TE} (k:PE X l tl):PI X tg l (Ra X.K tl):=by
 intro c s j H R I h;refine thn (k c s j H _ I h) λv s1 ⟨x,i,d,r,n⟩=>?_;obtain⟨a,e,⟨_,m⟩,q⟩:=n;subst e;cases r;obtain⟨f,_,p,_⟩:=d.tuple m;refine wpAny_pyIter_tuple (show s1.heap.IsTuple a f.toArray from p) ?_;refine⟨s1.heap.objs.size,[s1.heap.objs.size],_,_,i,rfl,d.kept (t':=s1.toks) λb o e=>Vu _ e,A3 a _,⟨_,Y2 _ rfl,rfl,rfl⟩,λb g=>?_,q⟩;have e:b=s1.heap.objs.size:=by simpa using g
 subst e;exact d.o8 (Sb _) (d.hok.fresh (Sb _))
theorem Fn {pins:List (Z6×Obj)}{σ:St}{H:Hp}{s:Vx}{R:It->Hp->Prop}{E:Vy->Vx->Prop}{lo hi:Int}{t u v:Tok}{tk:Nat} (I:Inv X pins σ H s) (h1 : -(2 ^ 62)<=lo) (h2:lo<2 ^ 62) (c : -(2 ^ 62)<=hi) (d:hi<2 ^ 62)
  (q:R (Itr lo (hi - lo).toNat) H):Zd (model X.prog X.w) X.A (pyIter (.ref s.heap.objs.size)) (PIE X pins σ tg R) E { s with heap:=s.heap.push { cls:=.type "range",data:=.fields #[.int lo t,.int hi u,.int 1 v] },toks:=tk }:=by
 refine wpAny_pyIter_range (IsRange.new ..) (small_one h1 h2 c d) ?_;have a:Inv X pins σ H { s with heap:=s.heap.push { cls:=.type "range",data:=.fields #[.int lo t,.int hi u,.int 1 v] },toks:=tk }:=I.kept λb o e=>Vu _ e;refine⟨(s.heap.push { cls:=.type "range",data:=.fields #[.int lo t,.int hi u,.int 1 v] }).objs.size,[(s.heap.push { cls:=.type "range",data:=.fields #[.int lo t,.int hi u,.int 1 v] }).objs.size],_,_,H,rfl,
  a.kept (t':=tk) λb o e=>Vu _ e,AL _ lo (hi - lo).toNat,?_,λb g=>?_,q⟩
 ·have h:lo+((0:Nat):Int) * 1=lo:=by simp
  have f:(((hi - lo).toNat:Nat):Int) - ((0:Nat):Int)=Builtin.Range.rangeSize lo hi 1:=by rw[rangeSize_one];split <;> lia
  show IsRangeIter _ _ (lo+((0:Nat):Int) * 1) ((((hi - lo).toNat:Nat):Int) - ((0:Nat):Int)) 1;rw[h,f];exact Y2 _ rfl
 ·have e:b=(s.heap.push { cls:=.type "range",data:=.fields #[.int lo t,.int hi u,.int 1 v] }).objs.size:=by simpa using g
  subst e;exact a.o8 (Sb _) (a.hok.fresh (Sb _))
def OM (ta:TA):TI:=λσ H R=>ta σ H λvs H1=>∃j:Int,vs=[.int j] /\ -(2 ^ 62)<=j/\j<2 ^ 62/\R (Itr 0 j.toNat) H1
theorem dN {a:Expr}{ta:TA}{p pos:Pos} (f:Gl X "range") (d:X.mg "range" = none) (m:PA X [a] ta) (k:Ze [a] X.env=[(false,eval a X.env)]:=by rfl):PI X tg (.Call (.Name "range" p) [a] [] pos) (OM ta):=by
 intro b s l H R I h;refine Call_ (eN I f d boot_range (Ym (thn (m pos b s l H _ I h) λ_ _ ⟨_,_,i,n,c⟩=>?_) k rfl));obtain⟨j,e,c,o,q⟩:=c;subst e;cases n with
 | cons r g=>
  cases g;obtain⟨t,rfl⟩:=r;exact call_range_1 (Fn i (by lia) (by lia) c o (by simpa using q))
def Px (wi:TI) (g:TG) (tb:TS):TS:=λD σ H=>wi σ H λJ H1=>∃W:Nat->Nat->St->Hp->Prop,(∃m,W 0 m σ H1)/\∀i m σ H,W i m σ H ->
 (J.stop i H/\D.nx σ H)\/(J.go i H/\∃N:St->Hp->Prop,(∀σ' H',N σ' H'->∃m',m' < m/\W (i+1) m' σ' H')/\∀x H',J.yld i H x H'->g x σ H' λσ2 H2=>tb { D with nx:=N,ct:=N,bk:=D.nx } σ2 H2)
def rR (fp:List Z6) (h:Heap):List (Z6×Obj):=fp.filterMap λb=>(h.get? b).map λo=>(b,o)
theorem j6 {fp:List Z6}{h:Heap}{b:Z6}{o:Obj} (hb:b∈fp) (e:h.get? b=some o):(b,o)∈rR fp h:=UD.mpr ⟨b,hb,by rw[e];rfl⟩
theorem DP {fp:List Z6}{h:Heap}{p:Z6×Obj} (c:p∈rR fp h):p.1∈fp/\h.get? p.1=some p.2:=by
 obtain⟨b,d,e⟩:=UD.mp c;cases q:h.get? b with
 | none=>rw[q]at e;cases e
 | some o=>
  rw[q]at e;have a:(b,o)=p:=Ye e;subst a;exact⟨d,q⟩
theorem Inv.pinned {pins:List (Z6×Obj)}{σ:St}{H:Hp}{s:Vx}{fp:List Z6} (I:Inv X pins σ H s) (j:∀b∈fp,b6 X pins H b) (g:∀b∈fp,∃o,s.heap.get? b=some o/\∀v,o.data ≠ .cell v):Inv X (pins++rR fp s.heap) σ H s:=
 I.oF λp h=>(Sz.mp h).elim (λz=>I.pin p (SO _ z)) λz=>by
  obtain⟨c,e⟩:=DP z;obtain⟨k,i,f,_⟩:=j p.1 c;obtain⟨o,a,d⟩:=g p.1 c;rw[e]at a;cases a;exact⟨e,k,i,f,d⟩
theorem Inv.il {pins pl:List (Z6×Obj)}{σ:St}{H:Hp}{s:Vx} (I:Inv X (pins++pl) σ H s):Inv X pins σ H s:=I.oF λp hp=>I.pin p (SO _ (TV _ hp))
theorem fT {iter:Expr}{t:List Stmt}{wi:TI}{g:TG}{tb:TS}{pos:Pos} (G:PassesOwn (model X.prog X.w) X.A X.env X.xe) (hc:X.calm=true) (hi:PI X tg iter wi) (hg:PG X tg g) (q:PSs X t tb)
  (hs:∀x,foldedSetIterable iter X.env x=pure x:=by intro _;rfl):PS X (.For tg iter t [] pos) (Px wi g tb):=by
 intro a s Z H D I h;refine wpAny_For (thn (hi a s Z H _ I h) λv _ h1=>thn h1 λ_ _ h2=>?_) hs;obtain⟨_,M,tn,J,H2,e,I2,T,P,f2,W,⟨m0,w0⟩,K⟩:=h2;subst e;have Q:∀{H':Hp},(∀b∈M,H' b=none)->∀b∈M,b6 X a H' b:=λhn b q=>⟨hn b q,(f2 b q).2⟩;refine codeAny_forLoop_any (λn s'=>∃i σ' H',Inv X a σ' H' s'/\tn i s'.heap/\(∀b∈M,H' b=none)/\W i n σ' H') ?_ m0 ⟨0,Z,H2,I2,P,λb q=>(f2 b q).1,w0⟩;rintro n s3 ⟨i,j,O,I3,E,C,w3⟩;rcases K i n j O w3 with⟨F,qn⟩ | ⟨go,N,hN,L⟩
 ·refine wpAny_passesOwn G (thn (T.done X rfl rfl rfl hc i a s3 j O X.xe I3 (Q C) E F) λr s4 ⟨R,I4⟩=>?_);subst R;exact wpAny_execs_nil ⟨j,O,I4,qn⟩
 ·refine wpAny_passesOwn G (thn (T.item X rfl rfl rfl hc i a s3 j O X.xe I3 (Q C) E go) λr s4 ⟨u,R,h4⟩=>?_);subst R;refine wpAny_passesOwn G (thn h4 λ_ s5 ⟨x,H5,I5,r5,y5,z,V⟩=>?_);have U:=I5.pinned (Q V) (T.obj _ _ z);refine wpAny_passesOwn G (thn (hg _ s5 j H5 x u _ U r5 (L x H5 y5)) λ_ s6 ⟨Y,H6,I6,q6⟩=>?_);refine wpAny_passesOwn G (thn (q _ s6 Y H6 _ I6 q6) λf S y=>?_);have l:∀{c:St}{k:Hp},Inv X (a++rR M s5.heap) c k S->N c k->∃m,m<n/\∃i σ' H',Inv X a σ' H' S/\tn i S.heap/\(∀b∈M,H' b=none)/\W i m σ' H':=λ{c k} p B=>by
   obtain⟨m',hm,w7⟩:=hN c k B;refine⟨m',hm,i+1,c,k,p.il,T.keep _ _ _ z λb q o e=>(p.pin (b,o) (SO _ (SO _ (j6 q e)))).1,λb q=>?_,w7⟩;obtain⟨o,e,d⟩:=T.obj _ _ z b q;exact(p.pin (b,o) (SO _ (SO _ (j6 q e)))).2.1
  cases f with
  | next=>obtain⟨c,k,p,B⟩:=y;exact l p B
  | cont=>obtain⟨c,k,p,B⟩:=y;exact l p B
  | brk=>obtain⟨c,k,p,y⟩:=y;exact⟨c,k,p.il,y⟩
  | ret v=>obtain⟨x7,c,k,p,r7,y⟩:=y;exact⟨x7,c,k,p.il,r7,y⟩
end
theorem gz {K:Vz}{a:Z6}{xs:List V}{g:TG}{tb:TS}{D:Ends}{σ:St}{H:Hp} (b:Nat->St->Hp->Prop) (h:b 0 σ H) (k:∀i σ H,i<=xs.length->b i σ H->SqL K H a xs)
  (j:∀i x σ H,xs[i]? = some x->b i σ H->g x σ H λσ2 H2=>tb { D with nx:=b (i+1),ct:=b (i+1),bk:=D.nx } σ2 H2) (d:∀σ H,b xs.length σ H->D.nx σ H) :
  ∃W:Nat->Nat->St->Hp->Prop,(∃m,W 0 m σ H)/\∀i m σ H,W i m σ H ->
   ((Itl K a).stop i H/\D.nx σ H)\/((Itl K a).go i H/\∃N:St->Hp->Prop,(∀σ' H',N σ' H'->∃m',m' < m/\W (i+1) m' σ' H')/\∀x H',(Itl K a).yld i H x H'->g x σ H' λσ2 H2=>tb { D with nx:=N,ct:=N,bk:=D.nx } σ2 H2):=by
 refine⟨λi m σ H=>m=xs.length - i/\i<=xs.length/\b i σ H,⟨xs.length,by simp,Sy _,h⟩,?_⟩;rintro i m σ H ⟨rfl,f,p⟩;have q:=k i σ H f p;by_cases c:i<xs.length
 ·refine .inr ⟨⟨xs,xs[i],q,by simp[c]⟩,b (i+1),λσ' H' p'=>⟨xs.length - (i+1),by lia,rfl,c,p'⟩,λx H' y=>?_⟩;obtain⟨e,y⟩:=y;subst e;exact j i x σ _ (y xs q) p
 ·have e:i=xs.length:=by lia
  subst e;exact .inl ⟨⟨xs,q,Sb _⟩,d σ H p⟩
theorem JU {K:Vz}{a:Z6}{xs:List V}{g:TG}{tb:TS}{D:Ends}{σ:St}{H:Hp} (b:Nat->St->Hp->Prop) (h:b 0 σ H) (k:∀i σ H,i<=xs.length->b i σ H->SqT K H a xs)
  (j:∀i x σ H,xs[i]? = some x->b i σ H->g x σ H λσ2 H2=>tb { D with nx:=b (i+1),ct:=b (i+1),bk:=D.nx } σ2 H2) (d:∀σ H,b xs.length σ H->D.nx σ H) :
  ∃W:Nat->Nat->St->Hp->Prop,(∃m,W 0 m σ H)/\∀i m σ H,W i m σ H ->
   ((Itt K a).stop i H/\D.nx σ H)\/((Itt K a).go i H/\∃N:St->Hp->Prop,(∀σ' H',N σ' H'->∃m',m' < m/\W (i+1) m' σ' H')/\∀x H',(Itt K a).yld i H x H'->g x σ H' λσ2 H2=>tb { D with nx:=N,ct:=N,bk:=D.nx } σ2 H2):=by
 refine⟨λi m σ H=>m=xs.length - i/\i<=xs.length/\b i σ H,⟨xs.length,by simp,Sy _,h⟩,?_⟩;rintro i m σ H ⟨rfl,f,p⟩;have q:=k i σ H f p;by_cases c:i<xs.length
 ·refine .inr ⟨⟨xs,xs[i],q,by simp[c]⟩,b (i+1),λσ' H' p'=>⟨xs.length - (i+1),by lia,rfl,c,p'⟩,λx H' y=>?_⟩;obtain⟨e,y⟩:=y;subst e;exact j i x σ _ (y xs q) p
 ·have e:i=xs.length:=by lia
  subst e;exact .inl ⟨⟨xs,q,Sb _⟩,d σ H p⟩
theorem vh {lo:Int}{n:Nat}{g:TG}{tb:TS}{D:Ends}{σ:St}{H:Hp} (a:Nat->St->Hp->Prop) (d:a 0 σ H)
  (c:∀i σ H,i<n->a i σ H->g (.int (lo+i)) σ H λσ2 H2=>tb { D with nx:=a (i+1),ct:=a (i+1),bk:=D.nx } σ2 H2) (f:∀σ H,a n σ H->D.nx σ H) :
  ∃W:Nat->Nat->St->Hp->Prop,(∃m,W 0 m σ H)/\∀i m σ H,W i m σ H ->
   ((Itr lo n).stop i H/\D.nx σ H)\/((Itr lo n).go i H/\∃N:St->Hp->Prop,(∀σ' H',N σ' H'->∃m',m' < m/\W (i+1) m' σ' H')/\∀x H',(Itr lo n).yld i H x H'->g x σ H' λσ2 H2=>tb { D with nx:=N,ct:=N,bk:=D.nx } σ2 H2):=by
 refine⟨λi m σ H=>m=n - i/\i<=n/\a i σ H,⟨n,by simp,Sy _,d⟩,?_⟩;rintro i m σ H ⟨rfl,_,p⟩;by_cases b:i<n
 ·refine .inr ⟨b,a (i+1),λσ' H' p'=>⟨n - (i+1),by lia,rfl,b,p'⟩,λx H' y=>?_⟩;obtain⟨e,y⟩:=y;subst e y;exact c i σ _ b p
 ·have e:i=n:=by lia
  subst e;exact .inl ⟨Sb _,f σ H p⟩
abbrev R2:=V->V->Hp->VK->Prop
def OpR (X:Cx) (f:Vy->Vy->Sem Vy) (r:R2):Prop:=
 ∀(pins:List (Z6×Obj)) (s:Vx) (σ:St) (H:Hp) (x y:V) (v u:Vy) (Q:VK),Inv X pins σ H s->RelV x v->RelV y u->r x y H Q ->
  Zd (model X.prog X.w) X.A (f v u) (EP X pins σ Q) X.xe s
def UnR (X:Cx) (f:Vy->Sem Vy) (r:V->Hp->VK->Prop):Prop:=
 ∀(pins:List (Z6×Obj)) (s:Vx) (σ:St) (H:Hp) (x:V) (v:Vy) (Q:VK),Inv X pins σ H s->RelV x v->r x H Q ->
  Zd (model X.prog X.w) X.A (f v) (EP X pins σ Q) X.xe s
def gQ (X:Cx) (f:Vy) (r:List V->Hp->VK->Prop):Prop:=
 ∀(pins:List (Z6×Obj)) (s:Vx) (σ:St) (H:Hp) (xs:List V) (us:List Vy) (Q:VK),Inv X pins σ H s->aR xs us->r xs H Q ->
  Zd (model X.prog X.w) X.A (call f us) (EP X pins σ Q) X.xe s
def O9 (X:Cx) (r:V->Hp->(Bool->Hp->Prop)->Prop):Prop:=
 ∀(pins:List (Z6×Obj)) (s:Vx) (σ:St) (H:Hp) (x:V) (v:Vy) (Q:Bool->Hp->Prop),Inv X pins σ H s->RelV x v->r x H Q ->
  Zd (model X.prog X.w) X.A (truthy v) (TP X pins σ Q) X.xe s
def tOp (r:R2) (ta tb:TE):TE:=λσ H Q=>ta σ H λx H1=>tb σ H1 λy H2=>r x y H2 Q
def tUn (r:V->Hp->VK->Prop) (ta:TE):TE:=λσ H Q=>ta σ H λx H1=>r x H1 Q
def rI (C:Int->Int->Prop) (g:Int->Int->V):R2:=λx y H Q=>∃i j,x = .int i/\y = .int j/\C i j/\Q (g i j) H
def rI0 (g:Int->Int->V):R2:=λx y H Q=>∃i j,x = .int i/\y = .int j/\Q (g i j) H
def rU (g:Int->V):V->Hp->VK->Prop:=λx H Q=>∃i,x = .int i/\Q (g i) H
section
variable {X:Cx}{a b c:Expr}{ta tb tc:TE}{pos:Pos}
theorem Ky (i:PE X a ta) (e:PE X b tb) {pins:List (Z6×Obj)}{s:Vx}{σ:St}{H:Hp}{R:V->V->Hp->Prop} (I:Inv X pins σ H s)
  (h:ta σ H λx H1=>tb σ H1 λy H2=>R x y H2) {Q:Vy->Vx->Prop}{f:Vy->Vy->Sem Vy}
  (j:∀v u s2 x y H2,Inv X pins σ H2 s2->RelV x v->RelV y u->R x y H2->Zd (model X.prog X.w) X.A (f v u) Q X.xe s2) :
  Zd (model X.prog X.w) X.A (eval a X.env) (λv s₁=>Zd (model X.prog X.w) X.A (eval b X.env) (λu s₂=>Zd (model X.prog X.w) X.A (f v u) Q X.xe s₂) X.xe s₁) X.xe s:=by
 refine thn (i pins s σ H _ I h) λv k ⟨x,H1,d,c,n⟩=>?_;refine thn (e pins k σ H1 _ d n) λu s2 ⟨y,H2,m,g,l⟩=>?_;exact j v u s2 x y H2 m c g l
theorem bw {op:Operator}{r:R2} (j:OpR X (binaryOp op) r) (l:PE X a ta) (g:PE X b tb):PE X (.BinOp a op b pos) (tOp r ta tb):=by
 intro c s i H Q I h;exact wpAny_BinOp (Ky l g I h λv u d x y f m e k q=>j c d i f x y v u Q m e k q)
theorem CH {op:UnaryOp}{r:V->Hp->VK->Prop} (e:UnR X (unaryOp op) r) (i:PE X a ta):PE X (.UnaryOp op a pos) (tUn r ta):=by
 intro b s c H Q I h;exact UnaryOp_ (thn (i b s c H _ I h) λv g ⟨x,j,f,d,k⟩=>e b g c j x v Q f d k)
theorem opI {f:Vy->Vy->Sem Vy}{C:Int->Int->Prop}{g:Int->Int->Int}
  (a:∀(i j:Int) (t u:Tok) (s:Vx) (Q:Vy->Vx->Prop) (E:Vy->Vx->Prop),C i j->Q (.int (g i j) s.toks) { s with toks:=s.toks+1 }->Zd (model X.prog X.w) X.A (f (.int i t) (.int j u)) Q E s) :
  OpR X f (rI C λi j=>.int (g i j)):=by
 intro _ s _ H x y v u Q I b e h;obtain⟨i,j,rfl,rfl,d,q⟩:=h;obtain⟨t,rfl⟩:=b;obtain⟨c,rfl⟩:=e;exact a i j t c s _ _ d ⟨.int (g i j),H,I.tok _,⟨_,rfl⟩,q⟩
theorem MW {f:Vy->Vy->Sem Vy}{g:Int->Int->Int}
  (a:∀(i j:Int) (t u:Tok) (s:Vx) (Q:Vy->Vx->Prop) (E:Vy->Vx->Prop),Q (.int (g i j) s.toks) { s with toks:=s.toks+1 }->Zd (model X.prog X.w) X.A (f (.int i t) (.int j u)) Q E s) :
  OpR X f (rI0 λi j=>.int (g i j)):=by
 intro _ s _ H x y v u Q I b d h;obtain⟨i,j,rfl,rfl,q⟩:=h;obtain⟨t,rfl⟩:=b;obtain⟨c,rfl⟩:=d;exact a i j t c s _ _ ⟨.int (g i j),H,I.tok _,⟨_,rfl⟩,q⟩
theorem HF {f:Vy->Vy->Sem Vy}{g:Int->Int->Bool}
  (a:∀(i j:Int) (t u:Tok) (s:Vx) (Q:Vy->Vx->Prop) (E:Vy->Vx->Prop),Q (.bool (g i j)) s->Zd (model X.prog X.w) X.A (f (.int i t) (.int j u)) Q E s) :
  OpR X f (rI0 λi j=>.bl (g i j)):=by
 intro _ s _ H x y v u Q I b d h;obtain⟨i,j,rfl,rfl,q⟩:=h;obtain⟨t,rfl⟩:=b;obtain⟨c,rfl⟩:=d;exact a i j t c s _ _ ⟨.bl (g i j),H,I,rfl,q⟩
def Qo (i j:Int):Prop:=0<j/\j<1073741824
def Pf (i j:Int):Prop:=0<=j/\j<=1000000/\i.natAbs<2 ^ 64
def Mh (i j:Int):Prop:=(-(2 ^ 64)<i/\i<2 ^ 64)\/(-(2 ^ 64)<j/\j<2 ^ 64)
theorem Mh.ok {i j:Int} (h:Mh i j):IntMulOk i j:=by
 rcases h with⟨h1,h2⟩ | ⟨h1,h2⟩
 ·exact .of_left (intBits_le_64 h1 h2)
 ·exact .of_right (intBits_le_64 h1 h2)
theorem ed:OpR X (binaryOp .Add) (rI0 λi j=>.int (i+j)):=MW λ_ _ _ _ _ _ _ q=>add_int q
theorem yd:OpR X (binaryOp .Sub) (rI0 λi j=>.int (i - j)):=MW λ_ _ _ _ _ _ _ q=>sub_int q
theorem Bp:OpR X (binaryOp .Mult) (rI Mh λi j=>.int (i * j)):=opI λ_ _ _ _ _ _ _ hc q=>mul_int q hc.ok
theorem Ca:OpR X (binaryOp .FloorDiv) (rI Qo λi j=>.int (i / j)):=opI λi j _ _ _ _ _ a q=>by
 have b:(0:Int)<j:=a.1;have c:j<1073741824:=a.2;exact floordiv_int (by lia) (by rw[Int.fdiv_eq_ediv_of_nonneg i (by lia)];exact q) (.inl (PyProof.noPylong_small (by lia)))
theorem qe:OpR X (binaryOp .Mod) (rI (λ_ j=>0<j) λi j=>.int (i % j)):=opI λi j _ _ _ _ _ a q=>by
 have b:(0:Int)<j:=a;exact mod_int' (by lia) (by rw[Int.fmod_eq_emod_of_nonneg i (by lia)];exact q)
theorem kZ:OpR X (binaryOp .Pow) (rI Pf λi j=>.int (i ^ j.toNat)):=opI λ_ _ _ _ _ _ _ hc q=>pow_int_small hc.1 hc.2.1 hc.2.2 q
theorem unI {f:Vy->Sem Vy}{g:Int->Int}
  (a:∀(i:Int) (t:Tok) (s:Vx) (Q:Vy->Vx->Prop) (E:Vy->Vx->Prop),Q (.int (g i) s.toks) { s with toks:=s.toks+1 }->Zd (model X.prog X.w) X.A (f (.int i t)) Q E s) :
  UnR X f (rU λi=>.int (g i)):=by
 intro _ s _ H x v Q I b h;obtain⟨i,rfl,q⟩:=h;obtain⟨t,rfl⟩:=b;exact a i t s _ _ ⟨.int (g i),H,I.tok _,⟨_,rfl⟩,q⟩
theorem xm:UnR X (unaryOp .USub) (rU λi=>.int (-i)):=unI λ_ _ _ _ _ q=>neg_int q
end
def OQ:V->V->Bool
 | .non,.non=>true | .non,.int _=>true | .int _,.non=>true | .non,.bl _=>true | .bl _,.non=>true | .non,.str _=>true | .str _,.non=>true
 | .int _,.int _=>true | .bl _,.bl _=>true | .str _,.str _=>true | .byt _,.byt _=>true
 | .int _,.str _=>true | .str _,.int _=>true | .bl _,.str _=>true | .str _,.bl _=>true
 | _,_=>false
def rEq:R2:=λx y H Q=>OQ x y=true/\Q (.bl (decide (x=y))) H
def rNe:R2:=λx y H Q=>OQ x y=true/\Q (.bl (!decide (x=y))) H
theorem Cu {i j:Int}:decide (V.int i=V.int j)=(i == j):=by
 rw[SR];simp
theorem F1 {i j:Bool}:decide (V.bl i=V.bl j)=(i == j):=by
 rw[SR];simp
theorem C5 {i j:Str}:decide (V.str i=V.str j)=(i == j):=by
 rw[SR];simp
theorem Cm {i j:Array UInt8}:decide (V.byt i=V.byt j)=(i.toList == j.toList):=by
 rw[SR];cases i;cases j;simp
section
variable {X:Cx}{a b c:Expr}{ta tb tc:TE}{pos:Pos}
theorem bA {pins:List (Z6×Obj)}{σ:St}{H:Hp}{s:Vx}{Q:VK}{k k':Bool} (I:Inv X pins σ H s) (q:Q (.bl k) H) (e:k=k'):EP X pins σ Q (.bool k') s:=by
 subst e;exact⟨.bl k,H,I,rfl,q⟩
theorem iS:OpR X (compareOp .Eq) rEq:=by
 intro _ s _ H x y v u Q I d a h;obtain⟨c,q⟩:=h;cases x with
 | non=>
  cases d;cases y with
  | non=>cases a;exact PySem.EqNone.eq_none_none (bA I q (by simp))
  | bl j=>cases a;exact PySem.EqNone.eq_none_bool (bA I q (by simp))
  | int j=>obtain⟨b,rfl⟩:=a;exact PySem.EqNone.eq_none_int (bA I q (by simp))
  | str j=>obtain⟨b,rfl⟩:=a;exact PySem.EqNone.eq_none_str (bA I q (by simp))
  | _=>exact absurd (show false=true from c) Ss
 | bl i=>
  cases d;cases y with
  | non=>cases a;exact PySem.EqNone.eq_bool_none (bA I q (by simp))
  | bl j=>cases a;exact eq_bool (bA I q F1)
  | str j=>obtain⟨b,rfl⟩:=a;exact PySem.EqMixed.eq_bool_str (bA I q (by simp))
  | _=>exact absurd (show false=true from c) Ss
 | int i=>
  obtain⟨t,rfl⟩:=d;cases y with
  | non=>cases a;exact PySem.EqNone.eq_int_none (bA I q (by simp))
  | int j=>obtain⟨b,rfl⟩:=a;exact eq_int (bA I q Cu)
  | str j=>obtain⟨b,rfl⟩:=a;exact PySem.EqMixed.eq_int_str (bA I q (by simp))
  | _=>exact absurd (show false=true from c) Ss
 | str i=>
  obtain⟨t,rfl⟩:=d;cases y with
  | non=>cases a;exact PySem.EqNone.eq_str_none (bA I q (by simp))
  | bl j=>cases a;exact PySem.EqMixed.eq_str_bool (bA I q (by simp))
  | int j=>obtain⟨b,rfl⟩:=a;exact PySem.EqMixed.eq_str_int (bA I q (by simp))
  | str j=>obtain⟨b,rfl⟩:=a;exact eq_str (bA I q C5)
  | _=>exact absurd (show false=true from c) Ss
 | byt i=>
  obtain⟨t,rfl⟩:=d;cases y with
  | byt j=>obtain⟨b,rfl⟩:=a;exact PySem.W.eq_bytes (bA I q Cm)
  | _=>exact absurd (show false=true from c) Ss
 | _=>cases y <;> exact absurd (show false=true from c) Ss
theorem m5:OpR X (compareOp .NotEq) rNe:=by
 intro _ s _ H x y v u Q I d a h;obtain⟨c,q⟩:=h;cases x with
 | non=>
  cases d;cases y with
  | non=>cases a;exact PySem.EqNone.ne_none_none (bA I q (by simp))
  | bl j=>cases a;exact PySem.EqNone.ne_none_bool (bA I q (by simp))
  | int j=>obtain⟨b,rfl⟩:=a;exact PySem.EqNone.ne_none_int (bA I q (by simp))
  | str j=>obtain⟨b,rfl⟩:=a;exact PySem.EqNone.ne_none_str (bA I q (by simp))
  | _=>exact absurd (show false=true from c) Ss
 | bl i=>
  cases d;cases y with
  | non=>cases a;exact PySem.EqNone.ne_bool_none (bA I q (by simp))
  | bl j=>cases a;exact ne_bool (bA I q (congrArg not F1))
  | str j=>obtain⟨b,rfl⟩:=a;exact PySem.EqMixed.ne_bool_str (bA I q (by simp))
  | _=>exact absurd (show false=true from c) Ss
 | int i=>
  obtain⟨t,rfl⟩:=d;cases y with
  | non=>cases a;exact PySem.EqNone.ne_int_none (bA I q (by simp))
  | int j=>obtain⟨b,rfl⟩:=a;exact ne_int (bA I q (congrArg not Cu))
  | str j=>obtain⟨b,rfl⟩:=a;exact PySem.EqMixed.ne_int_str (bA I q (by simp))
  | _=>exact absurd (show false=true from c) Ss
 | str i=>
  obtain⟨t,rfl⟩:=d;cases y with
  | non=>cases a;exact PySem.EqNone.ne_str_none (bA I q (by simp))
  | bl j=>cases a;exact PySem.EqMixed.ne_str_bool (bA I q (by simp))
  | int j=>obtain⟨b,rfl⟩:=a;exact PySem.EqMixed.ne_str_int (bA I q (by simp))
  | str j=>obtain⟨b,rfl⟩:=a;exact ne_str (bA I q (congrArg not C5))
  | _=>exact absurd (show false=true from c) Ss
 | byt i=>
  obtain⟨t,rfl⟩:=d;cases y with
  | byt j=>obtain⟨b,rfl⟩:=a;exact PySem.W.ne_bytes (bA I q (congrArg not Cm))
  | _=>exact absurd (show false=true from c) Ss
 | _=>cases y <;> exact absurd (show false=true from c) Ss
theorem mW:OpR X (compareOp .Lt) (rI0 λi j=>.bl (decide (i<j))):=HF λ_ _ _ _ _ _ _ q=>lt_int q
theorem sX:OpR X (compareOp .LtE) (rI0 λi j=>.bl (decide (i<=j))):=HF λ_ _ _ _ _ _ _ q=>le_int q
theorem J8:OpR X (compareOp .Gt) (rI0 λi j=>.bl (decide (j<i))):=HF λ_ _ _ _ _ _ _ q=>gt_int q
theorem Cz:OpR X (compareOp .GtE) (rI0 λi j=>.bl (decide (j<=i))):=HF λ_ _ _ _ _ _ _ q=>ge_int q
theorem B6:OpR X (compareOp .Is) (λx y H Q=>y = .non/\Q (.bl (decide (x = .non))) H):=by
 intro _ s _ H x y v u Q I a b h;obtain⟨rfl,q⟩:=h;cases b;refine is_none_gen (bA I q ?_);cases x <;> first
  | (cases a;rfl)
  | (obtain⟨t,rfl⟩:=a;rfl)
theorem aQ (b:Expr) {op:CmpOp} (h:op ≠ .In:=by decide) (h2:op ≠ .NotIn:=by decide):behindInMarks op b=false:=by
 have a:(op == CmpOp.In)=false:=by cases op <;> first | rfl | exact absurd rfl h
 have e2:(op == CmpOp.NotIn)=false:=by cases op <;> first | rfl | exact absurd rfl h2
 cases b <;> simp[behindInMarks,a,e2]
theorem cQ {op:CmpOp}{r:R2} (k:OpR X (compareOp op) r) (m:PE X a ta) (i:PE X b tb) (e:behindInMarks op b=false):PE X (.Compare a [op] [b] pos) (tOp r ta tb):=by
 intro c s j H Q I h;exact wpAny_Compare1 (Ky m i I h λv u d x y g n f l q=>k c d j g x y v u Q n f l q) e
def vS (t:TE):TT:=λσ H Q=>t σ H λx H'=>∃k,x = .bl k/\Q k H'
theorem aP {op:CmpOp}{r:R2} (w:OpR X (compareOp op) r) (A:PE X a ta) (p:PE X b tb) (j:behindInMarks op b=false):PT X (.Compare a [op] [b] pos) (vS (tOp r ta tb)):=by
 intro d s f H Q I h;refine wpAny_isTrue_Compare1 (thn (A d s f H _ I h) λv E ⟨x,q,n,D,C⟩=>thn (p d E f q _ n C) λu i ⟨y,l,G,o,F⟩=>
  thn (w d i f l x y v u _ G D o F) λc _ ⟨z,t,B,m,k,e,g⟩=>?_) j
 subst e;cases m;exact wpAny_truthy_bool ⟨t,B,g⟩
def xg (r r':R2) (ta tb tc:TE):TE:=λσ H Q=>ta σ H λx H1=>tb σ H1 λy H2=>r x y H2 λz H3=>∃k,z = .bl k /\
 (if k=true then tc σ H3 λw' H4=>r' y w' H4 Q else Q (.bl false) H3)
theorem Ax {op g:CmpOp}{r p:R2} (L:OpR X (compareOp op) r) (j:OpR X (compareOp g) p) (O:PE X a ta) (G:PE X b tb) (M:PE X c tc)
  (w:lastMarks [op,g] [b,c]=false:=by with_unfolding_all rfl):PE X (.Compare a [op,g] [b,c] pos) (xg r p ta tb tc):=by
 intro f s i H Q I h;refine Compare_chain (thn (O f s i H _ I h) λv U ⟨x,J,E,S,R⟩=>chain_link (thn (G f U i J _ E R) λu t ⟨y,C,W,m,V⟩=>
  thn (L f t i C x y v u _ W S m V) λd P ⟨z,n,o,D,k,e,l⟩=>?_)) w
 subst e;cases D;refine wpAny_truthy_bool ?_;cases k with
 | false=>exact ite_ff ⟨.bl false,n,o,rfl,l⟩
 | true=>exact ite_tt (chain_last (thn (M f P i n _ o l) λF q ⟨T,N,B,K,A⟩=>j f q i N y T u F Q B m K A))
theorem oJ {op g:CmpOp}{r p:R2} (O:OpR X (compareOp op) r) (j:OpR X (compareOp g) p) (T:PE X a ta) (L:PE X b tb) (S:PE X c tc)
  (B:lastMarks [op,g] [b,c]=false:=by with_unfolding_all rfl):PT X (.Compare a [op,g] [b,c] pos) (vS (xg r p ta tb tc)):=by
 intro f s i H Q I h;refine isTrue_chain (thn (T f s i H _ I h) λv s1 ⟨x,M,J,Z,W⟩=>test_link (thn (L f s1 i M _ J W) λu A ⟨y,E,I2,m,q2⟩=>
  thn (O f A i E x y v u _ I2 Z m q2) λd V ⟨z,n,o,F,k,e,l⟩=>?_)) B
 subst e;cases F;refine wpAny_truthy_bool ?_;cases k with
 | false=>
  obtain⟨_,P,q'⟩:=l;cases P;exact ite_ff ⟨n,o,q'⟩
 | true=>
  refine ite_tt (test_last (thn (S f V i n _ o l) λK q ⟨z',R,D,N,C⟩=>thn (j f q i R y z' u K _ D m N C) λ_ _ ⟨_,Y,G,t,_,U,w⟩=>?_));subst U;cases t;exact wpAny_truthy_bool ⟨Y,G,w⟩
def IC (K:Vz) (x:V) (H:Hp) (k:Bool):Prop:=
 match x with
 | .non=>k=false
 | .bl b=>k=b
 | .int i=>k=(i != 0)
 | .str y=>y.length<=Zc/\k=((y.length:Int) != 0)
 | .byt y=>y.size<=Zc/\k=((y.size:Int) != 0)
 | .ref p=>(∃xs,SqL K H p xs/\k = !xs.isEmpty)\/(∃xs,SqT K H p xs/\k = !xs.isEmpty)\/∃kvs,H p=some (.dK kvs)/\k = !kvs.isEmpty
 | _=>False
theorem BQ {κ:Type}{kvs:List (κ×V)}{vs:List (κ×Vy)} (r:KV kvs vs):(!vs.isEmpty) = !kvs.isEmpty:=by
 cases r <;> rfl
theorem tw {xs:List V}{its:List Vy} (r:aR xs its):(!its.toArray.isEmpty) = !xs.isEmpty:=by
 cases r <;> simp
theorem nO:(Zc:Nat)<2 ^ 63:=by rw[sizeLine_eq];decide
theorem Fb:O9 X (λx H Q=>∃k,IC X.K x H k/\Q k H):=by
 intro _ s _ H x v Q I f h;obtain⟨k,e,q⟩:=h;have z:=nO;have u:Zc=16777216:=sizeLine_eq;cases x with
 | non=>
  cases f;have a:k=false:=e;subst a;exact truthy_none ⟨H,I,q⟩
 | bl b=>
  cases f;have a:k=b:=e;subst a;exact wpAny_truthy_bool ⟨H,I,q⟩
 | int i=>
  obtain⟨t,rfl⟩:=f;have a:k=(i != 0):=e;subst a;exact PySem.P.truthy_int ⟨H,I,q⟩
 | str y=>
  obtain⟨t,rfl⟩:=f;obtain⟨o,a⟩:y.length<=Zc/\k=((y.length:Int) != 0):=e;subst a;exact PySem.P.truthy_str (by lia) ⟨H,I.tok _,q⟩
 | byt y=>
  obtain⟨t,rfl⟩:=f;obtain⟨o,a⟩:y.size<=Zc/\k=((y.size:Int) != 0):=e;subst a;exact PySem.W.truthy_bytes (by lia) ⟨H,I.tok _,q⟩
 | ref p=>
  cases f;have a:(∃d,SqL X.K H p d/\k = !d.isEmpty)\/(∃d,SqT X.K H p d/\k = !d.isEmpty)\/∃kvs,H p=some (.dK kvs)/\k = !kvs.isEmpty:=e;rcases a with⟨d,g,a⟩ | ⟨d,g,a⟩ | ⟨kvs,g,a⟩
  ·subst a;obtain⟨l,r,j,n⟩:=I.list g;have c:=r.length;exact wpAny_truthy_list j.isList (by simp only[Sn];lia) ⟨H,I.tok _,by rw[tw r];exact q⟩
  ·subst a;obtain⟨l,r,j,n⟩:=I.tuple g;have c:=r.length;exact truthy_tuple j (by simp only[Sn];lia) ⟨H,I.tok _,by rw[tw r];exact q⟩
  ·subst a;obtain⟨n,hS,vs,r,m⟩:kvs.length<=Zc/\(p == sysModules)=false/\∃vs,KV kvs vs/\s.heap.DictOf (aX X.prog X.w) p vs:=I.hok p _ g;have c:kvs.length=vs.length:=Paired.length r;exact wpAny_truthy_dict hS m (by lia) ⟨H,I.tok _,by rw[BQ r];exact q⟩
 | _=>exact(show False from e).elim
theorem He (f:PE X a ta) (i:∀whole,isTrue a X.env whole=(do let v <-whole;standAt a.pos;holding [v] (truthy v))) :
  PT X a (λσ H Q=>ta σ H λx H'=>∃k,IC X.K x H' k/\Q k H'):=by
 intro b s σ H Q I h;exact isTrue_plain (thn (f b s σ H _ I h) λv e ⟨x,g,d,c,j⟩=>Fb b e σ g x v Q d c j) (i _)
theorem vals1 {x:V}{us:List Vy} (r:aR [x] us):∃u,us=[u]/\RelV x u:=by
 cases r with
 | cons r1 r2=>cases r2;exact⟨_,rfl,r1⟩
theorem vals2 {x y:V}{us:List Vy} (r:aR [x,y] us):∃u w',us=[u,w']/\RelV x u/\RelV y w':=by
 cases r with
 | cons r1 r2=>
  cases r2 with
  | cons r3 r4=>cases r4;exact⟨_,_,rfl,r1,r3⟩
theorem D1 (b:X.calm=true):gQ X (.builtin "max") (λxs H Q=>∃i j,xs=[.int i,.int j]/\Q (.int (if j > i then j else i)) H):=by
 intro _ s _ H xs _ Q I r h;obtain⟨i,j,rfl,q⟩:=h;obtain⟨u,_,rfl,⟨t,rfl⟩,⟨_,rfl⟩⟩:=vals2 r;refine max_two_ints (I.ok.hd b) λ_ _ k=>⟨_,H,I.kept k,?_,q⟩;by_cases a:j > i
 ·rw[Zj a,Zj a];exact⟨_,rfl⟩
 ·rw[Zk a,Zk a];exact⟨_,rfl⟩
theorem DN:gQ X (.type "int") (λxs H Q=>(∃i,xs=[.int i]/\Q (.int i) H)\/∃k,xs=[.bl k]/\Q (.int (if k then 1 else 0)) H):=by
 intro _ s _ H xs _ Q I r h;rcases h with⟨i,rfl,q⟩ | ⟨k,rfl,q⟩
 ·obtain⟨u,rfl,t,rfl⟩:=vals1 r;exact call_int_int ⟨.int i,H,I,⟨_,rfl⟩,q⟩
 ·obtain⟨u,rfl,a⟩:=vals1 r;cases a;exact call_int_bool ⟨.int (if k then 1 else 0),H,I.tok _,⟨_,rfl⟩,q⟩
end
structure AE (h:Heap) (x dx C:Z6) (mA:Str->Option Vy):Prop where
 obj:h.get? x=some (YL C dx)
 ns:h.Ns1 dx mA
 ne:dx≠x
theorem Et {h:Heap}{dx:Z6}{mA:Str->Option Vy} (n:h.Ns1 dx mA):∃od,h.get? dx=some od/\∀name,PySem.W.lookIn name od=some (mA name):=by
 obtain⟨o,b,_,f,d,k,_,g⟩:=n;refine⟨o,f,λname=>?_⟩;have e:=g name;unfold nsFind findBy at e;rw[<-Array.find?_toList]at e;unfold PySem.W.lookIn;rw[d];dsimp only
 split
 ·rename_i y q;rw[q]at e;exact congrArg some e
 ·rename_i q;rw[q]at e;have a:b.toList.any (·.refKey)=false:=by
   rw[UL];intro y j;obtain⟨z,t,i⟩:=k y (Array.mem_toList_iff.mp j);simp[DictEntry.refKey,i]
  have c:¬ b.toList.any (·.refKey)=true:=by rw[a];exact Ss
  rw[Zk c];exact congrArg some e
theorem AE.look {h:Heap}{x dx C:Z6}{mA:Str->Option Vy} (I:AE h x dx C mA):∃od,PySem.W.InstAt h x (YL C dx) C (some od)/\∀name,PySem.W.lookIn name od=some (mA name):=
 let ⟨od,ho,hl⟩:=Et I.ns
 ⟨od,⟨I.obj,rfl,rfl,ho⟩,hl⟩
section
variable {prog:Z9}{w:Za}{A:Z8}{E:Vy->Vx->Prop}{s:Vx}{K:Vz}{x dx C f:Z6}{mA:Str->Option Vy}{name:Str}{v:Vy}
theorem get_map {a:Bool}{Q:Vy->Vx->Prop} (X:K.In s.heap) (I:AE s.heap x dx C mA) (d:PySem.W.plainGet K C name=true) (c:PySem.W.hasDictIn K C=true)
  (f:Yp K (.ref C) name=some none) (g:mA name=some v) (b:PySem.W.handedIn v=true) (h:Q v { s with toks:=s.toks+1 }) :
  Zd (model prog w) A (getAttr (.ref x) name a) Q E s:=by
 obtain⟨_,J,e⟩:=I.look;exact PySem.W.get_value X J (PySem.W.plainGet_of d).1 (PySem.W.findObj_own c f rfl (by rw[e,g])) b h
theorem Ff {pl:Sem Bool}{Q:Vy×List Vy->Vx->Prop} (X:K.In s.heap) (I:AE s.heap x dx C mA) (a:PySem.W.plainGet K C name=true)
  (d:Yp K (.ref C) name=some (some (.ref f))) (b:PySem.W.isFn K (.ref f)=true) (g:mA name=none) (h:Q (.ref f,[.ref x]) s) :
  Zd (model prog w) A (getMethod (.ref x) name pl) Q E s:=by
 obtain⟨e,J,c⟩:=I.look;exact PySem.W.method_fn X J (PySem.W.plainGet_of a).1 (PySem.W.plainGet_of a).2 d (beq_iff_eq.mp b) (by show(PySem.W.lookIn name e).map (·.isSome)=some false;rw[c,g];rfl) h
theorem JN {ns:List Str}{Q:Unit->Vx->Prop} (X:K.In s.heap) (I:AE s.heap x dx C mA)
  (n:Yp K (.ref C) "__setattr__" = some (some (.builtin "object.__setattr__"))) (p:PySem.W.plainOver K C=true) (m:PySem.W.takerIn K C name=some none) (j:PySem.W.hasDictIn K C=true)
  (k:PySem.Within mA ns) (hsz:ns.length<=Zc)
  (h:∀h',AE h' x dx C (λy=>if y=name then some v else mA y)->YE dx s.heap h'->Q () { s with heap:=h',toks:=s.toks+2 }) :
  Zd (model prog w) A (setAttr (.ref x) name v) Q E s:=by
 obtain⟨_,J,_⟩:=I.look;refine PySem.W.set_plain X J n (PySem.W.osa_open (s:={ s with toks:=s.toks+1 }) (r:=none) X J p m λb=>?_);obtain⟨_,o,f⟩:=PySem.W.any_some j;have l:s.heap.get? x=some ⟨.ref C,some dx,.plain,#[]⟩:=I.obj;refine Vw (Vv (Vw (Vw (wpAny_loadPart l (Vw (PySem.W.Looks.here (s:={ s with toks:=s.toks+1 }) (PySem.W.looks_clsIn X o) ?_))))));rw[f];refine Vv (a:=some dx) (Vw (Vv (Vw ?_)));refine wpAny_nsSet1 (s:={ s with toks:=s.toks+1 }) I.ns λh' c d=>?_;obtain⟨oD,_,_,e,i,g⟩:=c.count (PySem.Within.cons name v k);refine Vw (wpAny_lookBehind e (by rw[i];exact pastItsLine_dict (Sl g (by rw[SE];lia))) ?_);exact Vv (h _ ⟨(d.2 _ (YQ I.ne)).trans I.obj,c,I.ne⟩ d)
theorem GN {R:Result->Vx->Prop}{vs:List Vy}{b:List (Str×Vy)} (X:K.In s.heap) (c:PySem.W.makesIn K C=true)
  (hi:Yp K (.ref C) "__init__" = some (some (.ref f))) (e:PySem.W.typeIn K (.ref f)=some (.type "function"))
  (h:codeAny (model prog w) (A.under (.builtin "type.__call__" ⟨.ref C::vs,b⟩)) (.call (.ref f) ⟨.ref (s.heap.objs.size+1)::vs,b⟩) (PySem.W.InitBack (s.heap.objs.size+1) R)
   { s with heap:=(s.heap.push Yz).push (YL C s.heap.objs.size) }) :
  codeAny (model prog w) A (.call (.ref C) ⟨vs,b⟩) R s:=by
 obtain⟨_,g,d,t,_⟩:=s;exact PySem.W.make_core (PySem.W.makes_of X c) (PySem.W.looks_findIn X hi) (λa=>PySem.W.bind_fn X a e) (.inl rfl) h
end
def mP (f:Str) (v:V):List (Str×V)->List (Str×V)
 | []=>[(f,v)]
 | (g,x)::r=>if g=f then(g,v)::r else(g,x)::mP f v r
theorem qJ (f g:Str) (v:V):∀fs:List (Str×V),(mP f v fs).lookup g=if g=f then some v else fs.lookup g
 | []=>by
  show YS g [(f,v)]=_;by_cases h:g=f
  ·have a:(g == f)=true:=beq_iff_eq.mpr h;simp only[YS,a,Zj h]
  ·have a:(g == f)=false:=beq_eq_false_iff_ne.mpr h;simp only[YS,a,Zk h]
 | (k,x)::r=>by
  have c:=qJ f g v r;rw[show mP f v ((k,x)::r)=(if k=f then(k,v)::r else(k,x)::mP f v r)from rfl];by_cases b:k=f
  ·rw[Zj b];by_cases h:g=k
   ·have a:(g == k)=true:=beq_iff_eq.mpr h;simp only[YS,a,Zj (h.trans b)]
   ·have a:(g == k)=false:=beq_eq_false_iff_ne.mpr h;simp only[YS,a,Zk (λe:g=f=>h (e.trans b.symm))]
  ·rw[Zk b];by_cases h:g=k
   ·have a:(g == k)=true:=beq_iff_eq.mpr h;simp only[YS,a,Zk (λe:g=f=>b (h.symm.trans e))]
   ·have a:(g == k)=false:=beq_eq_false_iff_ne.mpr h;simp only[YS,a];exact c
theorem pU (f:Str) (v:V):∀fs:List (Str×V),f∈(mP f v fs).map (·.1)/\∀g,g∈fs.map (·.1)->g∈(mP f v fs).map (·.1)
 | []=>⟨by simp[mP],λg h=>by simp at h⟩
 | (k,x)::r=>by
  obtain⟨b,c⟩:=pU f v r;rw[show mP f v ((k,x)::r)=(if k=f then(k,v)::r else(k,x)::mP f v r)from rfl];by_cases a:k=f
  ·rw[Zj a];subst a;exact⟨by simp,λg h=>by simpa using h⟩
  ·rw[Zk a];refine⟨?_,λg h=>?_⟩
   ·rw[Sv];exact Sf _ b
   ·rw[Sv]at h ⊢;rcases Su.mp h with e | e
    ·exact Su.mpr (.inl e)
    ·exact Sf _ (c g e)
theorem qA (f:Str) (v:V):∀fs:List (Str×V),(mP f v fs).length<=fs.length+1
 | []=>by simp[mP]
 | (k,x)::r=>by
  have b:=qA f v r;rw[show mP f v ((k,x)::r)=(if k=f then(k,v)::r else(k,x)::mP f v r)from rfl];by_cases a:k=f
  ·rw[Zj a,SE,SE];lia
  ·rw[Zk a,SE,SE];lia
theorem jm.some_of {v:V}{o:Option Vy} (r:jm (some v) o):∃u,o=some u/\RelV v u:=by
 cases o with
 | none=>exact(show False from r).elim
 | some u=>exact⟨u,rfl,r⟩
theorem jm.none_of {o:Option Vy} (r:jm none o):o=none:=by
 cases o with
 | none=>rfl
 | some u=>exact(show False from r).elim
theorem Dd {v:V}{u:Vy} (r:RelV v u):PySem.W.handedIn u=true:=by
 cases v with
 | non=>cases(show u=Value.none from r);rfl
 | bl b=>cases(show u=Value.bool b from r);rfl
 | int i=>obtain⟨t,e⟩:=(show∃t,u=Value.int i t from r);cases e;rfl
 | str x=>obtain⟨t,e⟩:=(show∃t,u=Value.str x t from r);cases e;rfl
 | byt b=>obtain⟨t,e⟩:=(show∃t,u=Value.bytes b t from r);cases e;rfl
 | flt b=>obtain⟨t,e⟩:=(show∃t,u=Value.float b t from r);cases e;rfl
 | ref a=>cases(show u=Value.ref a from r);rfl
 | ty n=>cases(show u=Value.type n from r);rfl
section
variable {P:Z9}{w:Za}{H H':Hp}{h h':Heap}{a C dx:Z6}{fs fs':List (Str×V)}
theorem rH (b:HOk P w H h) (e:H a=some (.ins C dx fs)):∃mA,AE h a dx C mA/\(∀f,jm (fs.lookup f) (mA f))/\PySem.Within mA (fs.map (·.1))/\fs.length<=1000/\H dx=some (.own a):=by
 obtain⟨d,z,g,c,mA,n,r,q⟩:=(show bW P w H h a (.ins C dx fs)from b a _ e);exact⟨mA,⟨c,n,g⟩,r,q,z,d⟩
end
structure Cls (K:Vz) (C:Z6):Prop where
 pg:PySem.W.plainGet K C Yh=true
 hd:PySem.W.hasDictIn K C=true
 po:PySem.W.plainOver K C=true
 sa:Yp K (.ref C) "__setattr__" = some (some (.builtin "object.__setattr__"))
theorem Cls.get {K:Vz}{C:Z6} (c:Cls K C) (f:Str):PySem.W.plainGet K C f=true:=c.pg
def bS (K:Vz) (C:Z6) (f:Str):Prop:=Yp K (.ref C) f=some none
theorem bS.MH {K:Vz}{C:Z6}{f:Str} (n:bS K C f):PySem.W.takerIn K C f=some none:=by
 unfold PySem.W.takerIn;rw[show Yp K (.ref C) f=some none from n];rfl
structure Con (K:Vz) (C:Z6) (f:Str) (v:V) (u:Vy):Prop where
 at_:Yp K (.ref C) f=some (some u)
 rel:RelV v u
 get:PySem.W.specialIn K u "__get__" = some none
 cp:PySem.W.copiedNames.contains f=false
structure kR (K:Vz) (C:Z6) (m:Str) (f:Z6):Prop where
 at_:Yp K (.ref C) m=some (some (.ref f))
 fn:PySem.W.isFn K (.ref f)=true
 kp:YF K (.ref f)=true
section
variable {X:Cx}{pins:List (Z6×Obj)}{σ:St}{H:Hp}{s:Vx}{a C dx:Z6}{fs:List (Str×V)}{f:Str}{v:V}{A:Z8}{E:Vy->Vx->Prop}
theorem A8 {b:Bool}{Q:Vy->Vx->Prop} (I:Inv X pins σ H s) (e:H a=some (.ins C dx fs)) (c:Cls X.K C) (n:bS X.K C f) (l:fs.lookup f=some v)
  (h:∀u s',Inv X pins σ H s'->RelV v u->Q u s'):Zd (model X.prog X.w) A (getAttr (.ref a) f b) Q E s:=by
 obtain⟨g,O,r,_,_,_⟩:=rH I.hok e;obtain⟨u,i,d⟩:=jm.some_of (v:=v) (o:=g f) (by rw[<-l];exact r f);exact get_map I.kIn O (c.get f) c.hd n i (Dd d) (h u _ (I.tok _) d)
theorem rW {m:Str}{g:Z6}{pl:Sem Bool}{Q:Vy×List Vy->Vx->Prop} (I:Inv X pins σ H s) (e:H a=some (.ins C dx fs)) (c:Cls X.K C) (k:kR X.K C m g) (l:fs.lookup m=none)
  (h:Q (.ref g,[.ref a]) s):Zd (model X.prog X.w) A (getMethod (.ref a) m pl) Q E s:=by
 obtain⟨b,O,r,_,_,_⟩:=rH I.hok e;have d:b m=none:=jm.none_of (by rw[<-l];exact r m);exact Ff I.kIn O (c.get m) k.at_ k.fn d h
theorem A2 {y:V}{u:Vy}{Q:Unit->Vx->Prop} (I:Inv X pins σ H s) (e:H a=some (.ins C dx fs)) (c:Cls X.K C) (n:bS X.K C f) (F:fs.length<1000) (D:RelV y u)
  (h:∀s',Inv X pins σ (upd H a (.ins C dx (mP f y fs))) s'->Q () s'):Zd (model X.prog X.w) A (setAttr (.ref a) f u) Q E s:=by
 obtain⟨k,O,r,i,_,j⟩:=rH I.hok e;have p:(fs.map (·.1)).length<=Zc:=by rw[R8,sizeLine_eq];lia
 refine JN I.kIn O c.sa c.po n.MH c.hd i p λB d t=>h _ ?_;have l:∃o,B.get? dx=some o:=let ⟨o,_,_,e',_⟩:=d.ns;⟨o,e'⟩;refine I.write (x:=a) (e:=dx) (by rw[e];exact True.intro) (.inr j) (λb q v z=>(t.2 b v).trans z) l ?_;refine⟨by rw[aq O.ne];exact j,?_,O.ne,d.obj,_,d.ns,λg=>?_,λg m=>?_⟩
 ·have:=qA f y fs;lia
 ·show jm ((mP f y fs).lookup g) (if g=f then some u else k g);rw[qJ];by_cases q:g=f
  ·rw[Zj q,Zj q];exact D
  ·rw[Zk q,Zk q];exact r g
 ·by_cases q:g=f
  ·rw[q];exact(pU f y fs).1
  ·refine(pU f y fs).2 g (i g λz=>m ?_);show(if g=f then some u else k g)=none;rw[Zk q];exact z
theorem Inv.made (I:Inv X pins σ H s):Inv X pins σ (upd (upd H s.heap.objs.size (.own (s.heap.objs.size+1))) (s.heap.objs.size+1) (.ins C s.heap.objs.size []))
  { s with heap:=(s.heap.push Yz).push (YL C s.heap.objs.size) }:=by
 have d:(s.heap.push Yz).get? s.heap.objs.size=some Yz:=Y2 s.heap rfl;have i:((s.heap.push Yz).push (YL C s.heap.objs.size)).get? (s.heap.objs.size+1)=some (YL C s.heap.objs.size):=by
  have:=Y2 (s.heap.push Yz) (o:=YL C s.heap.objs.size) rfl
  rwa [YX]at this
 have f:(s.heap.push Yz).Ns s.heap.objs.size (λ_=>none):=⟨Yz,#[],_,d,rfl,(λe j=>absurd j (by simp)),λ_=>rfl⟩;have g:=I.laid (a:=s.heap.objs.size) (o:=.own (s.heap.objs.size+1)) (h':=s.heap.push Yz) (t':=s.toks) (λb u q=>Vu _ q) (Sb _) ⟨_,d⟩;refine g.laid (a:=s.heap.objs.size+1) (o:=.ins C s.heap.objs.size []) (t':=s.toks) (λb u q=>Vu _ q) (UT (YX _ _)) ?_;have c:s.heap.objs.size≠s.heap.objs.size+1:=SD (Ub _);refine⟨by rw[aq c,ab],Sy _,c,i,λ_=>none,(Heap.Ns1.of_empty f).at λo q=>Vu _ q,λ_=>True.intro,λy h=>absurd rfl h⟩
theorem ID {prog:Z9}{w:Za}{env:Env}{e:Expr}{f:Str}{pos:Pos}{s:Vx}{Q:Vy->Vx->Prop} (a:attributeBase e f env (eval e env)=eval e env)
  (h:Zd (model prog w) A (eval e env) (λo s₁=>Zd (model prog w) A (getAttr o f true) Q E s₁) E s):Zd (model prog w) A (eval (.Attribute e f pos) env) Q E s:=
 Attribute_any_ h (by rw[arm_eval_Attribute,a])
end
section
variable {X:Cx}{o e value:Expr}{f:Str}{pos pos' FR:Pos}{ta tv:TE}
end
section
variable {X:Cx}{pins:List (Z6×Obj)}{σ:St}{H:Hp}{s:Vx}{A:Z8}{E:Vy->Vx->Prop}{Q:Vy->Vx->Prop}{c:Vy}{b:Bool}
inductive ql (K:Vz) (H:Hp):V->Vy->Prop where
 | non:ql K H .non (.type "NoneType")
 | bl (x:Bool):ql K H (.bl x) (.type "bool")
 | int (i:Int):ql K H (.int i) (.type "int")
 | str (x:Str):ql K H (.str x) (.type "str")
 | flt (x:UInt64):ql K H (.flt x) (.type "float")
 | lst {a:Z6}{xs:List V} (e:H a=some (.lst xs)):ql K H (.ref a) (.type "list")
 | frz {a:Z6}{o:Obj}{xs:List V} (e:H a=some (.frz o (.lst xs))):ql K H (.ref a) (.type "list")
 | tup {a:Z6}{xs:List V} (e:H a=some (.tup xs)):ql K H (.ref a) (.type "tuple")
 | dK {a:Z6}{kvs:List (Key×V)} (e:H a=some (.dK kvs)):ql K H (.ref a) (.type "dict")
 | dT {a:Z6}{kvs:List (List Key×V)} (e:H a=some (.dT kvs)):ql K H (.ref a) (.type "dict")
 | ins {a C dx:Z6}{fs:List (Str×V)} (e:H a=some (.ins C dx fs)) (cl:Cls K C) (ha:Yp K (.ref C) "__class__" = some (some (.builtin "object.__class__")))
   (hn:PySem.W.specialIn K (.builtin "object.__class__") "__get__" = some (some (.builtin "getset_descriptor.__get__"))) (htk:PySem.W.takesIn K (.builtin "object.__class__")=some true)
   (hm:PySem.W.mroIn K C (.type "object")=some true):ql K H (.ref a) (.ref C)
theorem DM {x:V}{u t:Vy} (I:Inv X pins σ H s) (d:RelV x u) (ty:ql X.K H x t) (e:PySem.W.kitOne X.K t c=some b) (h:∀tk,Q (.bool b) { s with toks:=tk }) :
  Zd (model X.prog X.w) A (call (.builtin "isinstance") [u,c]) Q E s:=by
 cases ty with
 | non=>cases(show u=Value.none from d);exact Yr PySem.W.kitx_none I.kIn True.intro e (λz=>nomatch z) h
 | bl y=>cases(show u=Value.bool y from d);exact Yr PySem.W.kitx_bool I.kIn True.intro e (λz=>nomatch z) h
 | int i=>obtain⟨t,q⟩:=(show∃t,u=Value.int i t from d);cases q;exact Yr PySem.W.kitx_int I.kIn True.intro e (λz=>nomatch z) h
 | str y=>obtain⟨t,q⟩:=(show∃t,u=Value.str y t from d);cases q;exact Yr PySem.W.kitx_str I.kIn True.intro e (λz=>nomatch z) h
 | flt y=>obtain⟨t,q⟩:=(show∃t,u=Value.float y t from d);cases q;exact Yr PySem.W.kitx_float I.kIn True.intro e (λz=>nomatch z) h
 | @lst a g ea=>
  cases(show u=Value.ref a from d);obtain⟨_,_,n,_,f⟩:=(show bW X.prog X.w H s.heap a (.lst g)from I.hok a _ ea);exact Yr PySem.W.kitx_list I.kIn ⟨_,f,rfl⟩ e (λz=>nomatch z) h
 | @frz a ob g ea=>
  cases(show u=Value.ref a from d);obtain⟨_,_,_,n,_,f⟩:=(show bW X.prog X.w H s.heap a (.frz ob (.lst g))from I.hok a _ ea);exact Yr PySem.W.kitx_list I.kIn ⟨_,f,rfl⟩ e (λz=>nomatch z) h
 | @tup a g ea=>
  cases(show u=Value.ref a from d);obtain⟨_,_,_,p⟩:=(show bW X.prog X.w H s.heap a (.tup g)from I.hok a _ ea);obtain⟨o,f,j,_⟩:=p;exact Yr PySem.W.kitx_tuple I.kIn ⟨o,f,j⟩ e (λz=>nomatch z) h
 | @dK a kvs ea=>
  cases(show u=Value.ref a from d);obtain⟨_,_,_,_,p⟩:=(show bW X.prog X.w H s.heap a (.dK kvs)from I.hok a _ ea);obtain⟨o,l,k,f,j,_⟩:=p;exact Yr PySem.W.kitx_dict I.kIn ⟨o,f,j.1⟩ e (λz=>nomatch z) h
 | @dT a kvs ea=>
  cases(show u=Value.ref a from d);obtain⟨_,_,g,_,o,l,k,f,j,_⟩:=(show bW X.prog X.w H s.heap a (.dT kvs)from I.hok a _ ea);exact Yr PySem.W.kitx_dict I.kIn ⟨o,f,j.1⟩ e (λz=>nomatch z) h
 | @ins a C dx fs ea cl ha hn htk hm=>
  cases(show u=Value.ref a from d);obtain⟨_,O,_⟩:=rH I.hok ea;obtain⟨_,J,_⟩:=O.look;exact Yr (PySem.W.kitx_own (cl.get _) cl.hd ha hn htk hm) I.kIn J e (λz=>nomatch z) h
end
structure bI (k:Nat) (A:Z8):Prop where
 hd:A.handled=none
 dp:A.depth+3 * k+5<recursionLimit
 un:A.units+16 * k+200<cLine
 gd:A.guards=some []
theorem bI.mono {j k:Nat}{A:Z8} (r:bI k A) (h:j<=k):bI j A:=⟨r.hd,by have:=r.dp;lia,by have:=r.un;lia,r.gd⟩
theorem bI.deeper {k:Nat}{A:Z8} (r:bI (k+1) A) (env:Env):bI k (A.deeper env):=
 ⟨r.hd,by have:=r.dp;show A.depth+1+3 * k+5<_;lia,by have:=r.un;show A.units+3+16 * k+200<_;lia,r.gd⟩
theorem bI.in1 {k:Nat}{A:Z8} (r:bI (k+1) A):bI k A.in1:=
 ⟨r.hd,by have:=r.dp;show A.depth+3 * k+5<_;lia,by have:=r.un;show A.units+1+16 * k+200<_;lia,r.gd⟩
theorem Bw {A:Z8}{C:Z6}{us:List Vy}{a:List (Str×Vy)}:(A.under (.builtin "type.__call__" ⟨.ref C::us,a⟩)).depth=A.depth+1:=by
 first | rfl | simp[Around.under,Code.weight,Code.isCreation,Code.isGuard,Code.isCaller,Code.frames,Code.isFrame,guardIds]
theorem AW {A:Z8}{C:Z6}{us:List Vy}{a:List (Str×Vy)}:(A.under (.builtin "type.__call__" ⟨.ref C::us,a⟩)).units=A.units+1:=by
 first | rfl | simp[Around.under,Code.cUnits,Code.frames,Code.isFrame]
theorem zp {A:Z8}{C:Z6}{us:List Vy}{a:List (Str×Vy)}:(A.under (.builtin "type.__call__" ⟨.ref C::us,a⟩)).guards=A.guards:=by
 have h:(Code.builtin "type.__call__" ⟨.ref C::us,a⟩).guards=[]:=by rfl
 simp only[Around.under,h];cases A.guards <;> rfl
theorem bI.make {k:Nat}{A:Z8} (r:bI (k+1) A) (C:Z6) (us:List Vy) (a:List (Str×Vy)):bI k (A.under (.builtin "type.__call__" ⟨.ref C::us,a⟩)):=
 ⟨r.hd,by have:=r.dp;rw[Bw];lia,by have:=r.un;rw[AW];lia,by rw[zp];exact r.gd⟩
theorem bI.depth {k:Nat}{A:Z8} (r:bI k A):A.depth<recursionLimit:=by have:=r.dp;lia
theorem bI.units {k:Nat}{A:Z8} (r:bI k A):A.units+64<cLine:=by have:=r.un;lia
def IQ:TA:=λ_ H Q=>Q [] H
def Nv (ta:TE) (tr:TA):TA:=λσ H Q=>ta σ H λx H1=>tr σ H1 λxs H2=>Q (x::xs) H2
section
variable {X:Cx}{e:Expr}{es:List Expr}{te:TE}{t:TA}{pos:Pos}
theorem ae:PA X [] IQ:=λ_ _ _ _ H Q I h=>YT ⟨[],H,I,.nil,h⟩
theorem aa (k:PE X e te) (l:PA X es t) (j:Ze (e::es) X.env=(false,eval e X.env)::Ze es X.env:=by rfl):PA X (e::es) (Nv te t):=by
 intro b a s c H Q I h;rw[j];show Zd _ _ (spliced ((false,eval e X.env)::backTo b (Ze es X.env))) _ _ s;refine YC (thn (k a s c H _ I h) λu p ⟨x,i,f,n,m⟩=>?_);exact thn (l b a p c i _ f m) λ_ _ ⟨o,d,r,g,q⟩=>⟨x::o,d,r,.cons n g,q⟩
def Qh (t:TA):TE:=λσ H Q=>t σ H λxs H1=>xs.length<=Zc/\∀p,H1 p=none->Q (.ref p) (upd H1 p (.tup xs))
def LR (t:TA):TE:=λσ H Q=>t σ H λxs H1=>xs.length<=Zc/\∀p,H1 p=none->Q (.ref p) (upd H1 p (.lst xs))
theorem dD {x1} (h:PA X es t):PE X (.Tuple es x1 pos) (Qh t):=by
 intro a s j H Q I k;refine wpAny_Tuple_spliced (thn (h pos a s j H _ I k) λg c ⟨l,f,d,r,z,q⟩=>⟨by rw[<-r.length];exact z,?_⟩);have i:f c.heap.objs.size=none:=d.hok.fresh (Sb _);refine⟨.ref c.heap.objs.size,upd f c.heap.objs.size (.tup l),d.laid (t':=c.toks) (λb u e=>Vu _ e) (Sb _) ?_,rfl,q _ i⟩;exact⟨z,g,r,⟨_,Y2 _ rfl,rfl,_,rfl⟩⟩
theorem bC (h:PA X es t):PE X (.List es pos) (LR t):=by
 intro a s j H Q I k;refine wpAny_List_spliced (thn (h pos a s j H _ I k) λg c ⟨l,f,d,r,z,q⟩=>⟨by rw[<-r.length];exact z,?_⟩);have i:f c.heap.objs.size=none:=d.hok.fresh (Sb _);refine⟨.ref c.heap.objs.size,upd f c.heap.objs.size (.lst l),d.laid (t':=c.toks) (λb u e=>Vu _ e) (Sb _) ?_,rfl,q _ i⟩;exact⟨z,g,0,r,Y2 _ rfl⟩
end
abbrev Sp:=List V->Hp->VK->XK->Prop
abbrev CXT:=List Env->Hp->Vx->XK->Vy->Vx->Prop
structure sI (P:Z9) (w:Za) (K:Vz) (mg:Str->Option Vy) (base:Heap) (A:Z8) (outer:List Env) (s:Vx) (H:Hp):Prop where
 frames:A.frames=some outer
 mod:Mod K mg base
 bs:∀b o,base.get? b=some o->s.heap.get? b=some o/\H b=none
 bsz:base.objs.size<=s.heap.objs.size
 ot:s.heap.FunFrames base outer
 frf:∀b∈frs outer,H b=none
 hok:HOk P w H s.heap
 bare:AllBare s.gens
def CE (outer:List Env) (P:Z9) (w:Za) (H:Hp) (s:Vx) (Q:VK) (u:Vy) (s':Vx):Prop:=
 ∃v H',s'.os=s.os/\AllBare s'.gens/\Un (frs outer) [] H H' s.heap s'.heap/\HOk P w H' s'.heap/\RelV v u/\Q v H'
def CR (CX:CXT) (outer:List Env) (P:Z9) (w:Za) (H:Hp) (s:Vx) (Q:VK) (E:XK) (r:Result) (s':Vx):Prop:=
 match r with
 | .ok (.ret u)=>CE outer P w H s Q u s'
 | .ok _=>False
 | .error e=>CX outer H s E e s'
structure aA (P:Z9) (w:Za) (K:Vz) (mg:Str->Option Vy) (base:Heap) (CX:CXT) (k:Nat) (f:Z6) (fd:Z7) (ps:List Str) (sp:Sp):Prop where
 len:∀vs H Q E,sp vs H Q E->vs.length=ps.length
 run:∀(A:Z8) (outer:List Env) (s:Vx) (H:Hp) (args:Args) (us:List Vy) (vs:List V) (Q:VK) (E:XK),bI k A->sI P w K mg base A outer s H->BindsTo s fd args (ps.zip us)->aR vs us->sp vs H Q E ->
  codeAny (model P w) A (.call (.ref f) args) (CR CX outer P w H s Q E) s
theorem aA.mono {P:Z9}{w:Za}{K:Vz}{mg:Str->Option Vy}{base:Heap}{CX:CXT}{j k:Nat}{f:Z6}{fd:Z7}{ps:List Str}{sp:Sp} (F:aA P w K mg base CX j f fd ps sp) (h:j<=k) :
  aA P w K mg base CX k f fd ps sp:=⟨F.len,λA a s H b c d Q E e=>F.run A a s H b c d Q E (e.mono h)⟩
theorem sI.make {P:Z9}{w:Za}{K:Vz}{mg:Str->Option Vy}{base:Heap}{A:Z8}{outer:List Env}{s:Vx}{H:Hp} (e:sI P w K mg base A outer s H) (C:Z6) (us:List Vy) (a:List (Str×Vy)) :
  sI P w K mg base (A.under (.builtin "type.__call__" ⟨.ref C::us,a⟩)) outer s H:=⟨by first | exact e.frames | (simpa[Around.under,Code.envs,Code.isFrame,pushEnvs]using e.frames),e.mod,e.bs,e.bsz,e.ot,e.frf,e.hok,e.bare⟩
theorem sI.in1 {P:Z9}{w:Za}{K:Vz}{mg:Str->Option Vy}{base:Heap}{A:Z8}{outer:List Env}{s:Vx}{H:Hp} (e:sI P w K mg base A outer s H) :
  sI P w K mg base A.in1 outer s H:=⟨e.frames,e.mod,e.bs,e.bsz,e.ot,e.frf,e.hok,e.bare⟩
section
variable {X:Cx}{pins:List (Z6×Obj)}{σ:St}{H:Hp}{s s':Vx}
theorem Inv.F2 (I:Inv X pins σ H s):sI X.prog X.w X.K X.mg X.base X.A X.stack s H:=
 ⟨I.ok.frames,I.ok.mod,I.bs,Sl I.ok.bsz I.sz,I.stack,I.CC,I.hok,I.bare⟩
theorem Inv.after {Q:VK}{u:Vy} (I:Inv X pins σ H s) (h:CE X.stack X.prog X.w H s Q u s'):EP X pins σ Q u s':=by
 obtain⟨v,i,k,a,f,e,r,q⟩:=h;obtain⟨j,g,d,t,c⟩:=s';obtain rfl:c = s.os:=k;exact⟨v,i,I.call (h':=j) (g':=g) (d':=d) (t':=t) (ch:=[]) f e a (λb z=>absurd z (by simp)),r,q⟩
end
def Om (sp:Sp) (dvs:List V) (E:XK) (t:TA):TE:=λσ H Q=>t σ H λvs H1=>sp (vs++dvs) H1 Q E
def Kq (C:Z6) (m:Str) (sp:Sp) (dvs:List V) (E:XK) (ta:TE) (t:TA):TE:=λσ H Q=>ta σ H λx H1=>∃a dx fs,x = .ref a/\H1 a=some (.ins C dx fs)/\fs.lookup m=none /\
 t σ H1 λvs H2=>sp (x::(vs++dvs)) H2 Q E
def ND (C:Z6) (sp:Sp) (dvs:List V) (E:XK) (t:TA):TE:=λσ H Q=>t σ H λvs H1=>∀x dx,H1 x=none->H1 dx=none->dx≠x ->
 sp (.ref x::(vs++dvs)) (upd (upd H1 dx (.own x)) x (.ins C dx [])) (λv H2=>v = .non/\Q (.ref x) H2) E
def Binds (K:Vz) (fd:Z7) (ps:List Str) (ds:List Vy):Prop:=
 ∀(s:Vx) (us:List Vy),K.In s.heap->(us++ds).length=ps.length->BindsTo s fd ⟨us,[]⟩ (ps.zip (us++ds))
theorem Binds.all {K:Vz}{fd:Z7}{ps:List Str} (h:∀us:List Vy,us.length=ps.length->bindArgs fd ⟨us,[]⟩=pure (ps.zip us)):Binds K fd ps []:=λs us _ hl=>by
 rw[S3]at hl ⊢;exact .of_eq (h us hl)
def nW (CX:CXT) (X:Cx) (E:XK):Prop:=∀(pins:List (Z6×Obj)) (σ:St) (H:Hp) (s:Vx) (e:Vy) (s':Vx),Inv X pins σ H s->CX X.stack H s E e s'->X.xe e s'
section
variable {X:Cx}{CX:CXT}{k:Nat}{f C:Z6}{fd:Z7}{ps:List Str}{sp:Sp}{dvs:List V}{ds:List Vy}{E:XK}{x m:Str}{p pos apos:Pos}{e o:Expr}{es:List Expr}{ta:TE}{t:TA}
theorem Bv {pins:List (Z6×Obj)}{σ:St}{H:Hp}{s:Vx}{Q:VK}{us:List Vy}{vs:List V} (F:aA X.prog X.w X.K X.mg X.base CX k f fd ps sp) (l:bI k X.A) (i:Binds X.K fd ps ds) (d:aR dvs ds) (hx:nW CX X E)
  (I:Inv X pins σ H s) (r:aR vs us) (h:sp (vs++dvs) H Q E):Zd (model X.prog X.w) X.A (call (.ref f) us) (EP X pins σ Q) X.xe s:=by
 have b:aR (vs++dvs) (us++ds):=r.append d;have g:(us++ds).length=ps.length:=by rw[<-b.length];exact F.len _ _ _ _ h
 refine wpAny_call (codeAny_mono (F.run X.A X.stack s H ⟨us,[]⟩ (us++ds) (vs++dvs) Q E l I.F2 (i s us I.kIn g) b h) λr c a=>?_);cases r with
 | error e=>exact hx pins σ H s e c I a
 | ok j=>
  cases j with
  | ret u=>exact I.after a
  | next=>exact False.elim a
  | brk=>exact False.elim a
  | cont=>exact False.elim a
theorem ar (F:aA X.prog X.w X.K X.mg X.base CX k f fd ps sp) (v:bI k X.A) (j:Gl X x) (i:X.mg x=some (.ref f)) (m:YF X.K (.ref f)=true) (n:Binds X.K fd ps ds) (g:aR dvs ds) (hx:nW CX X E)
  (u:PA X (e::es) t) (c:(x == ("__debug__" : Str))=false:=by decide) (l:Ze (e::es) X.env=(false,eval e X.env)::Ze es X.env:=by rfl) (b:(backTo pos (Ze es X.env)).any (·.1)=false:=by rfl) :
  PE X (.Call (.Name x p) (e::es) [] pos) (Om sp dvs E t):=by
 intro a s o H Q I h;refine wpAny_Call_Name_kw (md I j i ?_ c);refine PySem.W.callWith_K (h₀:=X.base) I.ok.mod.kin m (thn (u pos a s o H _ I h) λ_ _ ⟨_,_,d,r,q⟩=>⟨d.kIn,?_⟩) l b;exact Bv F v n g hx d r q
theorem fk {pl:Sem Bool} (z:PE X o ta) (c:Cls X.K C) (i:kR X.K C m f) (F:aA X.prog X.w X.K X.mg X.base CX k f fd ps sp) (M:bI k X.A) (G:Binds X.K fd ps ds) (v:aR dvs ds) (hx:nW CX X E) (L:PA X (e::es) t)
  (g:Ze (e::es) X.env=(false,eval e X.env)::Ze es X.env:=by rfl) (d:(backTo pos (Ze es X.env)).any (·.1)=false:=by rfl)
  (D:eval (.Call (.Attribute o m apos) (e::es) [] pos) X.env=(do
   let ov <-eval o X.env
   standAt apos.atName
   let (f,first) <-holding [ov] (getMethod ov m pl)
   callWith pos f first (backTo pos (Ze (e::es) X.env)) (backToKw pos (keywordEach [] X.env))):=by rfl) :
  PE X (.Call (.Attribute o m apos) (e::es) [] pos) (Kq C m sp dvs E ta t):=by
 intro b s n H Q I h;refine PySem.W.methodCall_KW (pl:=pl) (thn (z b s n H _ I h) λu O ⟨x,J,j,B,a,_,_,N,y,l,q⟩=>?_) D;subst N;obtain rfl:u=Value.ref a:=B;refine rW j y c i l ?_;refine PySem.W.callWith_K (first:=[.ref a]) (h₀:=X.base) I.ok.mod.kin i.kp (thn (L pos b O n J _ j q) λus _ ⟨vs,_,p,r,P⟩=>⟨p.kIn,?_⟩) g d;exact Bv (us:=.ref a::us) (vs:=.ref a::vs) F M G v hx p (.cons rfl r) P
theorem gv {pl:Sem Bool} (j:PE X o ta) (c:Cls X.K C) (e:kR X.K C m f) (F:aA X.prog X.w X.K X.mg X.base CX k f fd ps sp) (v:bI k X.A) (r:Binds X.K fd ps ds) (g:aR dvs ds) (hx:nW CX X E)
  (p:eval (.Call (.Attribute o m apos) [] [] pos) X.env=(do
   let ov <-eval o X.env
   standAt apos.atName
   let (f,first) <-holding [ov] (getMethod ov m pl)
   callWith pos f first (backTo pos (Ze [] X.env)) (backToKw pos (keywordEach [] X.env))):=by rfl) :
  PE X (.Call (.Attribute o m apos) [] [] pos) (Kq C m sp dvs E ta IQ):=by
 intro b s t H Q I h;refine PySem.W.methodCall_KW (pl:=pl) (thn (j b s t H _ I h) λu _ ⟨x,_,d,n,a,_,_,y,i,l,q⟩=>?_) p;subst y;obtain rfl:u=Value.ref a:=n;refine rW d i c e l ?_;exact PySem.W.callWith_K0 (first:=[.ref a]) d.kIn e.kp (Bv (us:=[.ref a]) (vs:=[.ref a]) F v r g hx d (.cons rfl .nil) q)
structure Mk (K:Vz) (C f:Z6):Prop where
 makes:PySem.W.makesIn K C=true
 init:Yp K (.ref C) "__init__" = some (some (.ref f))
 fn:PySem.W.isFn K (.ref f)=true
 kp:YF K (.ref C)=true
theorem Gy {pins:List (Z6×Obj)}{σ:St}{H:Hp}{s:Vx}{Q:VK}{us:List Vy}{vs:List V} (M:Mk X.K C f) (F:aA X.prog X.w X.K X.mg X.base CX k f fd ps sp) (y:bI (k+1) X.A) (o:Binds X.K fd ps ds) (m:aR dvs ds)
  (hx:nW CX X E) (I:Inv X pins σ H s) (r:aR vs us)
  (h:∀x dx,H x=none->H dx=none->dx≠x->sp (.ref x::(vs++dvs)) (upd (upd H dx (.own x)) x (.ins C dx [])) (λv H2=>v = .non/\Q (.ref x) H2) E) :
  Zd (model X.prog X.w) X.A (call (.ref C) us) (EP X pins σ Q) X.xe s:=by
 have d:=h (s.heap.objs.size+1) s.heap.objs.size (I.hok.fresh (TB _)) (I.hok.fresh (Sb _)) (SD (Ub _));have b:=Inv.made (C:=C) I;have c:aR (V.ref (s.heap.objs.size+1)::(vs++dvs)) (Value.ref (s.heap.objs.size+1)::(us++ds)):=.cons rfl (r.append m);have q:(Value.ref (s.heap.objs.size+1)::us++ds).length=ps.length:=by
  have e:=c.length;rw[F.len _ _ _ _ d]at e;exact e.symm
 refine wpAny_call (GN (f:=f) I.kIn M.makes M.init (beq_iff_eq.mp M.fn) (codeAny_mono (F.run _ X.stack _ _ ⟨Value.ref (s.heap.objs.size+1)::us,[]⟩ (Value.ref (s.heap.objs.size+1)::(us++ds)) _ _ E (y.make C us [])
  (b.F2.make C us []) (o _ (Value.ref (s.heap.objs.size+1)::us) b.kIn q) c d) λr i a=>?_))
 cases r with
 | error e=>exact hx pins σ _ _ e i b a
 | ok p=>
  cases p with
  | ret u=>
   obtain⟨v,g,t,n,l,j⟩:=b.after a;subst l;exact⟨n,⟨V.ref (s.heap.objs.size+1),g,t,rfl,j⟩⟩
  | next=>exact False.elim a
  | brk=>exact False.elim a
  | cont=>exact False.elim a
theorem xV (M:Mk X.K C f) (F:aA X.prog X.w X.K X.mg X.base CX k f fd ps sp) (u:bI (k+1) X.A) (j:Gl X x) (i:X.mg x=some (.ref C)) (m:Binds X.K fd ps ds) (g:aR dvs ds) (hx:nW CX X E)
  (o:PA X (e::es) t) (c:(x == ("__debug__" : Str))=false:=by decide) (l:Ze (e::es) X.env=(false,eval e X.env)::Ze es X.env:=by rfl) (b:(backTo pos (Ze es X.env)).any (·.1)=false:=by rfl) :
  PE X (.Call (.Name x p) (e::es) [] pos) (ND C sp dvs E t):=by
 intro a s n H Q I h;refine wpAny_Call_Name_kw (md I j i ?_ c);refine PySem.W.callWith_K (h₀:=X.base) I.ok.mod.kin M.kp (thn (o pos a s n H _ I h) λ_ _ ⟨_,_,d,r,q⟩=>⟨d.kIn,?_⟩) l b;exact Gy M F u m g hx d r q
end
section
variable {X:Cx}{CX:CXT}{k:Nat}{f C:Z6}{fd:Z7}{ps ks:List Str}{sp:Sp}{E:XK}{x m:Str}{p pos apos RA:Pos}{e o:Expr}{es:List Expr}{kws:List Keyword}{te ta:TE}{t tk:TA}{nm:Option Str}
structure Q8 (K:Vz) (fd:Z7) (ps ks:List Str) (g:List Vy->List Vy->List Vy) (gV:List V->List V->List V):Prop where
 to:∀(s:Vx) (us ws:List Vy),K.In s.heap->(g us ws).length=ps.length->BindsTo s fd ⟨us,ks.zip ws⟩ (ps.zip (g us ws))
 rel:∀{vs:List V}{us:List Vy}{zs:List V}{ws:List Vy},aR vs us->aR zs ws->aR (gV vs zs) (g us ws)
variable {g:List Vy->List Vy->List Vy}{gV:List V->List V->List V}
end
structure aD (N P:List Str) (sc:Scope):Prop where
 kind:sc.kind = .function
 co:sc.isCoroutine=false
 gen:sc.isGenerator=false
 nd:N.Nodup
 pre:N.take P.length=P
 par:∀x∈P,sc.names.lookup x=some .local\/sc.names.lookup x=some .cell
 Lf:∀y∈sc.names,y.2 ≠ .free
theorem vG {a:Str->Option NameKind}{x:Str}:∀{binds:List (Str×Vy)}{m:Str->Option Vy},(∀v,(x,v)∉binds)->bindL a binds m x=m x
 | [],_,_=>rfl
 | (n,v)::r,m,h=>by
  unfold bindL;rw[vG λw b=>h w (Sf _ b)]
  split
  ·have:x≠n:=by rintro rfl;exact h v Sk
   simp[this]
  ·rfl
theorem v3 {a:Str->Option NameKind}{x:Str}:∀{binds:List (Str×Vy)}{m:Str->Option Vy},(∀v,(x,v)∉binds)->bindC a binds m x=m x
 | [],_,_=>rfl
 | (n,v)::r,m,h=>by
  unfold bindC;rw[v3 λw b=>h w (Sf _ b)]
  split
  ·rfl
  ·have:x≠n:=by rintro rfl;exact h v Sk
   simp[this]
theorem vk {a:Str->Option NameKind}{x:Str}{v:Vy}:∀{P:List Str}{vs:List Vy}{i:Nat}{m:Str->Option Vy},P.Nodup->P[i]? = some x->vs[i]? = some v->a x=some .local ->
  bindL a (P.zip vs) m x=some v
 | [],_,_,_,_,h,_,_=>by simp at h
 | _::_,[],_,_,_,_,h,_=>by simp at h
 | p::P,w::vs,0,m,nd,h1,h2,hk=>by
  simp at h1 h2;subst h1;subst h2;show bindL a ((p,w)::P.zip vs) m p=_;unfold bindL;rw[vG λv b=>(Tq.mp nd).1 (Uz b).1,Zj hk];simp
 | p::P,w::vs,i+1,m,nd,h1,h2,hk=>by
  show bindL a ((p,w)::P.zip vs) m x=_;unfold bindL;exact vk (i:=i) (Tq.mp nd).2 (by simpa using h1) (by simpa using h2) hk
theorem ve {a:Str->Option NameKind}{x:Str}{v:Vy}:∀{P:List Str}{vs:List Vy}{i:Nat}{m:Str->Option Vy},P.Nodup->P[i]? = some x->vs[i]? = some v->a x≠some .local ->
  bindC a (P.zip vs) m x=some v
 | [],_,_,_,_,h,_,_=>by simp at h
 | _::_,[],_,_,_,_,h,_=>by simp at h
 | p::P,w::vs,0,m,nd,h1,h2,hk=>by
  simp at h1 h2;subst h1;subst h2;show bindC a ((p,w)::P.zip vs) m p=_;unfold bindC;rw[v3 λv b=>(Tq.mp nd).1 (Uz b).1,Zk hk];simp
 | p::P,w::vs,i+1,m,nd,h1,h2,hk=>by
  show bindC a ((p,w)::P.zip vs) m x=_;unfold bindC;exact ve (i:=i) (Tq.mp nd).2 (by simpa using h1) (by simpa using h2) hk
def start (N:List Str) (vs:List V):St:=vs.map some++List.replicate (N.length - vs.length) none
def zG (CX:CXT) (P:Z9) (w:Za) (K:Vz) (mg:Str->Option Vy) (base:Heap) (N:List Str) (qual:Str) (scope:Scope) (f:Z6) (cd:Vy) (A:Z8) (outer:List Env) (s:Vx) (H:Hp) (E:XK):Cx where
 prog:=P
 w:=w
 K:=K
 mg:=mg
 base:=base
 A:=A.deeper (envOfC qual scope s.heap.objs.size f cd)
 N:=N
 s₀:=s
 H₀:=H
 env:=envOfC qual scope s.heap.objs.size f cd
 outer:=outer
 stack:=envOfC qual scope s.heap.objs.size f cd::outer
 ex:=[]
 calm:=true
 fn:=λ_=>true
 pn:=[]
 xe:=λe s'=>Zd (model P w) (A.deeper (envOfC qual scope s.heap.objs.size f cd)) (leaving (envOfC qual scope s.heap.objs.size f cd) e) (λ_ s''=>CX outer H s E e s'') (λe' s''=>CX outer H s E e' s'') s'
theorem y4 {a:Scope}{n:Nat}{x:Str} (h:a.names.lookup x=some .cell):∃c,(cellsFrom n a.names []).lookup x=some c:=by
 have q:=PySem.W.cellsFrom_some a.names n [] (.inl h);exact Option.isSome_iff_exists.mp q
theorem Ds {CX:CXT}{P:Z9}{w:Za}{K:Vz}{mg:Str->Option Vy}{base:Heap}{N ps:List Str}{qual:Str}{scope:Scope}{f:Z6}{cd:Vy}{A:Z8}{outer:List Env}{s s1:Vx}{H:Hp}{E:XK}{us:List Vy}{vs:List V}
  (S:aD N ps scope) (D:A.handled=none) (g:sI P w K mg base A outer s H) (J:vs.length=ps.length) (r:aR vs us)
  (x:InCallC s s.heap.objs.size (bindL (envOfC qual scope s.heap.objs.size f cd).kindOf (ps.zip us) λ_=>none) (cellsFrom (s.heap.objs.size+1) scope.names []) (bindC (envOfC qual scope s.heap.objs.size f cd).kindOf (ps.zip us) λ_=>none) s1) :
  Inv (zG CX P w K mg base N qual scope f cd A outer s H E) [] (start N vs) H s1:=by
 have F:ps.length<=N.length:=by have:=congrArg List.length S.pre;rw[Sx]at this;lia
 obtain⟨t,_,rfl,C⟩:=x.done;have l:∀b:Z6,b∉(zG CX P w K mg base N qual scope f cd A outer s H E).ex:=λb z=>absurd (show b∈([]:List Z6)from z) (by simp);refine⟨⟨g.mod,S.kind,rfl,rfl,Sb _,λy z c t d=>?_,λy j=>?_,λy c _ h=>?_,λ_=>D,Around.frames_deeper g.frames,.inr ⟨rfl,rfl⟩,λb z=>absurd z (l b),g.bs,g.bsz,λb _ _=>l b,λb z=>absurd z (l b),g.ot,g.frf⟩,
  rfl,g.bare,Un.kept C,⟨_,x.toInCall.ns,λi y v t d _=>?_⟩,λy c h=>⟨_,x.cell y c h⟩,g.hok.fresh (Sb _),λy c h=>?_,λp o=>absurd (show p∈([]:List (Z6×Obj))from o) (by simp),g.hok.kept C,?_⟩
 ·exact name_of_addr x.apart (Yq t) (Yq d)
 ·have j:scope.names.lookup y=some .cell\/scope.names.lookup y=some .free:=j;rcases j with j | j
  ·exact y4 j
  ·exact absurd rfl (S.Lf _ (Yq j))
 ·exact TF (x.above y c (Yq h))
 ·have hi:i<vs.length:=by
   unfold start at d;by_cases hi:i<vs.length
   ·exact hi
   ·rw[S1 (by simpa using hi)]at d;rw[UP]at d
    split at d <;> cases d
  have I:vs[i]? = some v:=by
   unfold start at d;rw[SW (by simpa using hi),Se]at d;cases e:vs[i]? with
   | none=>rw[e]at d;cases d
   | some a=>rw[e]at d;cases d;rfl
  obtain⟨u,B,G⟩:=r.get I;have o:ps[i]? = some y:=by
   rw[<-S.pre,List.getElem?_take_of_lt (by lia)];exact t
  have m:ps.Nodup:=by rw[<-S.pre];exact S.nd.sublist (List.take_sublist _ _)
  refine⟨u,G,?_⟩;rcases S.par y (Sd o)with k | k
  ·exact .inl ⟨k,vk m o B k⟩
  ·obtain⟨c,e⟩:=y4 (n:=s.heap.objs.size+1) k;refine .inr ⟨.inl k,c,e,?_⟩;have q:=x.cell y c e;rw[ve m o B (by show scope.names.lookup y≠_;rw[k];decide)]at q;exact q
 ·exact g.hok.fresh (TF (x.above y c (Yq h)))
 ·unfold start;show _=N.length;rw[Sj,R8,Us];lia
theorem FG {CX:CXT}{P:Z9}{w:Za}{K:Vz}{mg:Str->Option Vy}{base:Heap}{k:Nat}{f:Z6}{name qual:Str}{c:Arguments}{d:List Stmt}{scope:Scope}{F kV m M a O R:Vy}{L X:Option Z6}
  {C:Array (Option Vy)}{N ps:List Str}{sp:Sp} (lk:K.lookup f=some ⟨R,X,.func (YB name qual c d scope F kV m M L a O),C⟩) (z:YO K a qual=true) (S:aD N ps scope)
  (l:∀vs H Q E,sp vs H Q E->vs.length=ps.length)
  (T:∀(A:Z8) (outer:List Env) (s:Vx) (H:Hp) (vs:List V) (Q:VK) (E:XK),bI k (A.deeper (envOfC qual scope s.heap.objs.size f a))->sp vs H Q E ->
   ∃t,PSs (zG CX P w K mg base N qual scope f a A outer s H E) d t/\t { nx:=λ_ H'=>Q .non H',rt:=Q } (start N vs) H) :
  aA P w K mg base CX (k+1) f (YB name qual c d scope F kV m M L a O) ps sp:=by
 refine⟨l,λA outer s H _ Z vs Q E D j hb r i=>?_⟩;have hl:=l _ _ _ _ i;have G:K.In s.heap:=j.mod.kin.keeps λb o e=>(j.bs b o e).1;have lim:s.heap.NoLimit:=j.mod.nolimit.keeps λb o e=>(j.bs b o e).1;have OG:∀y∈ps.zip Z,scope.names.lookup y.1=some .local\/(scope.names.lookup y.1=some .cell/\((cellsFrom (s.heap.objs.size+1) scope.names []).lookup y.1).isSome=true):=λ⟨n,v⟩ hy=>by
  rcases S.par n (Uz hy).1 with q | q
  ·exact .inl q
  ·exact .inr ⟨q,PySem.W.cellsFrom_some _ _ _ (.inl q)⟩
 refine codeAny_call_function D.depth (G _ _ lk) rfl S.co S.gen rfl (PySem.W.codeRec_of G z) (hb _ _ _ _ ?_);refine wpAny_newFunctionEnv_cells S.kind OG λ_ U s1 x=>?_;subst U;refine⟨lim.keeps x.toInCall.keep,codeAny_func ?_⟩;obtain⟨t,Y,hq⟩:=T A outer s H vs Q E (D.deeper _) i;have I:Inv (zG CX P w K mg base N qual scope f a A outer s H E) [] (start N vs) H s1:=Ds S D.hd j hl r x;refine Vt (Y [] s1 (start N vs) H _ I hq) (λfl s' h=>?_) λe s' h=>h;have p:∀{g:St}{H':Hp}{v:V}{u:Vy},Inv (zG CX P w K mg base N qual scope f a A outer s H E) [] g H' s'->RelV v u->Q v H'->CE outer P w H s Q u s':=
  λ{g H' v u} J B q=>⟨v,H',J.os,J.bare,J.base,J.hok,B,q⟩
 cases fl with
 | ret u=>
  obtain⟨v,g,H',J,B,q⟩:=h;exact p J B q
 | next=>
  obtain⟨g,H',J,q⟩:=h;exact p (v:=V.non) (u:=Value.none) J rfl q
 | brk=>
  obtain⟨_,_,_,q⟩:=h;exact False.elim q
 | cont=>
  obtain⟨_,_,_,q⟩:=h;exact False.elim q
section
variable {X:Cx}{x:Str}{p pos:Pos}{e:Expr}{es:List Expr}{t:TA}{id T:String}{r:List V->Hp->VK->Prop}
def tCB (r:List V->Hp->VK->Prop) (t:TA):TE:=λσ H Q=>t σ H λvs H1=>r vs H1 Q
theorem aH (n:gQ X (.builtin id) r) (g:Gl X x) (f:X.mg x=none) (m:bootBuiltins x=some (.builtin id)) (o:PA X (e::es) t) (q:x ≠ "__name__" :=by decide) (c:(x == ("__debug__" : Str))=false:=by decide)
  (i:Ze (e::es) X.env=(false,eval e X.env)::Ze es X.env:=by rfl) (b:(backTo pos (Ze es X.env)).any (·.1)=false:=by rfl):PE X (.Call (.Name x p) (e::es) [] pos) (tCB r t):=by
 intro a s d H Q I h;refine wpAny_Call_Name_kw (eN I g f m ?_ q c);exact PyProof.Rows.callWith_builtin1 (thn (o pos a s d H _ I h) λj y ⟨u,l,k,w,v⟩=>n a y d l u j Q k w v) i b
theorem ia (n:gQ X (.type T) r) (g:Gl X x) (f:X.mg x=none) (m:bootBuiltins x=some (.type T)) (o:PA X (e::es) t) (q:x ≠ "__name__" :=by decide) (c:(x == ("__debug__" : Str))=false:=by decide)
  (i:Ze (e::es) X.env=(false,eval e X.env)::Ze es X.env:=by rfl) (b:(backTo pos (Ze es X.env)).any (·.1)=false:=by rfl):PE X (.Call (.Name x p) (e::es) [] pos) (tCB r t):=by
 intro a s d H Q I h;refine wpAny_Call_Name_kw (eN I g f m ?_ q c);exact Ym (thn (o pos a s d H _ I h) λj y ⟨u,l,k,w,v⟩=>n a y d l u j Q k w v) i b
end
end L2
namespace HT
open PySem PyProof.Rows
theorem Hk (A:Z8) (s:Vx) (a:Int) (t:Tok) (c:Int) (u:Tok) (prog:Z9) (w:Za) (E:Vy->Vx->Prop) (Q:Vy->Vx->Prop) (h:Q (.bool (decide (a<c))) s) :
  Zd (model prog w) A (richCompare .Lt (.int a t) (.int c u)) Q E s:=
 (PyProof.Rows.lt_int h:Zd (model prog w) A (compareOp .Lt (.int a t) (.int c u)) Q E s)
section
open PySem.SeqAt
open PySem.AutoSeq1 (wpAny_loadPart')
open PySem.MeetsSeq PySem.MeetsSeq2 PySem.MeetsSeq3
end
section
variable {prog:Z9}{w:Za}{A:Z8}{E:Vy->Vx->Prop}{s:Vx}
def sIx (n d:Nat):Option Int->Nat
 | none=>d
 | some v=>if v<0 then(v+(n:Int)).toNat else min v.toNat n
theorem Jy (n d k:Nat):sIx n d (some (k:Int))=min k n:=by
 show(if (k:Int)<0 then((k:Int)+(n:Int)).toNat else min (k:Int).toNat n)=min k n;rw[Zk (by lia),Te]
end
end HT
namespace L2
open PySem PySem.Spec PyProof.Rows
abbrev TO:=St->Hp->(Option Int->Hp->Prop)->Prop
def PO (X:Cx) (e:Option Expr) (t:TO):Prop:=
 ∀(pins:List (Z6×Obj)) (s:Vx) (σ:St) (H:Hp) (Q:Option Int->Hp->Prop),Inv X pins σ H s->t σ H Q ->
  Zd (model X.prog X.w) X.A (evalPart e X.env) (λu s'=>∃o H',Inv X pins σ H' s'/\IsPart u o/\Q o H') X.xe s
def Jk:TO:=λ_ H Q=>Q none H
def N5 (t:TE):TO:=λσ H Q=>t σ H λx H1=>∃i,x = .int i/\Q (some i) H1
section
variable {X:Cx}{e:Expr}{te:TE}{lo hi:Option Expr}{tl th:TO}{pos p2:Pos}
theorem yl:PO X none Jk:=by
 intro pins s σ H Q I h;rw[evalPart_none];exact Vv ⟨none,H,I,.none,h⟩
theorem o5 (h:PE X e te):PO X (some e) (N5 te):=by
 intro a s d H Q I g;rw[evalPart_some];refine thn (h a s d H _ I g) λu _ ⟨x,c,f,b,j⟩=>?_;obtain⟨i,rfl,q⟩:=j;obtain⟨t,rfl⟩:=b;exact⟨some i,c,f,.int i t,q⟩
def SlR (X:Cx) (r:V->Option Int->Option Int->Hp->VK->Prop):Prop:=
 ∀(pins:List (Z6×Obj)) (s:Vx) (σ:St) (H:Hp) (x:V) (v vl vu:Vy) (lo hi:Option Int) (sl:Z6) (Q:VK),Inv X pins σ H s->RelV x v->s.heap.IsSliceOf sl vl vu .none->IsPart vl lo->IsPart vu hi->r x lo hi H Q ->
  ∃T id,typeLookup (.type T) "__getitem__" = pure (some (.builtin id))/\s.TypeIs v T/\Zd (model X.prog X.w) X.A (getItem v (.ref sl)) (EP X pins σ Q) X.xe s
def tSl (r:V->Option Int->Option Int->Hp->VK->Prop) (te:TE) (tl th:TO):TE:=λσ H Q=>te σ H λx H1=>tl σ H1 λl H2=>th σ H2 λu H3=>r x l u H3 Q
theorem oO {r:V->Option Int->Option Int->Hp->VK->Prop} (G:SlR X r) (n:PE X e te) (E:PO X lo tl) (o:PO X hi th):PE X (.Subscript e (.Slice lo hi none p2) pos) (tSl r te tl th):=by
 intro a s d H Q I h;refine Subscript_ (thn (n a s d H _ I h) λv L ⟨x,C,z,K,J⟩=>?_);refine wpAny_Slice (thn (E a L d C _ z J) λf k ⟨l,t,N,B,M⟩=>thn (o a k d t _ N M) λg c ⟨u,i,F,D,j⟩=>?_);rw[evalPart_none];refine Vv ?_;have p:Inv X a d i { c with heap:=c.heap.push { cls:=.type "slice",data:=.fields #[f,g,.none] } }:=F.kept (t':=c.toks) λb _ q=>Vu _ q;obtain⟨T,_,hT,y,m⟩:=G a { c with heap:=c.heap.push { cls:=.type "slice",data:=.fields #[f,g,.none] } } d i x v f g l u c.heap.objs.size Q p K (Heap.IsSliceOf.new ..) B D j;show Zd (model X.prog X.w) X.A (subscriptTail e (.Slice lo hi none p2) v (.ref c.heap.objs.size)) (EP X a d Q) X.xe { c with heap:=c.heap.push { cls:=.type "slice",data:=.fields #[f,g,.none] } };exact tail_any (ops:=[.ref c.heap.objs.size,v]) y hT m (by with_unfolding_all rfl)
def uF (xs:List V) (lo hi:Option Int):List V:=(xs.drop (HT.sIx xs.length 0 lo)).take (HT.sIx xs.length xs.length hi - HT.sIx xs.length 0 lo)
theorem Aw (xs:List V) (lo hi:Option Int):(uF xs lo hi).length<=xs.length:=by
 unfold uF;rw[Sx,Ut];lia
end
def ixN (n:Nat) (i:Int):Option Nat:=if 0<=i then(if i<n then some i.toNat else none)else if -(n:Int)<=i then some (i+n).toNat else none
def atI {α:Type} (xs:List α) (i:Int):Option α:=(ixN xs.length i).bind λj=>xs[j]?
theorem Cf {n:Nat}{i:Int}{j:Nat} (h:ixN n i=some j):seqIndex? i n=some j/\j<n /\ -(n:Int)<=i/\i<n:=by
 unfold ixN at h;by_cases b:0<=i
 ·rw[Zj b]at h;by_cases a:i<n
  ·rw[Zj a]at h;have e:i.toNat=j:=Ye h;exact⟨by rw[seqIndex_of b a,e],by lia,by lia,a⟩
  ·rw[Zk a]at h;cases h
 ·rw[Zk b]at h;by_cases a : -(n:Int)<=i
  ·rw[Zj a]at h;have e:(i+n).toNat=j:=Ye h;exact⟨by rw[seqIndex_neg (by lia) a,e],by lia,a,by lia⟩
  ·rw[Zk a]at h;cases h
theorem xY {α:Type}{xs:List α}{i:Int}{v:α} (h:atI xs i=some v):∃j,seqIndex? i xs.length=some j/\xs[j]? = some v/\j<xs.length /\ -(xs.length:Int)<=i/\i<xs.length:=by
 unfold atI at h;cases e:ixN xs.length i with
 | none=>rw[e]at h;cases h
 | some j=>
  rw[e]at h;obtain⟨b,d,a,c⟩:=Cf e;exact⟨j,b,h,d,a,c⟩
theorem cA {α:Type}{xs:List α}{j:Nat}{v:α} (h:xs[j]? = some v):atI xs (j:Int)=some v:=by
 have a:j<xs.length:=(Tn.mp h).1;have e:ixN xs.length (j:Int)=some j:=by
  unfold ixN;rw[Zj (by lia),Zj (by lia)];simp
 unfold atI;rw[e];exact h
def Jv (b:Expr):Prop:=∀o i,subscripted b false o i=operate [o,i] (getItem o i)
def IxR (X:Cx) (r:R2):Prop:=
 ∀(value slice:Expr) (pins:List (Z6×Obj)) (s:Vx) (σ:St) (H:Hp) (x y:V) (v u:Vy) (Q:VK),Inv X pins σ H s->RelV x v->RelV y u->r x y H Q ->
  subscripted slice false v u=operate [v,u] (getItem v u)->Zd (model X.prog X.w) X.A (subscriptTail value slice v u) (EP X pins σ Q) X.xe s
def MtR (X:Cx) (id:String) (r:V->List V->Hp->VK->Prop):Prop:=
 ∀(pins:List (Z6×Obj)) (s:Vx) (σ:St) (H:Hp) (x:V) (xs:List V) (v:Vy) (us:List Vy) (Q:VK),Inv X pins σ H s->RelV x v->aR xs us->r x xs H Q ->
  Zd (model X.prog X.w) X.A (call (.builtin id) (v::us)) (EP X pins σ Q) X.xe s
section
variable {X:Cx}{a b:Expr}{ta tb:TE}{pos:Pos}
theorem bi {r:R2} (m:IxR X r) (l:PE X a ta) (g:PE X b tb) (i:Jv b):PE X (.Subscript a b pos) (tOp r ta tb):=by
 intro c s j H Q I h;exact Subscript_ (Ky l g I h λv u d x y f n e k q=>m a b c d j f x y v u Q n e k q (i _ _))
def dQ (K:Vz):R2:=λx y H Q=>∃p xs i v,x = .ref p/\y = .int i/\SqL K H p xs/\atI xs i=some v/\Q v H
def m8 (K:Vz):R2:=λx y H Q=>∃p xs i v,x = .ref p/\y = .int i/\SqT K H p xs/\atI xs i=some v/\Q v H
def Pj:R2:=λx y H Q=>∃z i c,x = .str z/\y = .int i/\z.length<=Zc/\atI z.cps.toList i=some c/\Q (.str ⟨#[c]⟩) H
theorem a9:IxR X (dQ X.K):=by
 intro _ _ a s m H x y v u Q I B F h l;obtain⟨p,_,i,z,rfl,rfl,J,A,q⟩:=h;cases B;obtain⟨t,rfl⟩:=F;obtain⟨g,r,d,_⟩:=I.list J;obtain⟨j,c,E,_,D,C⟩:=xY A;obtain⟨w,n,e⟩:=r.get E;have G:=r.length;have L:=nO;have b:EP X a m Q w s:=⟨z,H,I,e,q⟩;by_cases k:0<=i
 ·have f:i.toNat=j:=by
   rw[seqIndex_of k C]at c;exact Ye c
  exact item_listR d.isList k (by lia) (by rw[f];simpa using n) b l
 ·have f:(i+(g.toArray.size:Int)).toNat=j:=by
   rw[seqIndex_neg (by lia) D]at c;rw[Sn,<-G];exact Ye c
  exact subscriptTail_builtinR (x:=w) d.isList.typeIs slot_list_getitem.lookup
   (wpAny_getItem_list_neg (Q:=λr o=>r=w/\EP X a m Q r o) d.isList (by lia) (by rw[Sn] <;> lia) (by lia) (by rw[f];simpa using n) ⟨rfl,b⟩) l
theorem fA:IxR X (m8 X.K):=by
 intro _ _ a s e H x y v u Q I l o h n;obtain⟨p,_,i,z,rfl,rfl,B,k,q⟩:=h;cases l;obtain⟨t,rfl⟩:=o;obtain⟨_,r,d,_⟩:=I.tuple B;obtain⟨j,g,m,_,_,_⟩:=xY k;obtain⟨w,C,b⟩:=r.get m;have A:=r.length;have D:=nO;have c:EP X a e Q w s:=⟨z,H,I,b,q⟩;exact subscriptTail_builtinR (x:=w) d.typeIs slot_tuple_getitem.lookup
  (getItem_tuple (j:=j) (Q:=λr f=>r=w/\EP X a e Q r f) d (by lia) (by lia) (by rw[Sn,<-A];exact g) (by simpa using C) ⟨rfl,c⟩) n
theorem K4:IxR X Pj:=by
 intro _ _ _ s _ H x y v u Q I d m h l;obtain⟨z,i,c,rfl,rfl,_,b,q⟩:=h;obtain⟨t,rfl⟩:=d;obtain⟨_,rfl⟩:=m;obtain⟨j,a,k,_,g,f⟩:=xY b;have n:z.cps.toList.length=z.length:=by simp[YV]
 rw[n]at a g f;have p:=nO;exact tail_any (typeIs_str s z t) slot_str_getitem.lookup (getItem_str (c:=c) (by
  have e:decide (i < -(2 ^ 63:Int))=false:=Zh (by lia);have o:decide (i ≥ 2 ^ 63)=false:=Zh (by lia);rw[e,o,UO]) (by rw[a];simpa using k) ⟨.str ⟨#[c]⟩,H,I.tok _,⟨_,rfl⟩,q⟩) l
theorem Bq (its:List Vy) (n j:Nat) (u:Vy):Y8 (·.setIfInBounds j u) { cls:=.type "list",data:=.seq its.toArray n }={ cls:=.type "list",data:=.seq (its.set j u).toArray n }:=by
 simp[Y8]
theorem Inv.lst {pins:List (Z6×Obj)}{σ:St}{H:Hp}{s:Vx}{p:Z6}{xs:List V} (I:Inv X pins σ H s) (h:H p=some (.lst xs)) :
  ∃(its:List Vy) (n:Nat),aR xs its/\s.heap.get? p=some { cls:=.type "list",data:=.seq its.toArray n }/\xs.length<=Zc:=by
 obtain⟨z,its,n,r,e⟩:=I.hok p _ h;exact⟨its,n,r,e,z⟩
theorem Inv.Mg {pins:List (Z6×Obj)}{σ:St}{H:Hp}{s:Vx}{p:Z6}{xs ys:List V}{its kL:List Vy}{n n':Nat}{f:Obj->Obj} (I:Inv X pins σ H s) (h:H p=some (.lst xs))
  (c:s.heap.get? p=some { cls:=.type "list",data:=.seq its.toArray n }) (a:f { cls:=.type "list",data:=.seq its.toArray n }={ cls:=.type "list",data:=.seq kL.toArray n' }) (r:aR ys kL) (hz:ys.length<=Zc) (t:Nat) :
  Inv X pins σ (upd H p (.lst ys)) { s with heap:=s.heap.update p f,toks:=t }:=by
 have e:(s.heap.update p f).get? p=some { cls:=.type "list",data:=.seq kL.toArray n' }:=by
  rw[Heap.get?_update_self f c (by rw[a] <;> rfl),a]
 refine I.write (x:=p) (e:=p) (by rw[h];trivial) (.inl rfl) (λb u d q=>(Yu _ _ (YQ d)).trans q) ⟨_,e⟩ ?_;exact⟨hz,kL,n',r,e⟩
def NG:V->V->V->Hp->(Hp->Prop)->Prop:=λo i v H Q=>∃p xs k j,o = .ref p/\i = .int k/\H p=some (.lst xs)/\ixN xs.length k=some j/\Q (upd H p (.lst (xs.set j v)))
theorem set_list:NV X NG:=by
 intro a s B H o i v _ _ u Q I A C z h;obtain⟨p,E,k,j,rfl,rfl,x,D,q⟩:=h;cases A;obtain⟨t,rfl⟩:=C;obtain⟨b,n,r,e,y⟩:=I.lst x;obtain⟨c,_,l,w⟩:=Cf D;have f:=r.length;have F:=nO;have g:Inv X a B (upd H p (.lst (E.set j v))) { s with heap:=s.heap.update p (Y8 (·.setIfInBounds j u)) }:=
  I.Mg x e (Bq b n j u) (r.set z j) (by rw[List.length_set];exact y) s.toks
 by_cases m:0<=k
 ·have d:k.toNat=j:=by
   rw[seqIndex_of m w]at c;exact Ye c
  exact PySem.W.ki_setAt e m (by lia) (by rw[Sn,<-f];exact w) (by rw[d];exact⟨_,g,q⟩)
 ·have d:(k+(b.toArray.size:Int)).toNat=j:=by
   rw[seqIndex_neg (by lia) l]at c;rw[Sn,<-f];exact Ye c
  exact PySem.W.ki_setBack e (by lia) (by rw[Sn,<-f];exact l) (by lia) (by rw[d];exact⟨_,g,q⟩)
theorem xo (lo hi:Option Int) (n:Nat):(sliceBounds lo hi none n).1=((HT.sIx n 0 lo:Nat):Int)/\(sliceBounds lo hi none n).2.1=((HT.sIx n n hi:Nat):Int)/\(sliceBounds lo hi none n).2.2=1:=by
 refine⟨?_,?_,rfl⟩
 ·cases lo with
  | none=>simp[sliceBounds,HT.sIx]
  | some i=>
   simp only[sliceBounds,HT.sIx,Option.getD_none,show(1:Int) > 0 by decide,if_true];by_cases h:i<0
   ·simp only[h,if_true] <;> lia
   ·simp only[h,if_false] <;> lia
 ·cases hi with
  | none=>simp[sliceBounds,HT.sIx]
  | some i=>
   simp only[sliceBounds,HT.sIx,Option.getD_none,show(1:Int) > 0 by decide,if_true];by_cases h:i<0
   ·simp only[h,if_true] <;> lia
   ·simp only[h,if_false] <;> lia
theorem uN (its:List Vy) (lo hi:Option Int):slicePick its.toArray lo hi none=((its.drop (HT.sIx its.length 0 lo)).take (HT.sIx its.length its.length hi - HT.sIx its.length 0 lo)).toArray:=by
 obtain⟨c,a,b⟩:=xo lo hi its.toArray.size;unfold slicePick;rw[c,a,b];simp only[sliceRange_one,pick_run,Sn] <;> rfl
def Ln (K:Vz):V->Option Int->Option Int->Hp->VK->Prop:=λx lo hi H Q=>∃a xs,x = .ref a/\SqL K H a xs/\∀p,H p=none->Q (.ref p) (upd H p (.lst (uF xs lo hi)))
theorem Cj:SlR X (Ln X.K):=by
 intro _ s _ H x v _ _ e f _ Q I i m l n h;obtain⟨a,c,rfl,j,q⟩:=h;cases i;obtain⟨_,r,g,k⟩:=I.list j;have d:=r.length;refine⟨"list",_,slot_list_getitem.lookup,g.isList.typeIs,?_⟩;refine wpAny_getItem_list_slice g.isList m l n .none (by simp) ?_ (by rw[Sn] <;> lia);rw[uN,<-d];refine⟨.ref s.heap.objs.size,_,I.laid (t':=s.toks) (o:=.lst (uF c e f)) (λb _ q=>Vu _ q) (Sb _) ?_,rfl,q _ (I.hok.fresh (Sb _))⟩;exact⟨Sl (Aw c e f) k,_,0,(r.drop (HT.sIx c.length 0 e)).take (HT.sIx c.length c.length f - HT.sIx c.length 0 e),Y2 _ rfl⟩
def iB:V->Bool
 | .non=>true
 | .bl _=>true
 | .int _=>true
 | .str _=>true
 | _=>false
def eqV:V->V->Bool
 | .non,.non=>true
 | .bl a,.bl b=>a == b
 | .bl a,.int b=>(if a then 1 else 0) == b
 | .int a,.bl b=>a == (if b then 1 else 0)
 | .int a,.int b=>a == b
 | .str a,.str b=>a == b
 | _,_=>false
theorem Fo {A:Z8}{s:Vx}{y x:V}{u v:Vy} (e:RelV y u) (c:RelV x v) (g:iB y=true) (f:iB x=true):SeqAt.EqAt A s u v (eqV y x):=by
 cases y with
 | non=>
  cases e;cases x with
  | non=>cases c;exact SeqAt.EqAt.same _
  | bl b=>cases c;exact SeqAt.EqAt.none_bool b
  | int b=>obtain⟨t,rfl⟩:=c;exact SeqAt.EqAt.none_int b t
  | str b=>obtain⟨t,rfl⟩:=c;exact SeqAt.EqAt.none_str b t
  | _=>exact absurd (show false=true from f) Ss
 | bl a=>
  cases e;cases x with
  | non=>cases c;exact SeqAt.EqAt.bool_none a
  | bl b=>cases c;exact SeqAt.EqAt.bool_bool a b
  | int b=>obtain⟨t,rfl⟩:=c;exact SeqAt.EqAt.bool_int a b t
  | str b=>obtain⟨t,rfl⟩:=c;exact SeqAt.EqAt.bool_str a b t
  | _=>exact absurd (show false=true from f) Ss
 | int a=>
  obtain⟨d,rfl⟩:=e;cases x with
  | non=>cases c;exact SeqAt.EqAt.int_none a d
  | bl b=>cases c;exact SeqAt.EqAt.int_bool a d b
  | int b=>obtain⟨t,rfl⟩:=c;exact SeqAt.EqAt.int_int a d b t
  | str b=>obtain⟨t,rfl⟩:=c;exact SeqAt.EqAt.int_str a d b t
  | _=>exact absurd (show false=true from f) Ss
 | str a=>
  obtain⟨d,rfl⟩:=e;cases x with
  | non=>cases c;exact SeqAt.EqAt.str_none a d
  | bl b=>cases c;exact SeqAt.EqAt.str_bool a d b
  | int b=>obtain⟨t,rfl⟩:=c;exact SeqAt.EqAt.str_int a d b t
  | str b=>obtain⟨t,rfl⟩:=c;exact SeqAt.EqAt.str_str a d b t
  | _=>exact absurd (show false=true from f) Ss
 | _=>exact absurd (show false=true from g) Ss
def eqU (x:V) (u:Vy):Bool:=match u with
 | .none=>eqV .non x
 | .bool b=>eqV (.bl b) x
 | .int i _=>eqV (.int i) x
 | .str z _=>eqV (.str z) x
 | _=>false
theorem BI {x y:V}{u:Vy} (r:RelV y u) (f:iB y=true):eqU x u=eqV y x:=by
 cases y with
 | non=>cases r;rfl
 | bl b=>cases r;rfl
 | int i=>obtain⟨t,rfl⟩:=r;rfl
 | str z=>obtain⟨t,rfl⟩:=r;rfl
 | _=>exact absurd (show false=true from f) Ss
theorem xO {x:V}:∀{xs:List V}{us:List Vy},aR xs us->xs.all iB=true->us.any (eqU x)=xs.any λy=>eqV y x
 | _,_,.nil,_=>rfl
 | y::xs,u::us,.cons r t,f=>by
  rw[Uj,S4]at f;rw[Td,Td,BI r f.1,xO t f.2]
theorem oB {A:Z8}{s:Vx}{x:V}{v:Vy} (c:RelV x v) (b:iB x=true):∀{xs:List V}{us:List Vy},aR xs us->xs.all iB=true->∀u∈us,SeqAt.EqAt A s u v (eqU x u)
 | _,_,.nil,_=>λu a=>by cases a
 | y::xs,u::us,.cons r t,f=>λd a=>by
  rw[Uj,S4]at f;rcases Su.mp a with rfl | a
  ·rw[BI r f.1];exact Fo r c f.1 b
  ·exact oB c b t f.2 d a
def inV (x:V) (xs:List V):Bool:=xs.any λy=>eqV y x
def rIn (K:Vz) (neg:Bool):R2:=λx y H Q=>∃p xs,y = .ref p/\(SqL K H p xs\/SqT K H p xs)/\iB x=true/\xs.all iB=true/\Q (.bl (if neg then !inV x xs else inV x xs)) H
theorem vV:OpR X (compareOp .In) (rIn X.K false):=by
 intro _ s _ H x y v u Q I f j h;obtain⟨p,_,rfl,b,g,c,q⟩:=h;cases j;rcases b with b | b
 ·obtain⟨a,r,e,i⟩:=I.list b;refine SeqAt.in_listAt (eqU x) e.isList (λw d=>oB f g r c w (by simpa using d)) ⟨.bl _,H,I,rfl,?_⟩;rw[show a.toArray.any (eqU x)=a.any (eqU x)by simp,xO r c];exact q
 ·obtain⟨a,r,e,i⟩:=I.tuple b;refine SeqAt.in_tupleAt (eqU x) e (λw d=>oB f g r c w (by simpa using d)) ⟨.bl _,H,I,rfl,?_⟩;rw[show a.toArray.any (eqU x)=a.any (eqU x)by simp,xO r c];exact q
theorem wI:gQ X (.builtin "len") (λxs H Q=>∃p ys,xs=[.ref p]/\(SqL X.K H p ys\/SqT X.K H p ys)/\Q (.int ys.length) H):=by
 intro _ s _ H xs _ Q I r h;obtain⟨p,ys,rfl,b,q⟩:=h;obtain⟨u,rfl,f⟩:=vals1 r;cases f;have i:=nO;rcases b with b | b
 ·obtain⟨e,d,c,g⟩:=I.list b;have a:=d.length;exact Calls.call_len_list c.isList (by simp only[Sn] <;> lia) ⟨.int ys.length,H,I.tok _,⟨s.toks+1,by rw[Sn,a]⟩,q⟩
 ·obtain⟨e,d,c,g⟩:=I.tuple b;have a:=d.length;exact len_tuple c (by simp only[Sn] <;> lia) ⟨.int ys.length,H,I.tok _,⟨s.toks+1,by rw[Sn,a]⟩,q⟩
theorem o4:gQ X (.builtin "len") (λxs H Q=>∃z,xs=[.str z]/\z.length<=Zc/\Q (.int z.length) H):=by
 intro _ s _ H xs _ Q I r h;obtain⟨z,rfl,_,q⟩:=h;obtain⟨u,rfl,t,rfl⟩:=vals1 r;have a:=nO;exact len_str (by lia) ⟨.int z.length,H,I.tok _,⟨_,rfl⟩,q⟩
theorem xU:gQ X (.type "list") (λxs H Q=>∃p ys,xs=[.ref p]/\(SqL X.K H p ys\/SqT X.K H p ys)/\∀l,H l=none->Q (.ref l) (upd H l (.lst ys))):=by
 intro g s z H xs _ Q I r h;obtain⟨p,ys,rfl,i,q⟩:=h;obtain⟨u,rfl,y⟩:=vals1 r;cases y;have j:∀(a:List Vy),aR ys a->ys.length<=Zc->∀(h':Heap) (c':Nat),(∀b o',s.heap.get? b=some o'->h'.get? b=some o') ->
   h'.get? s.heap.objs.size=some { cls:=.type "list",dict:=none,data:=.seq a.toArray c',slots:=#[] }->EP X g z Q (.ref s.heap.objs.size) { s with heap:=h' }:=λa c d h' c' k e=>
  ⟨.ref s.heap.objs.size,_,I.laid (t':=s.toks) k (Sb _) (show bW X.prog X.w _ h' _ (.lst ys)from⟨d,a,c',c,e⟩),rfl,q _ (I.hok.fresh (Sb _))⟩
 rcases i with i | i
 ·obtain⟨a,c,t,d⟩:=I.list i;have f:=c.length;obtain⟨o,v,x,n,m⟩:=t.isList;exact call_list_seq p (.inl rfl) v x m (λh' c' k e=>j a c d h' c' k e) (by simp only[Sn] <;> lia)
 ·obtain⟨a,c,t,d⟩:=I.tuple i;have f:=c.length;obtain⟨o,v,x,n,m⟩:=t;exact call_list_seq p (.inr rfl) v x m (λh' c' k e=>j a c d h' c' k e) (by simp only[Sn] <;> lia)
theorem uB:gQ X (.type "tuple") (λxs H Q=>∃p ys,xs=[.ref p]/\((SqL X.K H p ys/\∀l,H l=none->Q (.ref l) (upd H l (.tup ys)))\/(SqT X.K H p ys/\Q (.ref p) H))):=by
 intro a s n H xs _ Q I r h;obtain⟨p,ys,rfl,h⟩:=h;obtain⟨u,rfl,t⟩:=vals1 r;cases t;rcases h with⟨g,q⟩ | ⟨g,q⟩
 ·obtain⟨c,i,f,j⟩:=I.list g;have k:=i.length;refine call_tuple_list f.isList (λd v=>?_) (by simp only[Sn] <;> lia);have m:Inv X a n H { s with heap:=d }:=I.kept (t':=s.toks) v;have x:Inv X a n (upd H d.objs.size (.tup ys)) { s with heap:=d.push { cls:=.type "tuple",data:=.seq c.toArray } }:=
   m.laid (t':=s.toks) (λb o e=>Vu _ e) (Sb _) (show bW X.prog X.w _ _ _ (.tup ys)from⟨j,c,i,IsTup.new _ _⟩)
  exact⟨.ref d.objs.size,_,x,rfl,q _ (m.hok.fresh (Sb _))⟩
 ·obtain⟨c,i,f,j⟩:=I.tuple g;exact call_tuple_same f ⟨.ref p,H,I,rfl,q⟩
def tyV (K:Vz) (T:String) (x:V) (H:Hp):Prop:=match x with
 | .str _=>T = "str"
 | .int _=>T = "int"
 | .ref p=>(T = "list" /\ ∃xs,SqL K H p xs)\/(T = "tuple" /\ ∃o,K.lookup p=some o/\o.cls = .type "tuple" /\ o.dict=none) \/
   (T = "dict" /\ ((∃kvs,H p=some (.dK kvs))\/∃kvs,H p=some (.dT kvs)))\/(T = "set" /\ ∃S n,H p=some (.set S n))
 | _=>False
theorem LV {pins:List (Z6×Obj)}{σ:St}{H:Hp}{s:Vx}{T:String}{x:V}{v:Vy} (I:Inv X pins σ H s) (r:RelV x v) (ty:tyV X.K T x H) :
  s.TypeIs v T/\∀a,v = .ref a->∃ob,s.heap.get? a=some ob/\ob.dict=none:=by
 cases x with
 | str z=>
  obtain⟨t,rfl⟩:=r;cases(show T = "str" from ty);exact⟨typeIs_str s z t,λ_ e=>nomatch e⟩
 | int i=>
  obtain⟨t,rfl⟩:=r;cases(show T = "int" from ty);exact⟨typeIs_int s i t,λ_ e=>nomatch e⟩
 | ref p=>
  cases r;rcases ty with⟨rfl,_,l⟩ | ⟨rfl,o,b,k,f⟩ | ⟨rfl,b⟩ | ⟨rfl,S,n,b⟩
  ·obtain⟨_,_,j,_⟩:=I.list l;refine⟨j.isList.typeIs,λa e=>?_⟩;cases e;obtain⟨o,n,e,c,f,_⟩:=j;exact⟨o,e,f⟩
  ·refine⟨⟨o,I.kIn p o b,k⟩,λa e=>?_⟩;cases e;exact⟨o,I.kIn _ o b,f⟩
  ·have z:∃o,s.heap.get? p=some o/\o.ExactDict:=by
    rcases b with⟨h,b⟩ | ⟨h,b⟩
    ·obtain⟨_,_,_,_,o,_,_,e,d,_⟩:=I.hok p _ b;exact⟨o,e,d⟩
    ·obtain⟨_,_,_,_,o,_,_,e,d,_⟩:=I.hok p _ b;exact⟨o,e,d⟩
   obtain⟨o,e,d⟩:=z;refine⟨⟨o,e,d.1⟩,λa g=>?_⟩;cases g;exact⟨o,e,d.2.1⟩
  ·obtain⟨o,_,_,_,e,d,_⟩:=I.hok p _ b;refine⟨⟨o,e,d.1⟩,λa g=>?_⟩;cases g;exact⟨o,e,d.2.1⟩
 | _=>exact False.elim ty
def tBM (K:Vz) (T:String) (r:V->List V->Hp->VK->Prop) (to:TE) (t:TA):TE:=λσ H Q=>to σ H λx H1=>tyV K T x H1/\t σ H1 λxs H2=>r x xs H2 Q
variable {o e:Expr}{es:List Expr}{to:TE}{t:TA}{name:Str}{apos dC:Pos}{T id:String}{r:V->List V->Hp->VK->Prop}
theorem ee (pa:PlainAttrs T) (slot:Slot T name id) (c:typeOf (.builtin id)=pure (.type "method_descriptor")) (j:MtR X id r) (A:PE X o to) (B:PA X (e::es) t)
  (q:attributeBase o name X.env (eval o X.env)=eval o X.env:=by rfl)
  (E:((backTo dC (Ze (e::es) X.env)).all (λx=>!x.1) && (backToKw dC (keywordEach [] X.env)).all (λx=>x.1.isSome)
   && decide ((e::es).length+([]:List Keyword).length+(if ([]:List Keyword).isEmpty then 0 else 1)<30))=true:=by rfl)
  (l:(apos.endLine == dC.line)=true:=by rfl) (y:Ze (e::es) X.env=(false,eval e X.env)::Ze es X.env:=by rfl) (g:(backTo dC (Ze es X.env)).any (·.1)=false:=by rfl) :
  PE X (.Call (.Attribute o name apos) (e::es) [] dC) (tBM X.K T r to t):=by
 intro a s b H Q I h;refine wpAny_Call_method_late q E l rfl (thn (A a s b H _ I h) λv F ⟨x,u,d,f,z,D⟩=>?_);obtain⟨k,w⟩:=LV d f z;refine⟨T,id,pa,slot,c,k,w,?_⟩;have hA:=B dC a F b u _ d D;rw[y]at hA ⊢;refine Calls.callWith_builtin (by show(false || (backTo dC (Ze es X.env)).any (·.1))=false;rw[g] <;> rfl) (Calls.evalArgs_plain ?_)
 exact thn hA λn i ⟨C,m,J,p,G⟩=>j a i b m x C v n Q J f p G
end
def MtM (X:Cx) (id:String) (r:V->List V->Hp->VK->Prop):Prop:=
 ∀(pins:List (Z6×Obj)) (s:Vx) (σ:St) (H:Hp) (x:V) (xs:List V) (v:Vy) (us:List Vy) (Q:VK),Inv X pins σ H s->RelV x v->aR xs us->r x xs H Q ->
  Zd (model X.prog X.w) X.A (call (.builtin id) (v::us)) (EP X pins σ Q) X.xe s
theorem aR.one:∀{x:V}{us:List Vy},aR [x] us->∃u,us=[u]/\RelV x u
 | _,_,.cons r .nil=>⟨_,rfl,r⟩
section
variable {X:Cx}{pins:List (Z6×Obj)}{σ:St}{H:Hp}{s:Vx}{l b:Z6}{xs ys zs:List V}
theorem Inv.Eg {its kL:List Vy}{n:Nat}{f:Array Vy->Array Vy}{t':Nat} (I:Inv X pins σ H s) (hH:H l=some (.lst xs))
  (e:s.heap.get? l=some { cls:=.type "list",data:=.seq its.toArray n }) (b:f its.toArray=kL.toArray) (d:aR ys kL) (hz:ys.length<=Zc) :
  Inv X pins σ (upd H l (.lst ys)) { s with heap:=s.heap.update l (Y8 f),toks:=t' }:=by
 have q:=PySem.IsL.update e f;rw[b]at q;refine I.write (x:=l) (e:=l) (by rw[hH];exact trivial) (.inl rfl) (λ_ u a c=>(Yu s.heap (Y8 f) (YQ a)).trans c) ⟨_,q⟩ ?_;exact⟨hz,kL,_,d,q⟩
theorem Inv.Q9 {its:List Vy}{t':Nat} (I:Inv X pins σ H s) (a:aR ys its) (hz:ys.length<=Zc) :
  Inv X pins σ (upd H s.heap.objs.size (.lst ys)) { s with heap:=s.heap.push { cls:=.type "list",data:=.seq its.toArray },toks:=t' }:=
 I.laid (λ_ _ q=>Vu _ q) (Sb _) ⟨hz,its,0,a,Y2 _ rfl⟩
theorem Inv.fresh (I:Inv X pins σ H s):H s.heap.objs.size=none:=I.hok.fresh (Sb _)
theorem Inv.EE (I:Inv X pins σ H s) (hH:H l=some (.lst xs)):xs.length<=Zc/\∃(its:List Vy) (n:Nat),aR xs its/\xs.length=its.length/\s.heap.get? l=some { cls:=.type "list",data:=.seq its.toArray n }:=by
 obtain⟨z,its,n,r,e⟩:=I.hok l _ hH;exact⟨z,its,n,r,r.length,e⟩
theorem GJ {n:Nat} (h:n<=Zc):Builtin.List.listTooLong n=false:=by
 unfold Builtin.List.listTooLong;exact Zh (by lia)
end
section
variable {X:Cx}
def JW:V->List V->Hp->VK->Prop:=λx vs H Q=>∃l xs y,x = .ref l/\vs=[y]/\H l=some (.lst xs)/\xs.length<Zc/\Q .non (upd H l (.lst (xs++[y])))
theorem cJ:MtM X "list.append" JW:=by
 intro _ s _ H x _ v _ Q I b c h;obtain⟨l,_,y,rfl,rfl,hH,_,q⟩:=h;cases b;obtain⟨u,rfl,d⟩:=c.one;obtain⟨z,a,n,r,_,e⟩:=I.EE hH;refine call_meets F.slot_list_append ⟨_,e,rfl⟩ F.entry_list_append (F.args_list_append_2 _ _) (PySem.list_append l a.toArray n u (by rw[Sn];lia)) ⟨e,?_⟩;refine⟨.non,_,I.Eg (kL:=a++[u]) hH e (by simp) (r.append (.cons d .nil)) ?_,rfl,q⟩;rw[Sj,Sw];lia
def HS:V->List V->Hp->VK->Prop:=λx vs H Q=>∃l b xs zs,x = .ref l/\vs=[.ref b]/\H l=some (.lst xs)/\H b=some (.lst zs)/\xs.length+zs.length<=Zc/\Q .non (upd H l (.lst (xs++zs)))
theorem vM:MtM X "list.extend" HS:=by
 intro _ s _ H x _ v _ Q I g k h;obtain⟨l,b,_,_,rfl,rfl,hH,f,_,q⟩:=h;cases g;obtain⟨u,rfl,m⟩:=k.one;cases m;obtain⟨z,a,n,r,_,e⟩:=I.EE hH;obtain⟨_,c,i,o,_,p⟩:=I.EE f;have d:a.toArray.size+c.toArray.size<=Zc:=by rw[Sn,Sn];lia
 have j:¬ (!a.toArray.isEmpty && Builtin.List.listTooLong (a.toArray.size+c.toArray.size))=true:=by
  rw[GJ d,Ur];exact Ss
 refine call_meets F.slot_list_extend ⟨_,e,rfl⟩ F.entry_list_extend (F.args_list_extend_2 _ _)
  (AutoSeq1.list_extend_list_list_0 l a.toArray n b c.toArray i j (by rw[Sn];lia) (by lia)) ⟨e,p,?_⟩
 refine⟨.non,_,I.Eg (kL:=a++c) hH e (by simp) (r.append o) ?_,rfl,q⟩;rw[Sj];lia
end
section
variable {prog:Z9}{w:Za}{A:Z8}{E:Vy->Vx->Prop}{s:Vx}
end
section
variable {X:Cx}
end
end L2
namespace Att
open PySem PySem.W PySem.Calls PyProof.Rows
theorem qW {P:Params}{h:Heap}:∀(ns:List Int) (vs:List Vy),WellAll P h vs (ns.map WData.int)->IntsAre vs ns:=by
 intro ns
 induction ns with
 | nil=>
  intro vs w;rw[Tw]at w;cases w;exact .nil
 | cons n ns c=>
  intro vs w;rw[Sv]at w;cases w with
  | cons a b=>
   cases a;exact .cons _ _ (c _ b)
theorem DH {l:OpenLaw}{n:Nat} (u:l.most=some n) {P:Params}{h:Heap}{args:List WData}{b:List Vy}
  (k:l.row.toRowW.claim.pre args=true) (g:WellAll P h b args) :
  ∃a vs ns,b=[Value.ref a]/\args=[WData.list (ns.map WData.int)]/\h.get? a=some { cls:=.type "list",data:=.seq vs.toArray }/\IntsAre vs ns/\ns.length<=n:=by
 have i:WShape.hasAll [] args [.list .int]=true:=(pre_splitW k).1;have j:l.pre.holds [] { args:=args }=true:=(pre_splitW k).2;obtain⟨d,r,rfl,p,s⟩:=hasAllW_cons i;obtain rfl:=hasAllW_nil s;obtain⟨_,rfl,m⟩:=hasW_list p;obtain⟨ns,rfl⟩:=items_int m;have c:ns.length<=n:=by
  unfold OpenLaw.pre at j;have f:(WTm.not (.lt (.lit (.int (n:Int))) (.len (.arg 0)))).holds [] { args:=[.list (ns.map .int)] }=true:=by
   have f:=(holds_andW j).1;rw[u]at f;exact f
  have e:=condW_of f (w_not (w_lt w_lit (w_len_list (w_arg rfl))));rw[R8]at e;refine Nat.le_of_not_lt λq=>?_;have v:(n:Int)<((ns.length:Nat):Int):=by lia
  first
   | (rw[Zg v]at e;exact absurd e (by decide))
   | (simp at e;lia)
 cases g with
 | cons w1 w2=>
  cases w2;cases w1 with
  | list t o=>exact⟨_,_,ns,rfl,rfl,t,qW ns _ o,c⟩
theorem DS (l:OpenLaw) (args:List WData):l.row.toRowW.claim.post args (.bool true) args=true:=
 postW_of (r:=l.row.toRowW) (X:=(true == true))
  (show WShape.has [] (.bool true) .bool=true by first | rfl | decide | simp[WShape.has,WShape.arms,WShape.armsAll])
  (show(WTm.eq .res (.lit (.bool true))).value [] { args:=args,res:=some (.bool true),after:=args }=some (.bool (true == true))from w_eq_bool (w_res rfl) w_lit) rfl
theorem zh {l:OpenLaw}{n:Nat}{q:Z9}{loose:List Str}{m:(Str->Option Vy)->Heap->Prop}{j:Za->Heap->Prop}{d:DefRec}
  (D:l.most=some n) (h:d.params.defaults=[])
  (b:∀(w:Za) (s₀ s₁:Vx) (mg mb:Str->Option Vy) (fa:Z6) (o:Obj) (pm cd doc:Vy) (a:Z6) (vs:List Vy) (ns:List Int),
   Ground q loose [] m w s₀ mg mb s₁.heap->j w s₁.heap ->
   s₁.heap.get? fa=some o->o.data = .func (docDef d.name d.params d.body d.scope pm cd doc)->s₁.heap.CodeRec cd d.name->mg d.name=some (.ref fa) ->
   s₁.heap.get? a=some { cls:=.type "list",data:=.seq vs.toArray }->IntsAre vs ns->ns.length<=n->s₁.gens = #[] ->
   codeAny (model l.prog w) callerA (.call (.ref fa) ⟨[.ref a],[]⟩) (λr s'=>r = .ok (.ret (.bool true))/\OldK s₁.heap s'.heap/\s'.os=s₁.os/\AllBare s'.gens) s₁) :
  WalkO q loose m j l.row.toRowW d [] (λf vs=>PySem.call f vs):=by
 intro w s₀ s₁ mg mb G Y fa o pm cd doc s kV A t e k i v _ _ _ E _ _ g _;obtain rfl:s = .none:=Dflts.none k h;obtain rfl:kV = .none:=Dflts.noKw k;obtain⟨a,vs,ns,rfl,rfl,x,B,c⟩:=DH D E g;refine enter_call (codeAny_mono (b w s₀ s₁ mg mb fa o pm cd doc a vs ns G Y A (fd_plain t) e i x B c v) λr s' C=>?_);obtain⟨rfl,z,p,y⟩:=C;exact⟨.inl ⟨.bool true,.bool true,[],rfl,λ_=>rfl,.bool true,DS l _,λ_=>⟨List.Pairwise.nil,λ_ u=>(nomatch u)⟩⟩,z,p,y⟩
section
variable {prog:Z9}{w:Za}{A:Z8}{E:Vy->Vx->Prop}{s:Vx}{K:Frag}
end
end Att
namespace L2
open PySem PySem.Spec PyProof.Rows
theorem wt:∀{vs:List Vy}{ns:List Int},IntsAre vs ns->aR (ns.map V.int) vs
 | _,_,.nil=>.nil
 | _,_,.cons n t h=>.cons ⟨t,rfl⟩ (wt h)
abbrev CX0:CXT:=λ_ _ _ _ _ _=>False
abbrev E0:XK:=λ_ _ _=>False
theorem ay {X:Cx}:nW CX0 X E0:=λ_ _ _ _ _ _ _ h=>h.elim
structure Fun (K:Vz) (x qual:Str) (st:Stmt) (f:Z6) (fd:Z7):Prop where
 ex:∃(oc:Vy) (od:Option Z6) (kV doc pm:Vy) (an:Option Z6) (cdv ct:Vy) (osl:Array (Option Vy)),
  fd=YB x qual (cB st) (bT st) (ag st) .none kV doc pm an cdv ct/\K.lookup f=some ⟨oc,od,.func fd,osl⟩/\YO K cdv qual=true
 kp:YF K (.ref f)=true
section
variable {P:Z9}{w:Za}{K:Vz}{mg:Str->Option Vy}{base:Heap}
theorem Fun.ok {x qual:Str}{st:Stmt}{f:Z6}{fd:Z7}{N ps:List Str}{k:Nat}{sp:Sp} (F:Fun K x qual st f fd) (S:aD N ps (ag st)) (c:∀vs H Q E,sp vs H Q E->vs.length=ps.length)
  (d:∀(cdv:Vy) (A:Z8) (outer:List Env) (s:Vx) (H:Hp) (vs:List V) (Q:VK) (E:XK),bI k (A.deeper (envOfC qual (ag st) s.heap.objs.size f cdv))->sp vs H Q E ->
   ∃t,PSs (zG CX0 P w K mg base N qual (ag st) f cdv A outer s H E).nox (bT st) t/\t { nx:=λ_ H'=>Q .non H',rt:=Q } (start N vs) H):aA P w K mg base CX0 (k+1) f fd ps sp:=by
 obtain⟨_,_,kV,_,_,_,cdv,_,_,rfl,e,a⟩:=F.ex;refine FG e a S c λA outer s H vs Q E g b=>?_;obtain⟨t,h,q⟩:=d cdv A outer s H vs Q E g b;exact⟨t,h.nox,q⟩
theorem Fun.binds {x qual:Str}{st:Stmt}{f:Z6}{fd:Z7}{ps:List Str} (F:Fun K x qual st f fd)
  (h:∀(kV doc pm:Vy) (an:Option Z6) (cdv ct:Vy) (us:List Vy),us.length=ps.length->bindArgs (YB x qual (cB st) (bT st) (ag st) .none kV doc pm an cdv ct) ⟨us,[]⟩=pure (ps.zip us)):Binds K fd ps []:=by
 obtain⟨_,_,kV,doc,pm,an,cdv,ct,_,rfl,_,_⟩:=F.ex;exact .all (h kV doc pm an cdv ct)
theorem Fl {x qual:Str}{st:Stmt}{f:Z6}{i:Vy}{j g:Option Z6}{d:Array (Option Vy)}{kV b e a h:Vy} (l:K.lookup f=some ⟨i,j,.func (YB x qual (cB st) (bT st) (ag st) .none kV b e g a h),d⟩)
  (c:YO K a qual=true) (k:YF K (.ref f)=true):Fun K x qual st f (YB x qual (cB st) (bT st) (ag st) .none kV b e g a h):=⟨⟨i,j,kV,b,e,g,a,h,d,rfl,l,c⟩,k⟩
end
theorem FP {A:Z8}{k:Nat} (hr:bI k A):A.units+1<cLine:=Um (Nat.add_le_add_left (by decide:1<=64) _) hr.units
section
variable {X:Cx}
theorem pv (i:Nat) {x:Str}{pos:Pos} (c:X.N[i]? = some x:=by rfl) (d:Vis X.env.scope x:=by first | exact Or.inl rfl | exact Or.inr (Or.inl rfl) | exact Or.inr (Or.inr rfl)) (b:(x == ("__debug__" : Str))=false:=by decide)
  (a:(x == ("__classdict__" : Str))=false:=by decide):PE X (.Name x pos) (qX i):=Lp c d b a
end
theorem br {A B:Prop} (h:B):if false=true then A else B:=by
 rw[Zk Ss];exact h
theorem b9 {A B:Prop} (h:A):if true=true then A else B:=by
 rw[Zj rfl];exact h
theorem yb {c A B:Prop} [Decidable c] (h1:c->A) (h2:¬ c->B):if c then A else B:=by
 by_cases h:c
 ·rw[Zj h];exact h1 h
 ·rw[Zk h];exact h2 h
def af (H H':Hp):Prop:=∀b o,H b=some o->H' b=some o
theorem af.refl (H:Hp):af H H:=λ_ _ h=>h
theorem af.trans {H H1 H2:Hp} (a:af H H1) (b:af H1 H2):af H H2:=λc o h=>b c o (a c o h)
theorem af.free {H H':Hp} (e:af H H') {l:Z6} (h:H' l=Option.none):H l=Option.none:=by
 cases q:H l with
 | none=>rfl
 | some o=>
  rw[e l o q]at h;cases h
theorem af.seq {K:Vz}{H H':Hp}{a:Z6}{xs:List V} (e:af H H') (h:SqL K H a xs):SqL K H' a xs:=by
 rcases h with(h | ⟨o,h⟩) | h
 ·exact .inl (.inl (e _ _ h))
 ·exact .inl (.inr ⟨o,e _ _ h⟩)
 ·exact .inr h
section
variable {κ:Type} [DecidableEq κ]
def eY (kvs:List (κ×V)) (k:κ):Option V:=(kvs.find? λkv=>decide (kv.1=k)).map (·.2)
def putK (kvs:List (κ×V)) (k:κ) (v:V):List (κ×V):=
 if (kvs.any λkv=>decide (kv.1=k))=true then kvs.map (λkv=>if kv.1=k then(kv.1,v)else kv)else kvs++[(k,v)]
theorem js {p:κ×V}{r:List (κ×V)}{k:κ} (e:p.1=k):eY (p::r) k=some p.2:=by simp[eY,Tg,e]
theorem pF {p:κ×V}{r:List (κ×V)}{k:κ} (e:¬ p.1=k):eY (p::r) k=eY r k:=by simp[eY,Tg,e]
theorem zJ (k:κ):∀kvs:List (κ×V),(kvs.any λkv=>decide (kv.1=k))=(eY kvs k).isSome
 | []=>rfl
 | p::r=>by
  rw[Td];by_cases e:p.1=k
  ·simp only[js e,Zg e,Bool.true_or,Option.isSome_some]
  ·rw[pF e,Zh e,Bool.false_or];exact zJ k r
theorem lK (kvs:List (κ×V)) (k:κ) (v:V):(putK kvs k v).length<=kvs.length+1:=by
 unfold putK
 split
 ·rw[R8];lia
 ·rw[Sj,SE,Tr];lia
theorem jm.DF {o:Option V}{u:Option Vy} (r:jm o u):o.isSome=u.isSome:=by
 cases o with
 | none=>cases u with
  | none=>rfl
  | some _=>exact(show False from r).elim
 | some _=>cases u with
  | none=>exact(show False from r).elim
  | some _=>rfl
theorem jm.getD {o:Option V}{u:Option Vy}{d:V}{d':Vy} (r:jm o u) (a:RelV d d'):RelV (o.getD d) (u.getD d'):=by
 cases o with
 | none=>cases u with
  | none=>exact a
  | some _=>exact(show False from r).elim
 | some _=>cases u with
  | none=>exact(show False from r).elim
  | some _=>exact r
theorem KV.val {kvs:List (κ×V)}{vs:List (κ×Vy)} (r:KV kvs vs) (k:κ):jm (eY kvs k) (valueAt vs k):=by
 unfold KV at r
 induction r with
 | nil=>exact True.intro
 | @cons p q ps qs h t ih=>
  obtain⟨c,d⟩:=h;by_cases e:p.1=k
  ·have a:q.1=k:=c.symm.trans e;have b:valueAt (q::qs) k=some q.2:=by simp[valueAt,Tg,a]
   rw[js e,b];exact d
  ·have a:¬ q.1=k:=λz=>e (c.trans z);have b:valueAt (q::qs) k=valueAt qs k:=by simp[valueAt,Tg,a]
   rw[pF e,b];exact ih
theorem KV.any {kvs:List (κ×V)}{vs:List (κ×Vy)} (r:KV kvs vs) (k:κ):(kvs.any λkv=>decide (kv.1=k))=vs.any λkv=>decide (kv.1=k):=by
 unfold KV at r
 induction r with
 | nil=>rfl
 | cons h t a=>rw[Td,Td,a,h.1]
theorem KV.Kw {kvs:List (κ×V)}{vs:List (κ×Vy)} (r:KV kvs vs) (k:κ) {y:V}{u:Vy} (b:RelV y u) :
  KV (kvs.map λkv=>if kv.1=k then(kv.1,y)else kv) (vs.map λkv=>if kv.1=k then(kv.1,u)else kv):=by
 unfold KV at r ⊢
 induction r with
 | nil=>exact .nil
 | @cons p q ps qs h t ih=>
  rw[Sv,Sv];refine .cons ?_ ih;obtain⟨a,c⟩:=h;by_cases e:p.1=k
  ·rw[Zj e,Zj (a.symm.trans e)];exact⟨a,b⟩
  ·rw[Zk e,Zk (λz=>e (a.trans z))];exact⟨a,c⟩
theorem KV.put {kvs:List (κ×V)}{vs:List (κ×Vy)} (r:KV kvs vs) (k:κ) {y:V}{u:Vy} (a:RelV y u):KV (putK kvs k y) (stored vs k u):=by
 unfold putK stored;rw[r.any k];by_cases e:(vs.any λb=>decide (b.1=k))=true
 ·rw[Zj e,Zj e];exact r.Kw k a
 ·rw[Zk e,Zk e];exact Paired.snoc r ⟨rfl,a⟩
theorem KV.length {kvs:List (κ×V)}{vs:List (κ×Vy)} (r:KV kvs vs):kvs.length=vs.length:=Paired.length r
end
theorem Af {P:Z9}{w:Za}{k:Key}{u:Vy} (r:RelV (kV k) u):(aX P w).is k u=true:=by
 cases k with
 | inl i=>obtain⟨t,e⟩:=(show∃t,u=Value.int i t from r);subst e;exact zg P w i t
 | inr x=>obtain⟨t,e⟩:=(show∃t,u=Value.str x t from r);subst e;exact iL P w x t
theorem vm {P:Z9}{w:Za}:∀{ks:List Key}{us:List Vy},aR (ks.map kV) us->ItemsAre (aX P w) ks us
 | [],_,r=>by rw[Tw]at r;cases r;exact .nil
 | k::ks,_,r=>by
  rw[Sv]at r;cases r with
  | cons h t=>exact .cons (Af h) (vm t)
abbrev KT (H:Hp):List (List Key×V)->List (List Key×Z6×Vy)->Prop:=Paired λp q=>p.1=q.1/\H q.2.1=some (.tup (p.1.map kV))/\RelV p.2 q.2.2
theorem KT.val {H:Hp}{kvs:List (List Key×V)}{xs:List (List Key×Z6×Vy)} (r:KT H kvs xs) (k:List Key):jm (eY kvs k) ((atKey xs k).map (·.2)):=by
 induction r with
 | nil=>exact True.intro
 | @cons p q ps qs h t ih=>
  obtain⟨c,_,d⟩:=h;by_cases e:p.1=k
  ·have a:q.1=k:=c.symm.trans e;have b:atKey (q::qs) k=some q.2:=by simp[atKey,Tg,a]
   rw[js e,b];exact d
  ·have a:¬ q.1=k:=λz=>e (c.trans z);have b:atKey (q::qs) k=atKey qs k:=by simp[atKey,Tg,a]
   rw[pF e,b];exact ih
theorem KT.Kw {H:Hp}{kvs:List (List Key×V)}{xs:List (List Key×Z6×Vy)} (r:KT H kvs xs) (k:List Key) {y:V}{u:Vy} (d:RelV y u) :
  KT H (kvs.map λkv=>if kv.1=k then(kv.1,y)else kv) (xs.map (putAt k u)):=by
 induction r with
 | nil=>exact .nil
 | @cons p q ps qs h t ih=>
  rw[Sv,Sv];refine .cons ?_ ih;obtain⟨a,b,c⟩:=h;unfold putAt;by_cases e:p.1=k
  ·rw[Zj e,Zj (a.symm.trans e)];exact⟨a,b,d⟩
  ·rw[Zk e,Zk (λz=>e (a.trans z))];exact⟨a,b,c⟩
theorem KT.put {H:Hp}{kvs:List (List Key×V)}{xs:List (List Key×Z6×Vy)} (r:KT H kvs xs) (k:List Key) {b:Z6}{y:V}{u:Vy} (d:H b=some (.tup (k.map kV))) (a:RelV y u) :
  KT H (putK kvs k y) (storedH xs k b u):=by
 have e:(kvs.any λc=>decide (c.1=k))=(atKey xs k).isSome:=by
  rw[zJ,(r.val k).DF,Option.isSome_map]
 unfold putK storedH;rw[e];by_cases q:(atKey xs k).isSome=true
 ·rw[Zj q,Zj q];exact r.Kw k a
 ·rw[Zk q,Zk q];exact Paired.snoc r ⟨rfl,d,a⟩
theorem KT.keeps {H H':Hp}{kvs:List (List Key×V)}{xs:List (List Key×Z6×Vy)} (r:KT H kvs xs) (a:∀b ys,H b=some (.tup ys)->H' b=some (.tup ys)):KT H' kvs xs:=
 Paired.Lk r λ_ _ z=>⟨z.1,a _ _ z.2.1,z.2.2⟩
section
variable {P:Z9}{w:Za}{H:Hp}{h:Heap}{a:Z6}
theorem Kn {u:HO} (ok:HOk P w H h) (e:Rd H a u):bW P w H h a u:=e.ok ok
theorem tL {kvs:List (Key×V)} (ok:HOk P w H h) (e:Rd H a (.dK kvs)):kvs.length<=Zc/\(a == sysModules)=false/\∃vs,KV kvs vs/\h.DictOf (aX P w) a vs:=
 show bW P w H h a (.dK kvs)from Kn ok e
theorem Kh {kvs:List (Key×V)} (ok:HOk P w H h) (e:H a=some (.dK kvs)):kvs.length<=Zc/\(a == sysModules)=false/\∃vs,KV kvs vs/\h.DictOf (aX P w) a vs:=tL ok (.inl e)
theorem yk {ks:List Key} (d:HOk P w H h) (e:H a=some (.tup (ks.map kV))):(tupleKind (aX P w)).is h ks a:=by
 obtain⟨_,b,r,o,f,g,n,c⟩:=(show bW P w H h a (.tup (ks.map kV))from d a _ e);exact⟨o,b.toArray,n,f,g,c,by simpa using vm r⟩
theorem zX {kvs:List (List Key×V)} (d:HOk P w H h) (e:Rd H a (.dT kvs)):kvs.length<=Zc/\(a == sysModules)=false /\
  ∃xs,KT H kvs xs/\h.DictOfH (tupleKind (aX P w)) a xs:=by
 obtain⟨z,y,xs,r,o,s,g,i,n,f,k,j⟩:=(show bW P w H h a (.dT kvs)from Kn d e);refine⟨z,y,xs,r,o,s,g,i,n,f,k,λx b=>?_,j⟩;have c:∀{l:List (List Key×V)}{m:List (List Key×Z6×Vy)},KT H l m->∀x∈m,(tupleKind (aX P w)).is h x.1 x.2.1:=by
  intro l m q
  induction q with
  | nil=>intro x b;exact nomatch b
  | @cons p q ps qs hq t ih=>
   intro x b;rcases Su.mp b with e | b
   ·subst e;exact yk d (by rw[<-hq.1];exact hq.2.1)
   ·exact ih x b
 exact c r x b
theorem Ot {kvs:List (List Key×V)} (ok:HOk P w H h) (e:H a=some (.dT kvs)):kvs.length<=Zc/\(a == sysModules)=false /\
  ∃xs,KT H kvs xs/\h.DictOfH (tupleKind (aX P w)) a xs:=zX ok (.inl e)
end
def x9 (H:Hp) (a:Z6) (y:V) (r:Option V):Prop:=
 (∃kvs k,Rd H a (.dK kvs)/\y=kV k/\r=eY kvs k)\/∃kvs k b,Rd H a (.dT kvs)/\y = .ref b/\H b=some (.tup (k.map kV))/\r=eY kvs k
def G8 (H:Hp) (a:Z6) (y v:V) (H':Hp):Prop:=
 (∃kvs k,H a=some (.dK kvs)/\y=kV k/\kvs.length<Zc/\H' = upd H a (.dK (putK kvs k v))) \/
 ∃kvs k b,H a=some (.dT kvs)/\y = .ref b/\H b=some (.tup (k.map kV))/\kvs.length<Zc/\H' = upd H a (.dT (putK kvs k v))
theorem x9.k {H:Hp}{a:Z6}{kvs:List (Key×V)}{k:Key} (e:H a=some (.dK kvs)):x9 H a (kV k) (eY kvs k):=.inl ⟨kvs,k,.inl e,rfl,rfl⟩
theorem G8.k {H:Hp}{a:Z6}{kvs:List (Key×V)}{k:Key}{v:V} (e:H a=some (.dK kvs)) (hl:kvs.length<Zc):G8 H a (kV k) v (upd H a (.dK (putK kvs k v))):=.inl ⟨kvs,k,e,rfl,hl,rfl⟩
section
variable {X:Cx}{pins:List (Z6×Obj)}{σ:St}{H:Hp}{s:Vx}{a:Z6}{y v:V}{u r:Vy}{o:Option V}{A:Z8}{E:Vy->Vx->Prop}
theorem Inv.big (I:Inv X pins σ H s):sysModules<s.heap.objs.size:=by
 have h:mainGlobals<s.heap.objs.size:=(I.mod.glob.keeps I.bk).lt;exact Ua (by decide) h
theorem DB {Q:Vy->Vx->Prop} (x:A.units+1<cLine) (I:Inv X pins σ H s) (g:x9 H a y (some v)) (q:RelV y u) (h:∀w' s',Inv X pins σ H s'->RelV v w'->Q w' s') :
  Zd (model X.prog X.w) A (getItem (.ref a) u) Q E s:=by
 rcases g with⟨n,k,e,f,l⟩ | ⟨n,k,b,e,f,t,l⟩
 ·subst f;obtain⟨z,r,B,d,j⟩:=tL I.hok e;obtain⟨w',i,c⟩:=jm.some_of (v:=v) (o:=valueAt B k) (by rw[l];exact d.val k);exact wpAny_getItem_of (Af q) j.mapOf i (h w' _ (I.tok _) c)
 ·subst f;cases(show u=Value.ref b from q);obtain⟨z,r,D,d,j⟩:=zX I.hok e;obtain⟨w',i,c⟩:=jm.some_of (v:=v) (o:=(atKey D k).map (·.2)) (by rw[l];exact d.val k)
  obtain⟨p,C,m⟩:=Option.map_eq_some_iff.mp i;refine wpAny_getItem_heap (tupleKind_room_in1 x) (yk I.hok t) j C ?_;rw[m];exact h w' _ (I.tok _) c
theorem xC {h':Heap}{t':Nat}{c:HO} (I:Inv X pins σ H s) (mu:Mut (H a)) (f:YE a s.heap h') (g:∃q,h'.get? a=some q) (d:bW X.prog X.w (upd H a c) h' a c) :
  Inv X pins σ (upd H a c) { s with heap:=h',toks:=t' }:=
 I.write (x:=a) (e:=a) mu (.inl rfl) (λb q h z=>(f.2 b h).trans z) g d
theorem GB {P:Z9}{w:Za}{H':Hp}{h':Heap}{kvs:List (Key×V)}{vs:List (Key×Vy)} (z:kvs.length<=Zc) (c:(a == sysModules)=false) (b:KV kvs vs) (d:h'.DictOf (aX P w) a vs) :
  bW P w H' h' a (.dK kvs):=⟨z,c,vs,b,d⟩
theorem Dh {H':Hp}{Q:Unit->Vx->Prop} (M:A.units+1<cLine) (I:Inv X pins σ H s) (g:G8 H a y v H') (G:RelV y u) (C:RelV v r) (h:∀s',Inv X pins σ H' s'->Q () s') :
  Zd (model X.prog X.w) A (setItem (.ref a) u r) Q E s:=by
 rcases g with⟨d,k,e,m,l,x⟩ | ⟨d,k,b,e,m,B,l,x⟩
 ·subst m x;obtain⟨z,j,R,f,o⟩:=Kh I.hok e;have n:R.length<=Zc:=by rw[<-f.length];exact z
  have t:(putK d k v).length<=Zc:=by have:=lK d k v;lia
  refine wpAny_setItem_pairs (hsz:=n) (Af G) o λD i p=>h _ ?_;have L:∃q,D.get? a=some q:=let ⟨q,_,_,hq,_⟩:=i;⟨q,hq⟩;exact xC I (by rw[e];exact True.intro) p L (GB t j (f.put k C) i)
 ·subst m x;cases(show u=Value.ref b from G);obtain⟨z,j,S,f,o⟩:=Ot I.hok e;have n:S.length<=Zc:=by rw[<-Paired.length f];exact z
  have t:(putK d k v).length<=Zc:=by have:=lK d k v;lia
  refine wpAny_setItem_heap (hsz:=n) (tupleKind_room_in1 M) (yk I.hok B) o λD i p=>h _ ?_;obtain⟨q,T,K,hq,P,J,O,_,N⟩:=i;refine xC I (by rw[e];exact True.intro) p ⟨q,hq⟩ ⟨t,j,_,(f.put k B C).keeps λc _ F=>?_,q,T,K,hq,P,J,O,N⟩;rw[aq (NH F e (λz=>nomatch z))]
  exact F
end
section
variable {X:Cx}{pins:List (Z6×Obj)}{σ:St}{H:Hp}{s:Vx}{a:Z6}{kvs:List (Key×V)}{k:Key}{u:Vy}{A:Z8}{E:Vy->Vx->Prop}
end
def NP (i:Expr):Prop:=∀ov iv,subscripted i false ov iv=operate [ov,iv] (getItem ov iv)
theorem Jn {prog:Z9}{w:Za}{A:Z8}{E:Vy->Vx->Prop}{s:Vx}{env:Env}{value a:Expr}{pos:Pos}{T id:String}{Q:Vy->Vx->Prop}
  (j:typeLookup (.type T) "__getitem__" = pure (some (.builtin id))) (g:NP a)
  (h:Zd (model prog w) A (eval value env) (λo s₁=>Zd (model prog w) A (eval a env) (λi s₂=>s₂.TypeIs o T/\Zd (model prog w) A (getItem o i) Q E s₂) E s₁) E s) :
  Zd (model prog w) A (eval (.Subscript value a pos) env) Q E s:=by
 refine Subscript_ (Vt h (λo s₁ e=>Vt e (λi s₂ b=>?_) λ_ _ x=>x) λ_ _ x=>x);obtain⟨hT,b⟩:=b;unfold subscriptTail;refine Vw ?_;rw[getitemInPython_of_ne hT.not_modules];refine Vw (wpAny_specialOf hT j ?_);have d:Zd (model prog w) A (subscripted a false o i) (λr c=>Zd (model prog w) A (letTemporaryGo value o r >>= λ_=>pure r) Q E c) E s₂:=by
  rw[g o i];exact wpAny_operating (Vt b (λr c f=>Vw (wpAny_letTemporaryGo (Vv f))) λ_ _ x=>x)
 first
  | exact Vv (Vw d)
  | exact Vw (Vv (Vw d))
  | exact Vw d
theorem yJ {X:Cx}{pins:List (Z6×Obj)}{σ:St}{H:Hp}{s:Vx}{a:Z6}{y:V}{o:Option V} (I:Inv X pins σ H s) (g:x9 H a y o):s.TypeIs (.ref a) "dict" :=by
 rcases g with⟨c,k,e,_,_⟩ | ⟨c,k,b,e,_,_,_⟩
 ·obtain⟨_,_,_,_,d⟩:=tL I.hok e;exact d.typeIs
 ·obtain⟨_,_,_,_,d⟩:=zX I.hok e;exact d.typeIs
def Oo (td ty:TE):TE:=λσ H Q=>td σ H λx H1=>ty σ H1 λy H2=>∃a v,x = .ref a/\x9 H2 a y (some v)/\Q v H2
def NY (td ty tv:TE):TS:=λD σ H=>tv σ H λv H1=>td σ H1 λx H2=>ty σ H2 λy H3=>∃a H4,x = .ref a/\G8 H3 a y v H4/\D.nx σ H4
section
variable {X:Cx}{o i e value:Expr}{pos pos' FR:Pos}{td ty tv:TE}
theorem Iy (j:X.A.units+1<cLine) (p:PE X o td) (hi:PE X i ty) (n:NP i):PE X (.Subscript o i pos) (Oo td ty):=by
 intro b s d H Q I h;refine Jn PySem.F.slot_dict_getitem.lookup n (thn (p b s d H _ I h) λu z ⟨x,m,l,f,t⟩=>thn (hi b z d m _ l t) λ_ _ ⟨y,k,e,q,a,v,w,g,B⟩=>?_);subst w;obtain rfl:u=Value.ref a:=f;exact⟨yJ e g,DB j e g q λ_ _ r c=>⟨v,k,r,c,B⟩⟩
theorem Iu (j:X.A.units+1<cLine) (w:PE X o td) (hi:PE X i ty) (q:PE X value tv) (t:swapsWith value (some (.Subscript o i pos')) pos.line X.env=pure false) :
  PS X (.Assign [.Subscript o i pos'] value pos) (NY td ty tv):=by
 intro b s c H D I h;refine wpAny_Assign_Subscript (thn (q b s c H _ I h) λr G ⟨v,p,m,n,E⟩=>thn (w b G c p _ m E) λu e ⟨x,l,K,f,J⟩=>thn (hi b e c l _ K J) λ_ _ ⟨y,_,C,B,a,z,F,g,d⟩=>?_) t;subst F;obtain rfl:u=Value.ref a:=f;exact Dh j C g B n λ_ k=>⟨c,z,k,d⟩
end
theorem Ft {P:Z9}{w:Za}{H:Hp} (h:Heap) (a:sysModules<h.objs.size):bW P w H (h.push { cls:=.type "dict",data:=.dict #[] }) h.objs.size (.dK []):=
 ⟨Sy _,beq_eq_false_iff_ne.mpr (YQ (SD a)),[],.nil,Heap.DictOf.new h⟩
def KS:TE:=λ_ H Q=>∀p,H p=none->Q (.ref p) (upd H p (.dK []))
section
variable {X:Cx}{pos:Pos}
theorem zc:PE X (.Dict [] [] pos) KS:=λ_ s _ H Q I h=>
 wpAny_Dict_empty ⟨.ref s.heap.objs.size,_,I.laid (a:=s.heap.objs.size) (o:=.dK []) (t':=s.toks) (λ_ _ q=>Vu _ q) (Sb _) (Ft s.heap I.big),rfl,h _ (I.hok.fresh (Sb _))⟩
end
structure M1 (X:Cx) (o:Expr) (m:Str) (apos:Pos) (e:Expr) (dC:Pos):Prop where
 base:attributeBase o m X.env (eval o X.env)=eval o X.env
 few:((backTo dC (Ze [e] X.env)).all (λx=>!x.1) && (backToKw dC (keywordEach [] X.env)).all (λx=>x.1.isSome)
  && decide (([e]:List Expr).length+([]:List Keyword).length+(if ([]:List Keyword).isEmpty then 0 else 1)<30))=true
 line:(apos.endLine == dC.line)=true
 GQ:backTo dC (Ze [e] X.env)=[(false,eval e X.env)]
structure M2 (X:Cx) (o:Expr) (m:Str) (apos:Pos) (e f:Expr) (dC:Pos):Prop where
 base:attributeBase o m X.env (eval o X.env)=eval o X.env
 few:((backTo dC (Ze [e,f] X.env)).all (λx=>!x.1) && (backToKw dC (keywordEach [] X.env)).all (λx=>x.1.isSome)
  && decide (([e,f]:List Expr).length+([]:List Keyword).length+(if ([]:List Keyword).isEmpty then 0 else 1)<30))=true
 line:(apos.endLine == dC.line)=true
 GQ:backTo dC (Ze [e,f] X.env)=[(false,eval e X.env),(false,eval f X.env)]
def IsD (H:Hp) (a:Z6):Prop:=(∃kvs,Rd H a (.dK kvs))\/∃kvs,Rd H a (.dT kvs)
theorem Bz {X:Cx}{pins:List (Z6×Obj)}{σ:St}{H:Hp}{s:Vx}{a:Z6} (I:Inv X pins σ H s) (d:IsD H a) :
  s.TypeIs (.ref a) "dict" /\ (∀b,Value.ref a = .ref b->∃ob,s.heap.get? b=some ob/\ob.dict=none)/\(a == sysModules)=false:=by
 rcases d with⟨f,e⟩ | ⟨f,e⟩
 ·obtain⟨_,g,_,_,c⟩:=tL I.hok e;refine⟨c.typeIs,λb q=>?_,g⟩;cases q;obtain⟨ob,_,_,h,i,_⟩:=c;exact⟨ob,h,i.2.1⟩
 ·obtain⟨_,g,_,_,c⟩:=zX I.hok e;refine⟨c.typeIs,λb q=>?_,g⟩;cases q;obtain⟨ob,_,_,h,i,_⟩:=c;exact⟨ob,h,i.2.1⟩
section
variable {X:Cx}{pins:List (Z6×Obj)}{σ:St}{H:Hp}{s:Vx}{a:Z6}{y d:V}{u r:Vy}{o:Option V}{A:Z8}{E:Vy->Vx->Prop}
theorem LX {Q:Vy->Vx->Prop} (v:A.units+1<cLine) (I:Inv X pins σ H s) (g:x9 H a y o) (n:RelV y u) (p:RelV d r) (h:∀w' s',Inv X pins σ H s'->RelV (o.getD d) w'->Q w' s') :
  Zd (model X.prog X.w) A (call (.builtin "dict.get") [.ref a,u,r]) Q E s:=by
 rcases g with⟨j,k,e,m,l⟩ | ⟨j,k,b,e,m,t,l⟩
 ·subst m;obtain⟨z,i,_,c,f⟩:=tL I.hok e;refine call_meetsIn PySem.F.slot_dict_get f.typeIs PySem.F.entry_dict_get (PySem.F.args_dict_get_3 _ _ _) (meets_dict_get_default (aX X.prog X.w) a (Af n) i r) ⟨_,f.mapOf,h _ _ (I.tok _) ?_⟩;rw[l];exact(c.val k).getD p
 ·subst m;cases(show u=Value.ref b from n);obtain⟨z,i,q,c,f⟩:=zX I.hok e;refine call_meetsIn PySem.F.slot_dict_get f.typeIs PySem.F.entry_dict_get (PySem.F.args_dict_get_3 _ _ _) (meetsH_dict_get_default (tupleKind (aX X.prog X.w)) a b i r) ⟨tupleKind_room_in1 v,k,q,yk I.hok t,f,h _ _ (I.tok _) ?_⟩;rw[l];exact(c.val k).getD p
end
def KC (td ty tx:TE):TE:=λσ H Q=>td σ H λx H1=>∃a,x = .ref a/\IsD H1 a/\ty σ H1 λy H2=>tx σ H2 λz H3=>∃o,x9 H3 a y o/\Q (o.getD z) H3
section
variable {X:Cx}{o e f:Expr}{apos dC:Pos}{td ty tx:TE}
theorem FQ (q:X.A.units+1<cLine) (D:PE X o td) (n:PE X e ty) (w:PE X f tx) (m:M2 X o "get" apos e f dC):PE X (.Call (.Attribute o "get" apos) [e,f] [] dC) (KC td ty tx):=by
 intro b s c H Q I h;refine wpAny_Call_method m.base m.few m.line PySem.F.plainAttrs_dict PySem.F.slot_dict_get PySem.F.type_dict_get (thn (D b s c H _ I h) λu N ⟨x,B,j,p,a,K,d,J⟩=>?_);subst K;obtain rfl:u=Value.ref a:=p;obtain⟨M,L,_⟩:=Bz j d;refine⟨M,L,?_⟩;rw[m.GQ];refine Calls.callWith_builtin rfl (Calls.evalArgs_plain (YC (thn (n b N c B _ j J) λ_ l ⟨y,t,P,E,O⟩=>
  YC (thn (w b l c t _ P O) λ_ _ ⟨z,C,G,v,_,g,k⟩=>YT ?_))))
 exact LX q G g E v λ_ _ r i=>⟨_,C,r,i,k⟩
end
section
variable {X:Cx}{pins:List (Z6×Obj)}{σ:St}{H:Hp}{s:Vx}{a:Z6}{kvs:List (Key×V)}{A:Z8}{E:Vy->Vx->Prop}
end
section
variable {X:Cx}{pins:List (Z6×Obj)}{σ:St}{H:Hp}{s:Vx}{a:Z6}{y:V}{u:Vy}{A:Z8}{E:Vy->Vx->Prop}
end
def gJ (cells:List (Str×Z6)):List (Str×NameKind)->List (Str×Z6)->List (Str×Z6)
 | [],acc=>acc
 | (n,k)::r,acc=>gJ cells r (if (k == NameKind.free)=true then(match cells.lookup n with | some c=>(n,c)::acc | none=>acc)else acc)
theorem gO {env:Env}:∀(names:List (Str×NameKind)) (acc:List (Str×Z6)),(∀y∈names,y.2 = .free->∃c,env.cells.lookup y.1=some c) ->
  (forIn (m:=Sem) names acc λ(x:Str×NameKind) r=>(match x with | (name,kind)=>if (kind == NameKind.free)=true then(do let a <-cellOf env name;pure (ForInStep.yield ((name,a)::r)))else pure (ForInStep.yield r)))=pure (gJ env.cells names acc)
 | [],acc,_=>rfl
 | (n,k)::r,acc,h=>by
  rw[Uk];unfold gJ;by_cases d:(k == NameKind.free)=true
  ·obtain⟨c,e⟩:=h (n,k) Sk (by simpa using d);simp only[d,if_true];have g:cellOf env n=pure c:=by unfold cellOf;rw[show env.cells.lookup n=some c from e]
   rw[g,show env.cells.lookup n=some c from e];simp only[pure_bind];exact gO r _ λy b=>h y (Sf _ b)
  ·have f:(k == NameKind.free)=false:=by simpa using d
   simp only[f,SQ,if_false,pure_bind];exact gO r _ λy b=>h y (Sf _ b)
theorem sO {env:Env}{scope:Scope} (h:∀y∈scope.names,y.2 = .free->∃c,env.cells.lookup y.1=some c):closureFor scope env=pure (gJ env.cells scope.names []):=by
 have e:=gO (env:=env) scope.names [] h;unfold closureFor;simp only[bind_pure];exact e
theorem pE {a:List (Str×Z6)}{x:Str}{c:Z6}:∀(names:List (Str×NameKind)) (acc:List (Str×Z6)),(∀y d,acc.lookup y=some d->a.lookup y=some d)->(gJ a names acc).lookup x=some c->a.lookup x=some c
 | [],acc,ha,h=>ha _ _ h
 | (n,k)::r,acc,ha,h=>by
  unfold gJ at h;refine pE r _ (λy d b=>?_) h
  split at b
  ·split at b
   ·rename_i c' e';rw[Th]at b;cases hb:y == n with
    | true=>rw[hb]at b;cases b;rw[beq_iff_eq.mp hb];exact e'
    | false=>rw[hb]at b;exact ha _ _ b
   ·exact ha _ _ b
  ·exact ha _ _ b
theorem jB {x n:Str}{c:Z6}{acc:List (Str×Z6)} (h:∃d,acc.lookup x=some d):∃d,((n,c)::acc).lookup x=some d:=by
 rw[Th];cases x == n with
 | true=>exact⟨_,rfl⟩
 | false=>exact h
theorem oG {a:List (Str×Z6)}{x:Str}:∀(names:List (Str×NameKind)) (acc:List (Str×Z6)),((∃d,acc.lookup x=some d)\/((x,NameKind.free)∈names/\∃d,a.lookup x=some d))->∃d,(gJ a names acc).lookup x=some d
 | [],acc,h=>by
  rcases h with h | ⟨h,_⟩
  ·exact h
  ·cases h
 | (n,k)::r,acc,h=>by
  unfold gJ;refine oG r _ ?_;rcases h with h | ⟨h,d,b⟩
  ·refine .inl ?_
   split
   ·split
    ·exact jB h
    ·exact h
   ·exact h
  ·rcases Su.mp h with e | h
   ·cases e;refine .inl ?_;rw[Zj (by decide),b];exact⟨d,by rw[Th];simp⟩
   ·exact .inr ⟨h,d,b⟩
theorem c6:∀(names:List (Str×NameKind)) (n:Nat) (acc:List (Str×Z6)),cellsFrom n names acc=cellsFrom n names []++acc
 | [],n,acc=>rfl
 | (x,k)::r,n,acc=>by
  unfold cellsFrom
  split
  ·rw[c6 r _ ((x,n)::acc),c6 r _ [(x,n)]];simp
  ·exact c6 r n acc
theorem nY {x:Str}{c:Z6}:∀{l l':List (Str×Z6)},(l++l').lookup x=some c->l.lookup x=some c\/l'.lookup x=some c
 | [],_,h=>.inr h
 | (n,d)::r,l',h=>by
  rw[UQ,Th]at h;rw[Th];cases hb:x == n with
  | true=>rw[hb]at h;exact .inl h
  | false=>rw[hb]at h;exact nY h
theorem bH {x:Str}:∀(names:List (Str×NameKind)) (n:Nat) (acc:List (Str×Z6)),((∃d,acc.lookup x=some d)\/(x,NameKind.cell)∈names)->∃d,(cellsFrom n names acc).lookup x=some d
 | [],n,acc,h=>by
  rcases h with h | h
  ·exact h
  ·cases h
 | (y,k)::r,n,acc,h=>
  by
  unfold cellsFrom;rcases h with h | h
  ·split
   ·exact bH r _ _ (.inl (jB h))
   ·exact bH r _ _ (.inl h)
  ·rcases Su.mp h with e | h
   ·cases e;rw[Zj (by decide)];exact bH r _ _ (.inl ⟨n,by rw[Th];simp⟩)
   ·split
    ·exact bH r _ _ (.inr h)
    ·exact bH r _ _ (.inr h)
def IS (scope:Scope) (C:Z6) (env:Env):Env:=
 { scope:=relabel scope env,locals:=C,globals:=env.globals,cells:=cellsFrom (C+1) scope.names (gJ env.cells scope.names []),qual:=env.qual,func:=none,code:=env.code,frame:=env.frame,builtins:=env.builtins }
theorem qF {scope:Scope}{env:Env}{x:Str}{k:NameKind} (h:(relabel scope env).names.lookup x=some k):∃k',(x,k')∈scope.names/\(k' = k\/(k' = .free/\k = .cell/\env.kindOf x=some .cell)):=by
 have b:=Si.mp (mem_of_lookup h);obtain⟨⟨n,q⟩,a,e⟩:=b;dsimp only at e
 split at e
 ·rename_i hc;injection e with e1 e2;subst e1;refine⟨q,a,.inr ?_⟩;simp only[S4,beq_iff_eq]at hc;exact⟨hc.1.1,e2.symm,hc.2⟩
 ·injection e with e1 e2;subst e1;exact⟨q,a,.inl e2⟩
def fG (X:Cx) (scope:Scope) (N':List Str) (s:Vx) (H:Hp) (fp:List Z6):Cx where
 prog:=X.prog
 w:=X.w
 K:=X.K
 mg:=X.mg
 base:=X.base
 A:=X.A
 N:=N'
 s₀:=s
 H₀:=H
 env:=IS scope s.heap.objs.size X.env
 outer:=X.stack
 stack:=X.stack
 ex:=fp
 calm:=X.calm
 fn:=λx=>decide ((x,NameKind.cell)∈scope.names/\(x,NameKind.free)∉scope.names)
 pn:=[]
 xe:=λ_ _=>False
def sub (n:Nat) (fi:List Nat) (σ:St):St:=List.replicate n none++fi.map λk=>(σ[k]?).join
theorem sub_len (n:Nat) (fi:List Nat) (σ:St):(sub n fi σ).length=n+fi.length:=by simp[sub]
structure k6 (X:Cx) (scope:Scope) (N':List Str) (n:Nat) (fi:List Nat):Prop where
 kind:scope.kind = .function
 names:∀y∈scope.names,y.2 = .local->scope.names.lookup y.1=some .local
 free:∀y∈scope.names,y.2 = .free->X.env.kindOf y.1=some .cell\/X.env.kindOf y.1=some .free
 len:N'.length=n+fi.length
 at':∀(j:Nat) (k:Nat),fi[j]? = some k->∃x,N'[n+j]? = some x/\X.N[k]? = some x/\scope.names.lookup x=some .free/\(x,NameKind.cell)∉scope.names
theorem IL {M:Model}{A:Z8}{E:Vy->Vx->Prop}{s:Vx}{scope:Scope}{globals:Z6}{j:List (Str×Z6)}{qual:Str}{env:Env}{Q:Env->Vx->Prop}
  (h:∀h',h'.Ns s.heap.objs.size (λ_=>none)->(∀b o,s.heap.get? b=some o->h'.get? b=some o)->CellsOk h' (s.heap.objs.size+1) (cellsFrom (s.heap.objs.size+1) scope.names []) ->
   Q { scope,locals:=s.heap.objs.size,globals,cells:=cellsFrom (s.heap.objs.size+1) scope.names j,qual,func:=none,code:=env.code,frame:=env.frame,builtins:=env.builtins } { s with heap:=h' }) :
  Zd M A (newFunctionEnv scope globals j [] qual none .none (some env)) Q E s:=by
 have a:(s.heap.push { cls:=.type "dict",data:=.dict #[] }).objs.size=s.heap.objs.size+1:=YX ..;have c:∀b o,s.heap.get? b=some o->(s.heap.push { cls:=.type "dict",data:=.dict #[] }).get? b=some o:=λb o e=>Vu _ e;have d:=Heap.Ns.new s.heap (.type "dict");simp only[newFunctionEnv,if_true,Option.isSome_some];refine Vw (wpAny_alloc ?_);generalize s.heap.push { cls:=.type "dict",data:=.dict #[] }=h1 at a c d;have k:CellsOk h1 (s.heap.objs.size+1) []:=⟨(λ_ _ z=>by cases z),List.Pairwise.nil⟩;have g:=cellsFrom_ok scope.names h1 _ [] k (UT a.symm);have f:=pushCells_keeps scope.names h1;rw[a]at g;refine Vw (wpAny_layCells _ (λ_ i _=>?_) scope.names j { s with heap:=h1 } _ (Vw (Vv (Vv ?_))))
 ·cases e:i == NameKind.cell <;> simp[e]
 ·show Q { scope,locals:=s.heap.objs.size,globals,cells:=cellsFrom h1.objs.size scope.names j,qual,func:=none,code:=env.code,frame:=env.frame,builtins:=env.builtins } _;rw[a];exact h _ (d.keeps f) (λb o e=>f b o (c b o e)) g
section
variable {X:Cx}{pins:List (Z6×Obj)}{σ:St}{H:Hp}{s:Vx}{scope:Scope}{N':List Str}{n:Nat}{fi:List Nat}{fp:List Z6}{h':Heap}
theorem k6.Kl (S:k6 X scope N' n fi) (ok:X.Ok):∀y∈scope.names,y.2 = .free->∃c,X.env.cells.lookup y.1=some c:=λy hy hk=>ok.has _ (S.free y hy hk)
theorem ju {C:Z6}{x:Str}{c:Z6} (h:(IS scope C X.env).cells.lookup x=some c):(cellsFrom (C+1) scope.names []).lookup x=some c\/X.env.cells.lookup x=some c:=by
 have a:(cellsFrom (C+1) scope.names (gJ X.env.cells scope.names [])).lookup x=some c:=h;rw[c6]at a;rcases nY a with z | z
 ·exact .inl z
 ·exact .inr (pE _ _ (λ_ _ q=>by cases q) z)
theorem cellsFrom_names {x:Str}{c:Z6}:∀(names:List (Str×NameKind)) (k:Nat) (acc:List (Str×Z6)),(x,c)∈cellsFrom k names acc->(x,NameKind.cell)∈names\/(x,c)∈acc
 | [],_,_,h=>.inr h
 | (y,q)::r,k,acc,h=>by
  unfold cellsFrom at h
  split at h
  ·rename_i hq;have a:q = .cell:=by simpa using hq
   subst a;rcases cellsFrom_names r _ _ h with z | z
   ·exact .inl (Sf _ z)
   ·rcases Su.mp z with e | z
    ·cases e;exact .inl Sk
    ·exact .inr z
  ·rcases cellsFrom_names r _ _ h with z | z
   ·exact .inl (Sf _ z)
   ·exact .inr z
theorem Ex (I:Inv X pins σ H s) (S:k6 X scope N' n fi) (J:∀b∈fp,b6 X pins H b) (ho:∀b∈fp,∃o,s.heap.get? b=some o)
  (Q:h'.Ns s.heap.objs.size (λ_=>none)) (w:∀b o,s.heap.get? b=some o->h'.get? b=some o) (hc:CellsOk h' (s.heap.objs.size+1) (cellsFrom (s.heap.objs.size+1) scope.names [])) :
  Inv (fG X scope N' s H fp) [] (sub n fi σ) H { s with heap:=h' }:=by
 have D:∀{b:Z6}{o:Obj},s.heap.get? b=some o->b<s.heap.objs.size:=λe=>Y3 e;have C6:∀{x:Str}{c:Z6},X.env.cells.lookup x=some c->c<s.heap.objs.size:=λ{x c} e=>by
  obtain⟨v,q⟩:=I.cell x c e;exact q.lt
 have A:∀{x:Str}{c:Z6},(cellsFrom (s.heap.objs.size+1) scope.names []).lookup x=some c->h'.IsCell c none/\s.heap.objs.size+1<=c:=λ{x c} e=>hc.empty x c (Yq e);refine⟨⟨I.ok.mod,S.kind,I.ok.glob,I.ok.blt,Sb _,λx y c j f=>?_,λx C=>?_,λx c C h=>?_,I.ok.hd,I.ok.frames,.inl rfl,λb a=>?_,λb o e=>?_,?_,λb o e a=>?_,λb a hz=>?_,I.stack,I.CC⟩,
  rfl,I.bare,Un.kept w,⟨_,Q,λi x v j f N=>?_⟩,λx c h=>?_,I.hok.fresh (Sb _),λx c h=>?_,λp hp=>absurd (show p∈([]:List (Z6×Obj))from hp) (by simp),I.hok.kept w,?_⟩
 ·rcases ju j with z1 | z1 <;> rcases ju f with z2 | z2
  ·exact name_of_addr hc.apart (Yq z1) (Yq z2)
  ·exact absurd (Ua (C6 z2) (A z1).2) (Tf _)
  ·exact absurd (Ua (C6 z1) (A z2).2) (Tf _)
  ·exact I.ok.inj x y c z1 z2
 ·have C:(relabel scope X.env).names.lookup x=some .cell\/(relabel scope X.env).names.lookup x=some .free:=C;have go:∀k,(relabel scope X.env).names.lookup x=some k->(k = .cell\/k = .free)->∃c,(cellsFrom (s.heap.objs.size+1) scope.names (gJ X.env.cells scope.names [])).lookup x=some c:=λk e w=>by
   obtain⟨G,t,V⟩:=qF e;have:G = .cell\/G = .free:=by
    rcases V with z | z
    ·rw[z];exact w
    ·exact .inr z.1
   rcases this with z | z
   ·exact bH _ _ _ (.inr (z ▸ t))
   ·exact bH _ _ _ (.inl (oG _ _ (.inr ⟨z ▸ t,S.Kl I.ok (x,G) t z⟩)))
  rcases C with z | z
  ·exact go _ z (.inl rfl)
  ·exact go _ z (.inr rfl)
 ·have hx':(x,NameKind.cell)∈scope.names/\(x,NameKind.free)∉scope.names:=Zi C;have j:(cellsFrom (s.heap.objs.size+1) scope.names (gJ X.env.cells scope.names [])).lookup x=some c:=h;rw[c6]at j;obtain⟨d,B⟩:=bH (x:=x) scope.names (s.heap.objs.size+1) [] (.inr hx'.1);have L:(cellsFrom (s.heap.objs.size+1) scope.names []++gJ X.env.cells scope.names []).lookup x=some d:=by
   have T:∀(l K:List (Str×Z6)),l.lookup x=some d->(l++K).lookup x=some d:=by
    intro l
    induction l with
    | nil=>intro K q;cases q
    | cons p r Y=>
     obtain⟨n,q⟩:=p;intro K e;rw[UQ,Th];rw[Th]at e;cases a:x == n with
     | true=>rw[a]at e;exact e
     | false=>rw[a]at e;exact Y K e
   exact T _ _ B
  rw[j]at L;cases L;exact TF (A B).2
 ·refine⟨?_,λx c e z=>?_⟩
  ·obtain⟨o,e⟩:=ho b a;exact SD (D e)
  ·obtain⟨o,eo⟩:=ho b a;rcases ju e with q | q
   ·have j:=(A q).2;have f:=D eo;rw[z]at j;exact Tf _ (Ua f j)
   ·exact(J b a).2.2.2.2.1 x c q z
 ·exact I.bs b o e
 ·exact Sl I.ok.bsz I.sz
 ·rcases(J b a).2.2.2.1 with z | z
  ·exact I.ok.Gr b o e z
  ·exact absurd (SN (Y3 (I.ok.bs b o e).1) z) (Tf _)
 ·rcases Su.mp (I.AU b hz)with z | z
  ·exact(J b a).2.1 z
  ·exact(J b a).2.2.1 z
 ·have hi:n<=i:=by
   by_cases hi:n<=i
   ·exact hi
   ·unfold sub at f;rw[SW (by simp;lia),UP]at f
    split at f <;> cases f
  have g:(fi.map λk=>(σ[k]?).join)[i - n]? = some (some v):=by
   unfold sub at f;rw[S1 (by simpa using hi)]at f;simpa using f
  rw[Se]at g;cases ek:fi[i - n]? with
  | none=>rw[ek]at g;cases g
  | some k=>
   rw[ek]at g;have M:(σ[k]?).join=some v:=Ye g;have W:σ[k]? = some (some v):=by
    cases q:σ[k]? with
    | none=>rw[q]at M;cases M
    | some _=>rw[q]at M;exact congrArg some M
   obtain⟨x',e1,L,m,e4⟩:=S.at' (i - n) k ek;have P:N'[i]? = some x':=by rw[<-e1];congr 1;lia
   have F:N'[i]? = some x:=j;rw[P]at F;cases F;have t:(x,NameKind.free)∈scope.names:=by
    generalize scope.names=l at m
    induction l with
    | nil=>cases m
    | cons p r Y=>
     obtain⟨n',q⟩:=p;rw[Th]at m;cases a:x == n' with
     | true=>rw[a]at m;cases m;rw[beq_iff_eq.mp a];exact Sk
     | false=>rw[a]at m;exact Sf _ (Y m)
   have kx:=S.free _ t rfl;have U:Vis X.env.scope x:=kx.elim (λz=>.inr (.inl z)) λz=>.inr (.inr z);obtain⟨_,_,O⟩:=I.loc;obtain⟨u,ru,T⟩:=O k x v L W U;refine⟨u,ru,.inr ⟨?_,?_⟩⟩
   ·have N:Vis (relabel scope X.env) x:=N;rcases N with z | z | z
    ·obtain⟨G,R,Z⟩:=qF z;rcases Z with q | q
     ·exfalso;have:=S.names (x,G) R (by rw[q]);rw[show scope.names.lookup x=some .free from m]at this;cases this
     ·cases q.2.1
    ·exact .inl z
    ·exact .inr z
   ·rcases T with⟨kl,_⟩ | ⟨_,c,ec,uX⟩
    ·rcases kx with z | z <;> (rw[show X.env.kindOf x=_ from kl]at z;cases z)
    ·refine⟨c,?_,uX.keeps w⟩;show(cellsFrom (s.heap.objs.size+1) scope.names (gJ X.env.cells scope.names [])).lookup x=some c;obtain⟨d,B⟩:=bH (x:=x) scope.names (s.heap.objs.size+1) (gJ X.env.cells scope.names []) (.inl (oG _ _ (.inr ⟨t,c,ec⟩)));rw[B];have E:=B;rw[c6]at E;rcases nY E with z | z
     ·rcases cellsFrom_names _ _ _ (Yq z)with q | q
      ·exact absurd q e4
      ·cases q
     ·have:=pE _ _ (λ_ _ q=>by cases q) z;rw[ec]at this;exact this.symm
 ·rcases ju h with z | z
  ·exact⟨none,(A z).1⟩
  ·obtain⟨v,q⟩:=I.cell x c z;exact⟨v,q.keeps w⟩
 ·rcases ju h with z | z
  ·exact I.hok.fresh (TF (A z).2)
  ·exact I.kG x c z
 ·show(sub n fi σ).length=N'.length;rw[sub_len,S.len]
end
def De (X:Cx) (ifs:List Expr) (t:TT):Prop:=
 ∀(pins:List (Z6×Obj)) (s:Vx) (σ:St) (H:Hp) (Q:Bool->Hp->Prop),Inv X pins σ H s->t σ H Q ->
  Zd (model X.prog X.w) X.A (forIn ifs true λc r=>if r=true then do let ok <-isTrue c X.env (eval c X.env);pure (ForInStep.yield ok)else pure (ForInStep.yield r)) (TP X pins σ Q) X.xe s
def KR:TT:=λ_ H Q=>Q true H
theorem aL {X:Cx}:De X [] KR:=λ_ _ _ H _ I h=>wpAny_tests_nil ⟨H,I,h⟩
theorem eC {X:Cx}{c:Expr}{t:TT} (h:PT X c t):De X [c] t:=λpins s σ H Q I q=>wpAny_tests_one (h pins s σ H Q I q)
def pJ (g:TG) (tt:TT) (te:TE) (J:It) (D:Z6) (Q:VK) (σ:St) (H:Hp):Prop:=
 ∃W:Nat->Nat->St->Hp->Prop,(∃m,W 0 m σ H)/\∀i m σ H,W i m σ H ->
  (J.stop i H/\Q (.ref D) H)\/(J.go i H/\∃N:St->Hp->Prop,(∀σ' H',N σ' H'->∃m',m' < m/\W (i+1) m' σ' H') /\
   ∀x H',J.yld i H x H'->g x σ H' λσ2 H2=>tt σ2 H2 λb H3=>if b=true then te σ2 H3 λv H4=>∃xs,H4 D=some (.lst xs)/\xs.length<Zc/\N σ2 (upd H4 D (.lst (xs++[v])))else N σ2 H3)
def Av (wi:TI) (g:TG) (tt:TT) (te:TE) (n:Nat) (fi:List Nat):TE:=λσ H Q=>
 wi σ H λJ H1=>∀D,H1 D=none->pJ g tt te J D Q (sub n fi σ) (upd H1 D (.lst []))
section
variable {X:Cx}{elt tg iter:Expr}{ifs:List Expr}{scope:Scope}{pos:Pos}
theorem Em {Y:Cx}{g:TG}{tt:TT}{te:TE}{J:It}{D it:Z6}{fp:List Z6}{F:Nat->Heap->Prop}{Z:VK}{σ:St}{H:Hp}{s:Vx} (hc:Y.calm=true) (f:∀e s,¬ Y.xe e s)
  (hg:PG Y tg g) (hi:De Y ifs tt) (he:PE Y elt te) (T:Turn Y.prog Y.w Y.K tg J fp it F) (I:Inv Y [] σ H s) (st:F 0 s.heap) (hf:∀b∈fp,b6 Y [] H b) (hw:pJ g tt te J D Z σ H) :
  codeAny (model Y.prog Y.w) Y.A (.compLoop (.ListComp elt [⟨tg,iter,ifs,0⟩] scope pos) 0 (.ref it) (.ref D) Y.env) (λr s'=>r = .ok .next/\∃σ' H',Inv Y [] σ' H' s'/\Z (.ref D) H') s:=by
 obtain⟨W,⟨m0,w0⟩,B⟩:=hw;have G:∀{H':Hp},(∀b∈fp,H' b=none)->∀b∈fp,b6 Y [] H' b:=λhn b h=>⟨hn b h,(hf b h).2⟩;refine codeAny_loop rfl (λn s'=>∃i σ' H',Inv Y [] σ' H' s'/\F i s'.heap/\(∀b∈fp,H' b=none)/\W i n σ' H') ?_ m0 ⟨0,σ,H,I,st,λb h=>(hf b h).1,w0⟩;rintro n L ⟨i,a,E,S,v,t,w3⟩;show Zd _ Y.A ((compTurn (.ListComp elt [⟨tg,iter,ifs,0⟩] scope pos) 0 (.ref it) (.ref D) Y.env).onRaise (λx=>do noteFrame x Y.env;theTreesLotGoes x)) _ _ L;refine wpAny_noted ?_;rw[compTurn_list]
 (refine Vw (wpAny_standAt (Vw ?_)))
 rcases B i n a E w3 with⟨y,qn⟩ | ⟨go,N,hN,C⟩
 ·refine thn (T.done Y rfl rfl rfl hc i [] L a E _ S (G t) v y) λr s4 ⟨M,I4⟩=>?_;subst M;exact Vv ⟨rfl,a,E,I4,qn⟩
 ·refine thn (T.item Y rfl rfl rfl hc i [] L a E _ S (G t) v go) λr s4 ⟨u,M,h4⟩=>?_;subst M;refine Vw (thn h4 λ_ Q ⟨x,H5,I5,r5,y5,l,P⟩=>?_);have O:=I5.pinned (G P) (T.obj _ _ l);have U:∀{c:St}{k:Hp}{q:Vx},Inv Y ([]++rR fp Q.heap) c k q->N c k->∃m,m<n/\∃i σ' H',Inv Y [] σ' H' q/\F i q.heap/\(∀b∈fp,H' b=none)/\W i m σ' H':=λ{c k q} p n7=>by
   obtain⟨m',hm,w7⟩:=hN c k n7;refine⟨m',hm,i+1,c,k,p.il,T.keep _ _ _ l λb h o e=>(p.pin (b,o) (SO _ (SO _ (j6 h e)))).1,λb h=>?_,w7⟩;obtain⟨o,e,d⟩:=T.obj _ _ l b h;exact(p.pin (b,o) (SO _ (SO _ (j6 h e)))).2.1
  refine Vw (Vt (hg _ Q a H5 x u _ O r5 (C x H5 y5)) (λ_ s6 ⟨j,H6,I6,q6⟩=>?_) λe s' z=>(f e s' z).elim);refine Vw (Vt (hi _ s6 j H6 _ I6 q6) (λok q ⟨k,p,V⟩=>?_) λe s' z=>(f e s' z).elim);cases ok with
  | false=>
   exact Vv ⟨rfl,U p V⟩
  | true=>
   refine Vw (Vw (Vt (he _ q j k _ p V) (λu8 s8 ⟨R,H8,I8,r8,xs,e8,z8,n8⟩=>?_) λe s' z=>(f e s' z).elim));refine Vw (Vt (cJ (X:=Y) _ s8 j H8 (.ref D) [R] (.ref D) [u8] (λ_ H9=>N j H9) I8 rfl (.cons r8 .nil) ⟨D,xs,R,rfl,rfl,e8,z8,n8⟩) (λ_ _ h9=>?_) λe s' z=>(f e s' z).elim);obtain⟨_,H9,I9,_,n9⟩:=h9;exact Vv (Vv ⟨rfl,U I9 n9⟩)
theorem Inv.letGo {pins:List (Z6×Obj)}{σ:St}{H:Hp}{s:Vx}{C:Z6}{h':Heap} (I:Inv X pins σ H s) (a:YE C s.heap h') (g:H C=none) (f:X.s₀.heap.objs.size<=C) (hL:C≠X.env.locals)
  (h2:∀x c,X.env.cells.lookup x=some c->c≠C) (d:∀p∈X.pn++pins,p.1≠C):Inv X pins σ H { s with heap:=h' }:=
 I.turned (t':=s.toks) (λb o h e=>a.extBut b o h e) g hL (.inr f) h2 d
theorem vg {N':List Str}{n:Nat}{fi:List Nat}{wi:TI}{g:TG}{tt:TT}{te:TE}{use:Option (Vy->Sem Unit)}{Q:Vy->Vx->Prop}{Qr:VK}{Pe:Pos}{pins:List (Z6×Obj)}{σ:St}{H:Hp}{s:Vx}
  (zN:X.calm=true) (S:k6 X scope N' n fi) (N:∀R,wi σ H R->Zd (model X.prog X.w) X.A (eval iter X.env) (λv s1=>Zd (model X.prog X.w) X.A (pyIter v) (PIE X pins σ tg R) X.xe s1) X.xe s)
  (hg:∀s H fp,PG (fG X scope N' s H fp) tg g) (hi:∀s H fp,De (fG X scope N' s H fp) ifs tt) (he:∀s H fp,PE (fG X scope N' s H fp) elt te)
  (I:Inv X pins σ H s) (hw:Av wi g tt te n fi σ H Qr) (hs:∀x,foldedSetIterable iter X.env x=pure x)
  (t:∀(D C:Z6) (s':Vx) (H':Hp) (m:Str->Option Vy),Inv X pins σ H' s'->s'.heap.Ns C m->H' C=none->X.s₀.heap.objs.size<=C->C≠X.env.locals->(∀x c,X.env.cells.lookup x=some c->c≠C)->(∀p∈X.pn++pins,p.1≠C)->Qr (.ref D) H' ->
   compPost (model X.prog X.w) X.A X.xe use Q (.ref D) C (.ok .next) s') :
  Zd (model X.prog X.w) X.A (comprehension (.ListComp elt [⟨tg,iter,ifs,0⟩] scope pos) scope X.env Pe (newList []) false (eval iter X.env) use) Q X.xe s:=by
 refine wpAny_comprehension_free (use:=use) (g:=⟨tg,iter,ifs,0⟩) (gs:=[]) rfl hs (sO (S.Kl I.ok)) S.kind S.names ?_;refine thn (N _ hw) λv s1 h1=>thn h1 λ_ s2 h2=>?_;obtain⟨it,fp,tn,J,d,e,W,T,l,h,M⟩:=h2;subst e;refine wpAny_newList ?_ (Sy _);have Z:d s2.heap.objs.size=none:=W.hok.fresh (Sb _);have j:Inv X pins σ (upd d s2.heap.objs.size (.lst [])) { s2 with heap:=s2.heap.push { cls:=.type "list",data:=.seq ([]:List Vy).toArray } }:=
  W.laid (t':=s2.toks) (λb u e=>Vu _ e) (Sb _) ⟨Sy _,[],0,.nil,Y2 _ rfl⟩
 have U:=M _ Z;have k:Un (frs X.stack) fp d (upd d s2.heap.objs.size (.lst [])) s2.heap (s2.heap.push { cls:=.type "list",data:=.seq ([]:List Vy).toArray }):=
  Un.laid (λb u e=>Vu _ e) (Sb _) Z
 generalize hs3:({ s2 with heap:=s2.heap.push { cls:=.type "list",data:=.seq ([]:List Vy).toArray } }:Vx)=s3 at j ⊢;have f:s3.heap=s2.heap.push { cls:=.type "list",data:=.seq ([]:List Vy).toArray }:=by rw[<-hs3]
 have P:s3.os=s2.os:=by rw[<-hs3]
 have a0:s3.heap.objs.size=s2.heap.objs.size+1:=by rw[f,YX]
 rw[<-f]at k;have K:∀b,b≠s2.heap.objs.size->upd d s2.heap.objs.size (.lst []) b=d b:=λb a=>aq a;generalize upd d s2.heap.objs.size (.lst [])=H3 at *;have Ka:∀b∈fp,∃o,s2.heap.get? b=some o:=λb a=>let ⟨o,e,_⟩:=T.obj _ _ l b a;⟨o,e⟩;have y:∀b u,s2.heap.get? b=some u->s3.heap.get? b=some u:=λb u e=>by rw[f];exact Vu _ e
 have NR:∀b∈fp,b6 X pins H3 b:=λb a=>by
  obtain⟨o,e⟩:=Ka b a;exact⟨(K b (SD (Y3 e))).trans (h b a).1,(h b a).2⟩
 refine IL λh4 O hk hc=>?_;show codeAny _ _ (.compStart _ 0 _ _ (IS scope s3.heap.objs.size X.env)) _ _;have G:=Ex j S NR (λb a=>let ⟨o,e⟩:=Ka b a;⟨o,y b o e⟩) O hk hc;have L:∀b∈fp,b6 (fG X scope N' s3 H3 fp) [] H3 b:=λb a=>⟨(NR b a).1,(G.ok.exf b a).1,G.ok.Hn b a,.inl a,(G.ok.exf b a).2,λp V=>absurd (show p∈([]:List (Z6×Obj))from V) (by simp)⟩;have E:tn 0 h4:=T.keep _ _ _ l λb a o e=>hk b o (y b o e);have B:=Em (Y:=fG X scope N' s3 H3 fp) (elt:=elt) (tg:=tg) (iter:=iter) (ifs:=ifs) (scope:=scope) (pos:=pos) zN (λ_ _ z=>z) (hg s3 H3 fp) (hi s3 H3 fp) (he s3 H3 fp) T G E L U;have F:codeAny (model X.prog X.w) X.A (.compLoop (.ListComp elt [⟨tg,iter,ifs,0⟩] scope pos) 0 (.ref it) (.ref s2.heap.objs.size) (IS scope s3.heap.objs.size X.env)) (compPost (model X.prog X.w) X.A X.xe use Q (.ref s2.heap.objs.size) s3.heap.objs.size) { s3 with heap:=h4 }:=by
  refine codeAny_mono B λr s' ⟨hr,_,H',i,q5⟩=>?_;subst hr;have u5:Un (frs X.stack) fp H3 H' s3.heap s'.heap:=i.base;have I5:Inv X pins σ H' s':=W.N7 (ch:=fp) (i.os.trans P) (k.trans u5) i.hok i.bare λb a=>⟨(h b a).2.2.2.1,(h b a).2.1,(h b a).2.2.2.2.1,(h b a).2.2.2.2.2⟩;obtain⟨m,hm,_⟩:=i.loc;refine t _ _ s' H' m I5 hm i.free j.sz (T9 j.lt) (λx c e=>?_) (λp V=>?_) q5
  ·obtain⟨v,q⟩:=j.cell x c e;exact SD q.lt
  ·exact SD (Y3 (j.pin p V).1)
 exact codeAny_compStart_list F (T.self _ 0 _ _ _ E F)
theorem aU {N':List Str}{n:Nat}{fi:List Nat}{wi:TI}{g:TG}{tt:TT}{te:TE} (p:X.calm=true) (S:k6 X scope N' n fi) (b:PI X tg iter wi)
  (j:∀s H fp,PG (fG X scope N' s H fp) tg g) (hi:∀s H fp,De (fG X scope N' s H fp) ifs tt) (k:∀s H fp,PE (fG X scope N' s H fp) elt te)
  (r:∀x,foldedSetIterable iter X.env x=pure x:=by intro _;rfl):PE X (.ListComp elt [⟨tg,iter,ifs,0⟩] scope pos) (Av wi g tt te n fi):=by
 intro a s t H Q I h;rw[eval_ListComp];refine vg (use:=none) p S (λR z=>b a s t H R I z) j hi k I h r λD C _ d m e i u l hL o f q=>⟨m,i,λ_ c=>?_⟩;exact⟨.ref D,d,e.letGo c u l hL o f,rfl,q⟩
theorem hJ {N':List Str}{n i:Nat}{fi:List Nat}{wi:TI}{g:TG}{tt:TT}{te:TE}{x:Str}{pos' o:Pos} (P:X.N.Nodup) (j:X.N[i]? = some x) (hx:Loc X.env.scope x) (J:X.calm=true) (S:k6 X scope N' n fi) (e:PI X tg iter wi)
  (B:∀s H fp,PG (fG X scope N' s H fp) tg g) (hi:∀s H fp,De (fG X scope N' s H fp) ifs tt) (E:∀s H fp,PE (fG X scope N' s H fp) elt te)
  (f:swapsWith (.ListComp elt [⟨tg,iter,ifs,0⟩] scope pos) (some (.Name x pos')) o.line X.env=pure true:=by rfl)
  (K:∀x,foldedSetIterable iter X.env x=pure x:=by intro _;rfl) (G:X.fn x=true\/X.env.scope.names.lookup x=some .local:=by first | exact .inl rfl | exact .inr rfl | assumption) :
  PS X (.Assign [.Name x pos'] (.ListComp elt [⟨tg,iter,ifs,0⟩] scope pos) o) (Lz (Av wi g tt te n fi) (aN i)):=by
 intro b s L H D I h
 (rw[exec_Assign_Name_used _ _ _ _ f])
 (refine Vw (wpAny_standAt (Vw ?_)))
 show Zd _ X.A (do let _ <-comprehension (.ListComp elt [⟨tg,iter,ifs,0⟩] scope pos) scope X.env _ (newList []) false (eval iter X.env) (some (assign (.Name x pos') X.env))) _ _ s;refine Vw (thn (vg (use:=some (assign (.Name x pos') X.env)) (Q:=λ_ c=>SP X b D .next c) J S (λR z=>e b s L H R I z) B hi E I h K λp C c t m u y O F hL r w q=>?_) λ_ c q=>Vv (Vv q));show Zd _ _ (assign (.Name x pos') X.env (.ref p)) _ _ c;refine wpAny_assign_Name (uY (v:=.ref p) u P j hx rfl (λ_ T ⟨a,d,M⟩=>?_) G);have k:C≠a:=by
  rcases M with z | z
  ·rw[z];exact hL
  ·exact(r x a z).symm
 exact⟨m,y.sameBut d k,λ_ l=>⟨_,t,T.letGo l O F hL r w,q⟩⟩
end
section
variable {X:Cx}
theorem Inv.du {pins:List (Z6×Obj)}{σ:St}{H:Hp}{s:Vx}{h':Heap}{t':Nat}{wr:List Z6} (I:Inv X pins σ H s) (d:∀b∈wr,b6 X pins H b) (k:∀b o,b∉wr->s.heap.get? b=some o->h'.get? b=some o) :
  Inv X pins σ H { s with heap:=h',toks:=t' }:=by
 have f:∀b u,H b=some u->b∉wr:=λb u e z=>by rw[(d b z).1]at e;cases e
 refine I.step (g':=s.gens) (d':=s.drawn) (ch:=wr) (λb g=>⟨(d b g).2.2.2.1,(d b g).2.1,(d b g).2.2.2.2.1,(d b g).2.2.2.2.2⟩) (λb o _ _ a e _=>k b o a e) (λb o _ _ a e _=>⟨o.slots,k b o a e⟩) (λ_ _ _ _ n=>n)
  (λb o a e=>⟨o,k b o a e⟩) (λ_ _ e=>e) (λ_ _ _ e=>e) (λb _ e=>⟨#[],by rw[e];simp⟩) (λm i=>?_) (λb u e=>?_) I.bare
 ·obtain⟨o,l,h,j,r⟩:=i;exact⟨o,l,h,k _ o (λz=>(d _ z).2.1 rfl) j,r⟩
 ·refine(I.hok b u e).wK (λc v a q=>k c v ?_ q) (λ_ q=>q) λ_ _ q=>q;rcases a with z | z
  ·rw[z];exact f b u e
  ·exact f c _ z
theorem Inv.mz {pins:List (Z6×Obj)}{σ:St}{H:Hp}{s:Vx}{h':Heap}{t':Nat}{wr:List Z6}{a:Z6}{o:HO} (I:Inv X pins σ H s) (h:∀b∈wr,b6 X pins H b) (k:∀b o,b∉wr->s.heap.get? b=some o->h'.get? b=some o)
  (l:s.heap.objs.size<=a) (j:bW X.prog X.w (upd H a o) h' a o):Inv X pins σ (upd H a o) { s with heap:=h',toks:=t' }:=by
 have i:∀b u,H b=some u->b∉wr:=λb u e z=>by rw[(h b z).1]at e;cases e
 have d:H a=none:=I.hok.fresh l;refine I.step (g':=s.gens) (d':=s.drawn) (ch:=wr) (λb f=>⟨(h b f).2.2.2.1,(h b f).2.1,(h b f).2.2.2.2.1,(h b f).2.2.2.2.2⟩) (λb o _ _ g e _=>k b o g e) (λb o _ _ g e _=>⟨o.slots,k b o g e⟩)
  (λb y _ e n=>by rw[aq (SD (SN (Y3 e) l))];exact n)
  (λb o g e=>⟨o,k b o g e⟩) (λb A e=>by rw[aq (aw e d)];exact e) (λb y u e=>by rw[aq (aw e d)];exact e) (λb _ e=>⟨#[],by rw[aq (aw e d),e];simp⟩) (λm t=>?_) (λb u e=>?_) I.bare
 ·obtain⟨o,B,p,x,r⟩:=t;exact⟨o,B,p,k _ o (λz=>(h _ z).2.1 rfl) x,r⟩
 ·by_cases f:b=a
  ·subst f;rw[ab]at e;cases e;exact j
  ·rw[aq f]at e;refine(I.hok b u e).wK (λc v g q=>k c v ?_ q) (λc q=>by rw[aq (aw q d)];exact q) λc A q=>by rw[aq (aw q d)];exact q
   rcases g with z | z
   ·rw[z];exact i b u e
   ·exact i c _ z
def Its (z:Str):It:=⟨λi _=>i<z.length,λi H x H'=>H' = H/\∃c,z.cps[i]? = some c/\x = .str ⟨#[c]⟩,λi _=>z.length<=i⟩
theorem zP {P:Z9}{w:Za}{K:Vz}{tg:Expr}{ty:String} (it:Z6) (z:Str) (t:Tok)
  (D:∀A:Z8,A.handled=none->Walks P w A it [it] [it] z.cps.size (SignAt z) (λi h=>h.IsStrIter it ty z t i))
  (B:["enumerate","zip","dict_itemiterator","dict_reverseitemiterator","odict_iterator","itertools.zip_longest","itertools.pairwise"].contains ty=false)
  (N:∀(A:Z8) (i:Nat) (s:Vx) (Q:Vy->Vx->Prop) (E:Vy->Vx->Prop),s.heap.IsStrIter it ty z t i->Q (.ref it) s->Zd (model P w) A (pyIter (.ref it)) Q E s) :
  Turn P w K tg (Its z) [it] it (λi h=>i<=z.length/\h.IsStrIter it ty z t i) where
 mem:=by simp
 obj:=λi h a b x=>by
  have e:b=it:=by simpa using x
  subst e;obtain⟨_,o,e,c,d⟩:=a;exact⟨o,e,λv z=>by rw[d]at z;cases z⟩
 keep:=λi h m a k=>by
  obtain⟨F,o,e,c,d⟩:=a;exact⟨F,o,k it (by simp) o e,c,d⟩
 item:=by
  intro X r p hK y i f s C H E I l a j;subst r p hK;refine(D X.A (I.ok.hd y)).item i s _ _ j a.2 λv m n L g q=>?_;obtain⟨c,u,M,rfl⟩:=L;have G:Inv X f C H { s with heap:=m,toks:=n }:=I.du l q;obtain⟨o,e,J,d⟩:=id g;exact⟨_,rfl,CQ (s:={ s with heap:=m,toks:=n }) e J d B ⟨.str ⟨#[c]⟩,H,G,⟨u,rfl⟩,⟨rfl,c,M,rfl⟩,⟨j,g⟩,λb x=>(l b x).1⟩⟩
 done:=by
  intro X r p hK y i f s C H E I l a j;subst r p hK;have e:i=z.cps.size:=Nat.le_antisymm a.1 j;subst e;exact(D X.A (I.ok.hd y)).done s _ _ a.2 λm n q=>⟨rfl,I.du l q⟩
 self:=λA i s Q E a h=>N A i s Q E a.2 h
def LZ (tl:TE):TI:=λσ H R=>tl σ H λx H1=>∃z,x = .str z/\R (Its z) H1
theorem Gh {tg:Expr}{z:Str}{t:Tok}{pins:List (Z6×Obj)}{s:Vx}{σ:St}{H:Hp}{R:It->Hp->Prop} (I:Inv X pins σ H s) (q:R (Its z) H):Zd (model X.prog X.w) X.A (pyIter (.str z t)) (PIE X pins σ tg R) X.xe s:=by
 have c:∀b∈[s.heap.objs.size],b6 X pins H b:=λb d=>by
  have e:b=s.heap.objs.size:=by simpa using d
  subst e;exact I.o8 (Sb _) (I.hok.fresh (Sb _))
 cases ha:z.cps.all (· < 128)with
 | false=>
  refine wpAny_pyIter_wide ha ?_;exact⟨s.heap.objs.size,[s.heap.objs.size],_,_,H,rfl,I.kept (t':=s.toks) λb o e=>Vu _ e,zP (ty:= "str_iterator") _ z t (λA hA=>Walks.strWide hA _ z t) (by decide) (λA i s Q E a h=>wpAny_pyIter_striter_wide a h),
   ⟨Sy _,_,Y2 _ rfl,rfl,rfl⟩,c,q⟩
 | true=>
  refine wpAny_pyIter_ascii ha ?_;exact⟨s.heap.objs.size,[s.heap.objs.size],_,_,H,rfl,I.kept (t':=s.toks) λb o e=>Vu _ e,zP (ty:= "str_ascii_iterator") _ z t (λA hA=>Walks.strAscii hA _ z t) (by decide) (λA i s Q E a h=>wpAny_pyIter_striter_ascii a h),
   ⟨Sy _,_,Y2 _ rfl,rfl,rfl⟩,c,q⟩
theorem GS {tg l:Expr}{tl:TE} (hl:PE X l tl):PI X tg l (LZ tl):=by
 intro pins s σ H R I h;refine thn (hl pins s σ H _ I h) λv s1 ⟨x,H1,I1,r1,z,e,q⟩=>?_;subst e;obtain⟨t,rfl⟩:=r1;exact Gh I1 q
def Ite (K:Vz) (a:Z6):It:=
 ⟨λi H=>∃xs x,SqL K H a xs/\xs[i]? = some x,λi H x H'=>∃p v,H p=none/\(∀xs,SqL K H a xs->xs[i]? = some v)/\x = .ref p/\H' = upd H p (.tup [.int i,v]),λi H=>∃xs,SqL K H a xs/\xs.length<=i⟩
theorem Dm {P:Z9}{w:Za}{K:Vz}{Bm:List Expr}{k:Nat}{pos:Pos} (a it e:Z6) (r:e≠it):Turn P w K (.Tuple Bm k pos) (Ite K a) [e,it] e (λi h=>(∃old,IsEnum h e it i old)/\h.IsListIter it a i) where
 mem:=by simp
 obj:=λi h l b j=>by
  obtain⟨⟨old,f⟩,o,t,c,d⟩:=l;rcases Su.mp j with z | z
  ·subst z;exact⟨_,f,λv z=>by cases z⟩
  ·have z':b=it:=by simpa using z
   subst z';exact⟨o,t,λv z=>by rw[d]at z;cases z⟩
 keep:=λi h h' l A=>by
  obtain⟨⟨old,f⟩,o,t,c,d⟩:=l;exact⟨⟨old,A e (by simp) _ f⟩,o,A it (by simp) o t,c,d⟩
 item:=by
  intro X O J hK hc i m s Z H E I B l F;subst O J hK;obtain⟨xs,x,C,L⟩:=F;obtain⟨U,M,p,hz⟩:=I.list C;obtain⟨u,hu,ru⟩:=M.get L;obtain⟨⟨old,f⟩,g⟩:=l;refine wpAny_pyNext_enum_item f g p.isList (x:=u) (by simpa using hu) r λ_ ho yL ht _ A=>?_;refine⟨_,rfl,?_⟩;refine wpAny_letOwnedTupleGo_enum ho λY Q N=>?_;have y:∀{b:Z6}{o:Obj},s.heap.get? b=some o->b<s.heap.objs.size:=λe=>Y3 e;have q:e<s.heap.objs.size:=y f;have P9:=g;obtain⟨_,D,_⟩:=P9;have S:it<s.heap.objs.size:=y D;have V:H s.heap.objs.size=none:=I.hok.fresh (Sb _);have R:Y.get? s.heap.objs.size=some { cls:=.type "tuple",data:=.seq #[.int i s.toks,u] }:=(N.2 _ (T9 q)).trans ht;have I2:Inv X m Z (upd H s.heap.objs.size (.tup [.int i,x])) { s with heap:=Y,toks:=s.toks+1 }:=I.mz (wr:=[e,it]) B (λb o j G=>by
    have n:b≠e:=λz=>j (by simp[z]);have W:b≠it:=λz=>j (by simp[z]);exact(N.2 b n).trans (A b o n W G)) (Sb _) ⟨by show 2<=Zc;decide,[.int i s.toks,u],.cons ⟨_,rfl⟩ (.cons ru .nil),⟨_,R,rfl,_,rfl⟩⟩
  refine⟨.ref s.heap.objs.size,_,I2,rfl,⟨_,x,V,λ_ hy=>by rw[I.n5 hy C];exact L,rfl,rfl⟩,⟨⟨_,by simpa using Q⟩,?_⟩,λb j=>?_⟩
  ·obtain⟨o,t,c,d⟩:=yL;exact⟨o,(N.2 it (YQ r)).trans t,c,d⟩
  ·have T:b≠s.heap.objs.size:=by
    rcases Su.mp j with z | z
    ·rw[z];exact SD q
    ·rw[show b=it by simpa using z];exact SD S
   rw[aq T];exact(B b j).1
 done:=by
  intro X O J hK hc i m s Z H E I B l F;subst O J hK;obtain⟨xs,C,L⟩:=F;obtain⟨U,M,p,hz⟩:=I.list C;have hl:=M.length;obtain⟨⟨old,f⟩,g⟩:=l;exact wpAny_pyNext_enum_end (I.ok.hd hc) f g p.isList (by simp;lia) λh' G=>⟨rfl,I.du (t':=s.toks) (wr:=[e,it]) B λb o j e'=>G b o (λz=>j (by simp[z])) e'⟩
 self:=λ_ _ _ _ _ l h=>by
  obtain⟨⟨old,f⟩,_⟩:=l;exact wpAny_pyIter_enum f h
def Mz (K:Vz) (ta:TA):TI:=λσ H R=>ta σ H λvs H1=>∃a,vs=[.ref a]/\(∃xs,SqL K H1 a xs)/\R (Ite K a) H1
theorem JF {w:List Expr}{k:Nat}{FR:Pos}{a:Expr}{ta:TA}{p pos:Pos} (m:Gl X "enumerate") (l:X.mg "enumerate" = none) (B:PA X [a] ta) (x:Ze [a] X.env=[(false,eval a X.env)]:=by rfl):PI X (.Tuple w k FR) (.Call (.Name "enumerate" p) [a] [] pos) (Mz X.K ta):=by
 intro d s y H R I h;refine Call_ (eN I m l boot_enumerate (Ym (thn (B pos d s y H _ I h) λ_ c ⟨_,v,g,D,C⟩=>?_) x rfl));obtain⟨a,e,⟨_,A⟩,q⟩:=C;subst e;cases D with
 | cons r n=>
  cases n;cases r;obtain⟨_,_,o,_⟩:=g.list A;refine call_enumerate_list o.isList λ_ j i _ t=>wpAny_pyIter_enum j ?_;refine⟨c.heap.objs.size+1,[c.heap.objs.size+1,c.heap.objs.size],_,_,v,rfl,g.kept (t':=c.toks) t,Dm a c.heap.objs.size (c.heap.objs.size+1) (Nat.succ_ne_self _),⟨⟨_,by simpa using j⟩,i⟩,λb u=>?_,q⟩;have f:c.heap.objs.size<=b:=by
   rcases Su.mp u with z | z
   ·rw[z];exact TB _
   ·rw[show b=c.heap.objs.size by simpa using z];exact Sb _
  exact g.o8 f (g.hok.fresh f)
end
mutual
inductive Den (K:Vz) (H:Hp):V->Zb->Prop
 | non:Den K H .non .none
 | bl (b:Bool):Den K H (.bl b) (.bool b)
 | int (i:Int):Den K H (.int i) (.int i)
 | str {x:Str} (h:Y1 x=true):Den K H (.str x) (.str x)
 | lst {a:Z6}{xs:List V}{ds:List Zb} (h:SqL K H a xs) (t:aE K H xs ds):Den K H (.ref a) (.list ds)
 | tup {a:Z6}{xs:List V}{ds:List Zb} (h:SqT K H a xs) (t:aE K H xs ds):Den K H (.ref a) (.tuple ds)
inductive aE (K:Vz) (H:Hp):List V->List Zb->Prop
 | nil:aE K H [] []
 | cons {x:V}{xs:List V}{d:Zb}{ds:List Zb} (h:Den K H x d) (t:aE K H xs ds):aE K H (x::xs) (d::ds)
end
section
variable {K:Vz}{H H':Hp}
theorem aE.length:∀{xs:List V}{ds:List Zb},aE K H xs ds->xs.length=ds.length
 | _,_,.nil=>rfl
 | _,_,.cons _ t=>by rw[SE,SE,t.length]
theorem aE.append:∀{xs ys:List V}{ds es:List Zb},aE K H xs ds->aE K H ys es->aE K H (xs++ys) (ds++es)
 | _,_,_,_,.nil,s=>s
 | _,_,_,_,.cons r t,s=>.cons r (t.append s)
theorem aE.get:∀{xs:List V}{ds:List Zb}{i:Nat}{x:V},aE K H xs ds->xs[i]? = some x->∃d,ds[i]? = some d/\Den K H x d
 | _,_,_,_,.nil,e=>by simp at e
 | _,_,0,_,.cons r _,e=>by simp at e;subst e;exact⟨_,rfl,r⟩
 | _,_,i+1,x,.cons _ t,e=>by
  obtain⟨u,b,a⟩:=aE.get (i:=i) (x:=x) t (by simpa using e);exact⟨u,by simpa using b,a⟩
theorem aE.getD:∀{xs:List V}{ds:List Zb}{i:Nat}{d:Zb},aE K H xs ds->ds[i]? = some d->∃x,xs[i]? = some x/\Den K H x d
 | _,_,_,_,.nil,e=>by simp at e
 | _,_,0,_,.cons r _,e=>by simp at e;subst e;exact⟨_,rfl,r⟩
 | _,_,i+1,x,.cons _ t,e=>by
  obtain⟨u,b,a⟩:=aE.getD (i:=i) t (by simpa using e);exact⟨u,by simpa using b,a⟩
mutual
theorem Den.keep (h1:∀a xs,SqL K H a xs->SqL K H' a xs) (h2:∀a xs,SqT K H a xs->SqT K H' a xs):∀{v:V}{d:Zb},Den K H v d->Den K H' v d
 | _,_,.non=>.non
 | _,_,.bl b=>.bl b
 | _,_,.int i=>.int i
 | _,_,.str h=>.str h
 | _,_,.lst h t=>.lst (h1 _ _ h) (aE.keep h1 h2 t)
 | _,_,.tup h t=>.tup (h2 _ _ h) (aE.keep h1 h2 t)
theorem aE.keep (h1:∀a xs,SqL K H a xs->SqL K H' a xs) (h2:∀a xs,SqT K H a xs->SqT K H' a xs):∀{v:List V}{d:List Zb},aE K H v d->aE K H' v d
 | _,_,.nil=>.nil
 | _,_,.cons r t=>.cons (Den.keep h1 h2 r) (aE.keep h1 h2 t)
end
theorem af.gL {a:Z6}{xs:List V} (e:af H H') (h:SqT K H a xs):SqT K H' a xs:=by
 rcases h with(h | ⟨o,h⟩) | h
 ·exact .inl (.inl (e _ _ h))
 ·exact .inl (.inr ⟨o,e _ _ h⟩)
 ·exact .inr h
theorem Den.same {v:V}{d:Zb} (e:af H H') (h:Den K H v d):Den K H' v d:=h.keep (λ_ _ q=>e.seq q) λ_ _ q=>e.gL q
theorem aE.same {v:List V}{d:List Zb} (e:af H H') (h:aE K H v d):aE K H' v d:=h.keep (λ_ _ q=>e.seq q) λ_ _ q=>e.gL q
mutual
theorem Den.lay:∀{v:V}{d:Zb},Den K H v d->d.canLay0=true
 | _,_,.non=>rfl
 | _,_,.bl b=>rfl
 | _,_,.int i=>rfl
 | _,_,.str h=>h
 | _,_,.lst h t=>aE.lay t
 | _,_,.tup h t=>aE.lay t
theorem aE.lay:∀{v:List V}{d:List Zb},aE K H v d->Y5 d=true
 | _,_,.nil=>rfl
 | _,_,.cons r t=>by rw[Y5,Den.lay r,aE.lay t];rfl
end
end
section
variable {X:Cx}{pins:List (Z6×Obj)}{σ:St}{H:Hp}{s:Vx}
mutual
theorem Inv.reads (I:Inv X pins σ H s):∀{v:V}{d:Zb}{u:Vy},Den X.K H v d->RelV v u->∃as,Reads s.heap u d as
 | _,_,_,.non,r=>by cases r;exact⟨_,.none⟩
 | _,_,_,.bl b,r=>by cases r;exact⟨_,.bool b⟩
 | _,_,_,.int i,r=>by obtain⟨t,rfl⟩:=r;exact⟨_,.int i t⟩
 | _,_,_,.str (x:=x) h,r=>by obtain⟨t,rfl⟩:=r;exact⟨_,.str x t⟩
 | _,_,_,.lst h t,r=>by
  cases r;obtain⟨a,g,⟨o,n,e,c,_,d⟩,_⟩:=I.list h;obtain⟨as,f⟩:=I.readsAll t g;exact⟨_,.list e c d (by simpa using f)⟩
 | _,_,_,.tup h t,r=>by
  cases r;obtain⟨a,g,⟨o,e,c,n,d⟩,_⟩:=I.tuple h;obtain⟨as,f⟩:=I.readsAll t g;exact⟨_,.tuple e c d (by simpa using f)⟩
theorem Inv.readsAll (I:Inv X pins σ H s):∀{vs:List V}{ds:List Zb}{us:List Vy},aE X.K H vs ds->aR vs us->∃as,ReadsAll s.heap us ds as
 | _,_,_,.nil,.nil=>⟨_,.nil⟩
 | _,_,_,.cons h t,.cons r rr=>by
  obtain⟨as,a⟩:=I.reads h r;obtain⟨_,b⟩:=I.readsAll t rr;exact⟨_,.cons a b⟩
end
def ye (K:Vz):R2:=λx y H Q=>∃d e,Den K H x d/\Den K H y e/\d.depth<=100/\Q (.bl (Yd d e)) H
def Oc (K:Vz):R2:=λx y H Q=>∃d e,Den K H x d/\Den K H y e/\d.depth<=100/\Q (.bl (!PyData.eqv d e)) H
theorem qK {k a b:Nat}{A:Z8} (hr:bI k A) (h:a<=100):A.units+min a b<cLine:=by
 have:=hr.un;have:min a b<=a:=Nat.min_le_left _ _;lia
theorem pW {k:Nat} (l:bI k X.A):OpR X (compareOp .Eq) (ye X.K):=by
 intro _ s _ H x y v u Q I f i h;obtain⟨d,e,a,b,j,q⟩:=h;obtain⟨_,g⟩:=I.reads a f;obtain⟨_,c⟩:=I.reads b i;exact SeqAt.compareEq_reads g c a.lay b.lay (qK l j) ⟨.bl _,H,I,rfl,q⟩
theorem L8 {k:Nat} (l:bI k X.A):OpR X (compareOp .NotEq) (Oc X.K):=by
 intro _ s _ H x y v u Q I f i h;obtain⟨d,e,a,b,j,q⟩:=h;obtain⟨_,g⟩:=I.reads a f;obtain⟨_,c⟩:=I.reads b i;exact SeqAt.compareNe_reads g c a.lay b.lay (qK l j) ⟨.bl _,H,I,rfl,q⟩
theorem mn:OpR X (compareOp .LtE) (λx y H Q=>∃i j,x = .str i/\y = .str j/\Q (.bl (!decide (j.cps.toList<i.cps.toList))) H):=by
 intro _ s _ H x y v u Q I b a h;obtain⟨i,j,rfl,rfl,q⟩:=h;obtain⟨t,rfl⟩:=b;obtain⟨_,rfl⟩:=a;exact PySem.P.le_str ⟨.bl _,H,I,rfl,q⟩
def Qa:V->Option Int->Option Int->Hp->VK->Prop:=λx lo hi H Q=>∃z,x = .str z/\z.length<=Zc/\Q (.str (YN z lo hi)) H
theorem Gn:SlR X Qa:=by
 intro b s r H x v _ _ p n _ Q I m d o f h;obtain⟨z,rfl,c,q⟩:=h;obtain⟨t,rfl⟩:=m;refine⟨"str",_,F.slot_str_getitem.lookup,typeIs_str _ _ _,?_⟩;have a:∀e k,EP X b r Q (.str (YN z p n) e) { s with toks:=k }:=λe k=>⟨.str _,H,I.tok _,⟨_,rfl⟩,q⟩;cases o with
 | none=>
  cases f with
  | none=>exact wpAny_getItem_str_slice (l:=none) (u:=none) (st:=none) d rfl (post_val_or_str ⟨Sl (Txt.slice_le z _ _) c,a⟩)
  | int j u=>exact wpAny_getItem_str_slice (l:=none) (u:=some (j,u)) (st:=none) d rfl (post_val_or_str ⟨Sl (Txt.slice_le z _ _) c,a⟩)
 | int i g=>
  cases f with
  | none=>exact wpAny_getItem_str_slice (l:=some (i,g)) (u:=none) (st:=none) d rfl (post_val_or_str ⟨Sl (Txt.slice_le z _ _) c,a⟩)
  | int j u=>exact wpAny_getItem_str_slice (l:=some (i,g)) (u:=some (j,u)) (st:=none) d rfl (post_val_or_str ⟨Sl (Txt.slice_le z _ _) c,a⟩)
theorem vC:∀(l:List (Str×Tok)),aR ((l.map (·.1)).map V.str) (strValues l)
 | []=>.nil
 | p::r=>.cons ⟨p.2,rfl⟩ (vC r)
def Ls:V->List V->Hp->VK->Prop:=λx vs H Q=>∃z y,x = .str z/\vs=[.str y]/\y.length≠0/\z.length+2<=Zc/\∀l,H l=none->Q (.ref l) (upd H l (.lst ((Y4 z y).map V.str)))
theorem split_len (z y:Str) (hz:z.length+2<=Zc):(Builtin.Str.partsBetween z (Builtin.Str.occurrences z y 0 z.length (z.length+1)) y.length).length<=Zc:=by
 have a:=StrLaws.occ_length_le z y 0 z.length (z.length+1)
 (rw[length_partsBetween];lia)
theorem uh:MtR X "str.split" Ls:=by
 intro a s i H x _ v _ Q I k n h;obtain⟨z,y,rfl,rfl,w,m,q⟩:=h;obtain⟨t,rfl⟩:=k;obtain⟨u,rfl,p⟩:=n.one;obtain⟨f,rfl⟩:=p;have j:=split_len z y m;have c:∀(l:List (Str×Tok)) (g:Nat),l.map (·.1)=Y4 z y->EP X a i Q (.ref s.heap.objs.size) { s with heap:=s.heap.push { cls:=.type "list",data:=.seq (strValues l).toArray },toks:=g }:=λl g e=>by
  have r:((Y4 z y).map V.str).length<=Zc:=by
   rw[R8];unfold Y4
   split
   ·show 1<=Zc;lia
   ·split
    ·show 1<=Zc;lia
    ·exact j
  refine⟨.ref s.heap.objs.size,_,I.laid (o:=.lst ((Y4 z y).map V.str)) (λb _ e=>Vu _ e) (Sb _) ⟨r,strValues l,0,?_,Y2 _ rfl⟩,rfl,q _ (I.hok.fresh (Sb _))⟩;rw[<-e];exact vC l
 have d:(y.length == 0)=false:=by simpa using w
 cases h1:(decide (z.length<y.length) || decide (Builtin.Str.strKind z<Builtin.Str.strKind y))
 ·cases hf:(Builtin.Str.occurrences z y 0 z.length (z.length+1)).isEmpty
  ·refine call_meets F.slot_str_split (typeIs_str _ _ _) F.entry_str_split (F.args_str_split_2 _ _) (meets_str_split_sep z y t f h1 d hf (by lia) j) ?_;show wants (EP X a i Q) X.xe _ { s with toks:=_,heap:=s.heap.push { cls:=.type "list",data:=.seq (strsFrom s.toks (Builtin.Str.partsBetween z (Builtin.Str.occurrences z y 0 z.length (z.length+1)) y.length)).toArray } };rw[strsFrom_eq];exact c (numbered s.toks _) _ ((numbered_texts _ _).trans ((Zk (ne_true_of_eq_false h1)).trans (Zk (ne_true_of_eq_false hf))).symm)
  ·exact call_meets F.slot_str_split (typeIs_str _ _ _) F.entry_str_split (F.args_str_split_2 _ _) (meets_str_split_not_found z y t f h1 d hf)
    (c [(z,t)] s.toks ((Zk (ne_true_of_eq_false h1)).trans (Zj hf)).symm)
 ·exact call_meets F.slot_str_split (typeIs_str _ _ _) F.entry_str_split (F.args_str_split_2 _ _) (meets_str_split_cannot_occur z y t f h1)
   (c [(z,t)] s.toks (Zj h1).symm)
theorem CW:∀{ys:List Str}{us:List Vy},aR (ys.map V.str) us->∃l:List (Str×Tok),us=strValues l/\l.map (·.1)=ys
 | [],_,.nil=>⟨[],rfl,rfl⟩
 | y::ys,_,.cons r t=>by
  obtain⟨a,rfl⟩:=r;obtain⟨l,rfl,rfl⟩:=CW t;exact⟨(y,a)::l,rfl,rfl⟩
def rJoin (K:Vz):V->List V->Hp->VK->Prop:=λx vs H Q=>∃z l ys,x = .str z/\vs=[.ref l]/\SqL K H l (ys.map V.str)/\JoinOk z ys=true/\Q (.str (YG z ys)) H
theorem xG:MtR X "str.join" (rJoin X.K):=by
 intro _ s _ H x _ v _ Q I b c h;obtain⟨z,l,_,rfl,rfl,g,a,q⟩:=h;obtain⟨t,rfl⟩:=b;obtain⟨u,rfl,d⟩:=c.one;cases d;obtain⟨_,r,f,_⟩:=I.list g;obtain⟨_,rfl,e⟩:=CW r;exact SC.join f.isList e a λ_ k=>⟨.str _,H,I.tok _,⟨_,rfl⟩,q⟩
end
mutual
def ltv:Zb->Zb->Bool
 | .int a,.int b=>decide (a<b)
 | .str x,.str y=>decide (x.cps.toList<y.cps.toList)
 | .list xs,.list ys=>aS xs ys
 | .tuple xs,.tuple ys=>aS xs ys
 | _,_=>false
def aS:List Zb->List Zb->Bool
 | [],[]=>false
 | [],_::_=>true
 | _::_,[]=>false
 | x::xs,y::ys=>if Yd x y=true then aS xs ys else ltv x y
end
mutual
def oz:Zb->Zb->Bool
 | .int _,.int _=>true
 | .str _,.str _=>true
 | .list xs,.list ys=>cH xs ys
 | .tuple xs,.tuple ys=>cH xs ys
 | _,_=>false
def cH:List Zb->List Zb->Bool
 | [],_=>true
 | _::_,[]=>true
 | x::xs,y::ys=>if Yd x y=true then cH xs ys else oz x y
end
theorem cs (x y:Zb) (xs ys:List Zb):aS (x::xs) (y::ys)=if Yd x y=true then aS xs ys else ltv x y:=by rw[aS]
theorem gy (x y:Zb) (xs ys:List Zb):cH (x::xs) (y::ys)=if Yd x y=true then cH xs ys else oz x y:=by rw[cH]
def AH (A:Z8) (s:Vx) (y x:Vy) (b:Bool):Prop:=
 ∀(prog:Z9) (w:Za) (E:Vy->Vx->Prop) (Q:Vy->Vx->Prop),Q (.bool b) s->Zd (model prog w) A (richCompare .Lt y x) Q E s
def o7 (xs ys:List Zb):Prop:=∀x y,x∈xs->y∈ys->oz x y=true->∀(A:Z8) (s:Vx) (a b:Vy) (as bs:List Z6),Reads s.heap a x as->Reads s.heap b y bs->x.canLay0=true->y.canLay0=true->A.units+x.depth<cLine->AH A s a b (ltv x y)
theorem o7.tail {x y:Zb}{xs ys:List Zb} (h:o7 (x::xs) (y::ys)):o7 xs ys:=λa b ha hb=>h a b (Sf _ ha) (Sf _ hb)
section
open PySem.SeqAt
open PySem.AutoSeq1 (wpAny_loadPart')
open PySem.MeetsSeq PySem.MeetsSeq2 PySem.MeetsSeq3
theorem fM {x:Zb}{xs:List Zb}{k:Nat} (h:k+Y6 (x::xs)<cLine):k+x.depth<cLine:=by
 rw[Y6]at h;have:=Nat.le_max_left x.depth (Y6 xs);lia
theorem nD {x:Zb}{xs:List Zb}{k:Nat} (h:k+Y6 (x::xs)<cLine):k+Y6 xs<cLine:=by
 rw[Y6]at h;have:=Nat.le_max_right x.depth (Y6 xs);lia
theorem yn {k a b:Nat} (h:k+a<cLine):k+min a b<cLine:=by
 have:=Nat.min_le_left a b;lia
def Sq (T:String) (hp:Heap) (a:Z6) (its:Array Vy):Prop:=∃n dd sl,hp.get? a=some { cls:=.type T,dict:=dd,data:=.seq its n,slots:=sl }
structure Sqs (hp:Heap) (i:Nat) (its gw:Array Vy) (xs ys:List Zb):Prop where
 in1:i<=its.size
 in2:i<=gw.size
 r1:∃as,ReadsAll hp (its.toList.drop i) xs as
 r2:∃bs,ReadsAll hp (gw.toList.drop i) ys bs
theorem CY {its:Array Vy}{i:Nat} (h:its.size<=i):its[((i:Nat):Int).toNat]? = none:=by
 rw[Te];exact TN h
theorem some_at {its:Array Vy}{i:Nat} (h:i<its.size):its[((i:Nat):Int).toNat]? = some its[i]:=by
 rw[Te];exact SY h
theorem FT (i:Nat):((i:Int)+1)=((i+1:Nat):Int):=rfl
theorem Sqs.Oq {b:Heap}{i:Nat}{its a:Array Vy}{xs ys:List Zb} (q:Sqs b i its a xs ys):xs.length=its.size - i:=by
 obtain⟨_,r⟩:=q.r1;have:=ReadsAll.length _ _ _ r;rw[Ut,SA]at this;exact this.symm
theorem Sqs.Na {b:Heap}{i:Nat}{its a:Array Vy}{xs ys:List Zb} (q:Sqs b i its a xs ys):ys.length=a.size - i:=by
 obtain⟨_,r⟩:=q.r2;have:=ReadsAll.length _ _ _ r;rw[Ut,SA]at this;exact this.symm
theorem Sqs.over {d:Heap}{i:Nat}{its a:Array Vy}{xs ys:List Zb} (q:Sqs d i its a xs ys) (h:its.size<=i\/a.size<=i):aS xs ys=decide (its.size<a.size)/\aS ys xs=decide (its.size > a.size):=by
 have c:=q.Oq;have b:=q.Na;have e:=q.in1;have f:=q.in2;cases xs with
 | nil=>
  rw[Tr]at c;cases ys with
  | nil=>
   rw[Tr]at b;rw[aS];exact⟨(Zh (by lia)).symm,(Zh (by lia)).symm⟩
  | cons y ys=>
   rw[SE]at b;rw[aS,aS];exact⟨(Zg (by lia)).symm,(Zh (by lia)).symm⟩
 | cons x xs=>
  rw[SE]at c;cases ys with
  | nil=>
   rw[Tr]at b;rw[aS,aS];exact⟨(Zh (by lia)).symm,(Zg (by lia)).symm⟩
  | cons y ys=>
   rw[SE]at b;lia
theorem Sqs.next {a:Heap}{i:Nat}{its b:Array Vy}{xs ys:List Zb} (q:Sqs a i its b xs ys) (h1:i<its.size) (h2:i<b.size):∃x xs' y ys',xs=x::xs'/\ys=y::ys'/\(∃as,Reads a its[i] x as)/\(∃bs,Reads a b[i] y bs)/\Sqs a (i+1) its b xs' ys':=by
 obtain⟨_,_,⟨as,c⟩,bs,d⟩:=q;rw[SX (by rw[SA];exact h1),Array.getElem_toList]at c;rw[SX (by rw[SA];exact h2),Array.getElem_toList]at d;cases c with
 | cons e g=>
  cases d with
  | cons h f=>exact⟨_,_,_,_,rfl,rfl,⟨_,e⟩,⟨_,h⟩,h1,h2,⟨_,g⟩,⟨_,f⟩⟩
theorem ze {x:Zb}{xs:List Zb} (h:Y5 (x::xs)=true):x.canLay0=true/\Y5 xs=true:=by simpa[Y5]using h
theorem uS (l b:Z6) (items r:Array Vy) (xs ys:List Zb) (S:o7 xs ys) (J:cH xs ys=true) (I:Y5 xs=true) (F:Y5 ys=true) :
  Meets (Builtin.«tuple.__lt__» ⟨[.ref l,.ref b],[]⟩)
   (λA R s=>Sq "tuple" s.heap l items/\Sq "tuple" s.heap b r/\Sqs s.heap 0 items r xs ys/\A.in1.units+Y6 xs<cLine/\R (.ok (.ret (.bool (aS xs ys)))) s):=
 .of_wp λj w A R s h=>by
  obtain⟨t,g,d,B,C⟩:=s;obtain⟨⟨n,_,_,Q⟩,⟨_,_,_,O⟩,⟨_,_,⟨v,o⟩,z,q⟩,L,h⟩:=h;rw[Uq]at o q;have T:=AutoSeq1.sub_tuple_tuple;have U:items.size=xs.length:=by rw[<-ReadsAll.length _ _ _ o];simp
  have V:r.size=ys.length:=by rw[<-ReadsAll.length _ _ _ q];simp
  wp_walk using wpAny_loadPart' Q,wpAny_loadPart' O,wpAny_forIn_list _ (λrest b D=>b.1=none/\D = ⟨t,g,d,B,C⟩/\∃(vs ws:List Vy) (xs' ys':List Zb) (v z:List Z6),rest=vs.zip ws /\
   ReadsAll t vs xs' v/\ReadsAll t ws ys' z/\o7 xs' ys'/\cH xs' ys' = true/\Y5 xs' = true/\Y5 ys' = true/\A.in1.units+Y6 xs' < cLine/\xs'.length+r.size=ys'.length+items.size/\R (.ok (.ret (.bool (aS xs' ys')))) ⟨t,g,d,B,C⟩) _
  case turn=>
   rintro⟨y,x⟩ rest b D ⟨p,rfl,vs,ws,xs',ys',v,z,e,k,f,u,c,M,N,m,a,i⟩;cases k with
   | nil=>rw[List.zip_nil_left]at e;cases e
   | @cons v0 vs0 d0 ds0 as0 as1 r1 hvi'=>
    cases f with
    | nil=>rw[List.zip_nil_right]at e;cases e
    | @cons w0 ws0 e0 es0 bs0 bs1 r2 hwi'=>
     rw[Uo]at e;injection e with hyx hrest;injection hyx with hy hx;subst hy hx;rw[cs]at i;rw[gy]at c;have G:d0.canLay0=true/\Y5 ds0=true:=by simpa[Y5]using M
     have H:e0.canLay0=true/\Y5 es0=true:=by simpa[Y5]using N
     simp only[SE]at a;have K:=eqAt_reads d0 e0 A.in1 ⟨t,g,d,B,C⟩ y x as0 bs0 r1 r2 G.1 H.1 (yn (fM m));refine Vw (K j w _ _ ?_);cases hq:Yd d0 e0 with
     | true=>
      rw[hq,Zj rfl]at i c
      wp_walk
      exact⟨rfl,rfl,_,_,_,_,_,_,hrest,hvi',hwi',u.tail,c,G.2,H.2,nD m,by lia,i⟩
     | false=>
      rw[hq,Zk Ss]at i c;have E:=u d0 e0 Sk Sk c A.in1 ⟨t,g,d,B,C⟩ y x as0 bs0 r1 r2 G.1 H.1 (fM m) j w
      wp_walk using E
      exact⟨_,rfl,by simpa using i⟩
  case fin=>
   rintro⟨_,_⟩ D ⟨p,rfl,vs,ws,xs',ys',v,z,e,k,f,_,_,_,_,_,a,i⟩;simp only at p;subst p;have P:aS xs' ys' = decide (items.size<r.size):=by
    cases k with
    | nil=>
     cases f with
     | nil=>
      simp only[Tr]at a;rw[aS];exact(Zh (by lia)).symm
     | cons _ _=>
      simp only[Tr,SE]at a;rw[aS];exact(Zg (by lia)).symm
    | cons _ _=>
     cases f with
     | nil=>
      simp only[Tr,SE]at a;rw[aS];exact(Zh (by lia)).symm
     | cons _ _=>
      rw[Uo]at e;cases e
   rw[P]at i
   wp_walk
   exact⟨_,rfl,by simpa[Builtin.Tuple.tupleCompareSizes]using i⟩
  case h=>
   exact⟨rfl,rfl,items.toList,r.toList,xs,ys,v,z,rfl,o,q,S,J,I,F,L,by lia,h⟩
theorem xZ (l b:Z6) (items o:Array Vy) (k:Nat):∀(i:Nat) (xs ys:List Zb),items.size - i=k->o7 xs ys->cH xs ys=true->Y5 xs=true->Y5 ys=true ->
  Meets (Builtin.«list.__eq__.loop» ⟨[.ref l,.ref b,rawInt i,rawInt 0],[]⟩)
   (λA R s=>Sq "list" s.heap l items/\Sq "list" s.heap b o/\Sqs s.heap i items o xs ys/\A.in1.units+Y6 xs<cLine/\R (.ok (.ret (.bool (aS xs ys)))) s):=by
 induction k with
 | zero=>
  intro i xs ys T _ _ _ _ a w A R s h;obtain⟨L,g,d,D,K⟩:=s;obtain⟨⟨n,S,U,e⟩,⟨P,B,t,c⟩,m,_,h⟩:=h;rw[(m.over (.inl (by lia))).1]at h
  wp_walk using wpAny_loadPart' e,wpAny_loadPart' c
  rw[CY (its:=items) (i:=i) (by lia)]
  wp_walk using wpAny_loadPart' e,wpAny_loadPart' c
  exact h
 | succ k u=>
  intro i xs ys T M f C v a w A R s h;obtain⟨L,g,d,D,K⟩:=s;obtain⟨H,J,m,q,h⟩:=h;obtain⟨n,S,U,e⟩:=id H;obtain⟨P,B,t,c⟩:=id J;have lt1:i<items.size:=by lia
  wp_walk using wpAny_loadPart' e,wpAny_loadPart' c
  rw[some_at lt1];rcases Tc i o.size with lt2 | ge2
  ·obtain⟨x,xs,y,ys,rfl,rfl,⟨G,E⟩,⟨N,I⟩,z⟩:=m.next lt1 lt2;obtain⟨O,p⟩:=ze C;obtain⟨F,r⟩:=ze v;rw[cs]at h;rw[gy]at f;rw[some_at lt2];refine Vw (eqAt_reads x y A.in1 _ _ _ G N E I O F (yn (fM q)) a w _ _ ?_);cases hq:Yd x y
   ·simp only[hq,SQ,if_false]at h f;have j:=M x y Sk Sk f A.in1 ⟨L,g,d,D,K⟩ _ _ G N E I O F (fM q) a w
    wp_walk using wpAny_loadPart' e,wpAny_loadPart' c
    rw[some_at lt1,some_at lt2]
    wp_walk using j
    exact h
   ·simp only[hq,if_true]at h f
    wp_walk
    rw[FT];have Q:=u (i+1) xs ys (by lia) M.tail f p r a w A R _ ⟨H,J,z,nD q,h⟩;exact⟨plainId_quiet plain_eq_loop _,codeAny_builtin entry_eq_loop (by rw[Yg plain_eq_loop];exact Q)⟩
  ·rw[(m.over (.inr ge2)).1]at h;rw[CY (its:=o) (i:=i) ge2]
   wp_walk using wpAny_loadPart' e,wpAny_loadPart' c
   exact h
theorem xj (l b:Z6) (items c:Array Vy) (xs ys:List Zb) (p:o7 xs ys) (j:cH xs ys=true) (f:Y5 xs=true) (e:Y5 ys=true) :
  Meets (Builtin.«list.__lt__» ⟨[.ref l,.ref b],[]⟩)
   (λA R s=>Sq "list" s.heap l items/\Sq "list" s.heap b c/\Sqs s.heap 0 items c xs ys/\A.in1.units+Y6 xs<cLine/\R (.ok (.ret (.bool (aS xs ys)))) s):=by
 intro a w A R s h;have k:=xZ l b items c _ 0 xs ys rfl p j f e a w A R s h;obtain⟨_,g,d,_,_⟩:=s;obtain⟨⟨n,_,_,o⟩,⟨_,_,_,m⟩,_⟩:=h;have i:=AutoSeq1.sub_list_list
 wp_walk using wpAny_loadPart' o,wpAny_loadPart' m
 exact⟨plainId_quiet plain_eq_loop _,codeAny_builtin entry_eq_loop (by rw[Yg plain_eq_loop];exact k)⟩
theorem qc {x:Zb}:∀{xs:List Zb},x∈xs->x.depth<=Y6 xs
 | y::ys,h=>by
  rw[Y6]
  (rcases Su.mp h with e | h)
  ·subst e;exact Nat.le_max_left _ _
  ·exact Sl (qc h) (Nat.le_max_right _ _)
end
section
open PySem.SeqAt
open PySem.MeetsSeq PySem.MeetsSeq2 PySem.MeetsSeq3
theorem Br {A:Z8}{s:Vx}{l b:Z6}{o a:Obj}{vs ws:Array Vy}{n n2:Nat}{xs ys:List Zb}{k bs:List Z6} (h1:s.heap.get? l=some o) (e:o.cls = .type "list") (d1:o.data = .seq vs n) (h2:s.heap.get? b=some a) (f:a.cls = .type "list") (d2:a.data = .seq ws n2)
  (j:ReadsAll s.heap vs.toList xs k) (i:ReadsAll s.heap ws.toList ys bs) (m:o7 xs ys) (g:cH xs ys=true) (d:Y5 xs=true) (c:Y5 ys=true) (p:A.units+(Y6 xs+1)<cLine):AH A s (.ref l) (.ref b) (aS xs ys):=λ_ w E Q h=>by
 obtain⟨_,_,_,_⟩:=o;obtain⟨_,_,_,_⟩:=a;simp only at e d1 f d2;subst e d1 f d2;exact richCompare_meets_room (op:=.Lt) ⟨_,h1,rfl⟩ ⟨_,h2,rfl⟩ F.slot_list_lt F.entry_list_lt (F.args_list_lt_2 _ _) (xj l b vs ws xs ys m g d c)
  ⟨⟨_,_,_,h1⟩,⟨_,_,_,h2⟩,⟨Sy _,Sy _,⟨_,j⟩,⟨_,i⟩⟩,by show A.units+1+Y6 xs<cLine;lia,show Value.bool (aS xs ys)≠Value.notImplemented/\Q (.bool (aS xs ys)) s from⟨(λx=>nomatch x),h⟩⟩ (by lia)
theorem y7 {A:Z8}{s:Vx}{l b:Z6}{o a:Obj}{vs ws:Array Vy}{n n2:Nat}{xs ys:List Zb}{k bs:List Z6} (h1:s.heap.get? l=some o) (e:o.cls = .type "tuple") (d1:o.data = .seq vs n) (h2:s.heap.get? b=some a) (f:a.cls = .type "tuple") (d2:a.data = .seq ws n2)
  (j:ReadsAll s.heap vs.toList xs k) (i:ReadsAll s.heap ws.toList ys bs) (m:o7 xs ys) (g:cH xs ys=true) (d:Y5 xs=true) (c:Y5 ys=true) (p:A.units+(Y6 xs+1)<cLine):AH A s (.ref l) (.ref b) (aS xs ys):=λ_ w E Q h=>by
 obtain⟨_,_,_,_⟩:=o;obtain⟨_,_,_,_⟩:=a;simp only at e d1 f d2;subst e d1 f d2;exact richCompare_meets_room (op:=.Lt) ⟨_,h1,rfl⟩ ⟨_,h2,rfl⟩ F.slot_tuple_lt F.entry_tuple_lt (F.args_tuple_lt_2 _ _) (uS l b vs ws xs ys m g d c)
  ⟨⟨_,_,_,h1⟩,⟨_,_,_,h2⟩,⟨Sy _,Sy _,⟨_,j⟩,⟨_,i⟩⟩,by show A.units+1+Y6 xs<cLine;lia,show Value.bool (aS xs ys)≠Value.notImplemented/\Q (.bool (aS xs ys)) s from⟨(λx=>nomatch x),h⟩⟩ (by lia)
theorem yt {A:Z8}{s:Vx}{a b:Vy}{i j:Int}{d bs:List Z6} (e:Reads s.heap a (.int i) d) (f:Reads s.heap b (.int j) bs):AH A s a b (ltv (.int i) (.int j)):=by
 cases e with
 | int i t=>
  cases f with
  | int j u=>intro c w E Q h;exact HT.Hk A s i t j u c w E Q (by rw[ltv]at h;exact h)
theorem zB {A:Z8}{s:Vx}{a b:Vy}{x y:Str}{d bs:List Z6} (e:Reads s.heap a (.str x) d) (f:Reads s.heap b (.str y) bs):AH A s a b (ltv (.str x) (.str y)):=by
 cases e with
 | str x t=>
  cases f with
  | str y u=>intro c w E Q h;exact(PyProof.Rows.lt_str (by rw[ltv]at h;exact h):Zd (model c w) A (compareOp .Lt (.str x t) (.str y u)) Q E s)
theorem vD {b a:Zb} (h:oz b a=true):(∃i j,b = .int i/\a = .int j)\/(∃x y,b = .str x/\a = .str y)\/(∃xs ys,b = .list xs/\a = .list ys/\cH xs ys=true)\/∃xs ys,b = .tuple xs/\a = .tuple ys/\cH xs ys=true:=by
 unfold oz at h
 split at h
 ·exact .inl ⟨_,_,rfl,rfl⟩
 ·exact .inr (.inl ⟨_,_,rfl,rfl⟩)
 ·exact .inr (.inr (.inl ⟨_,_,rfl,rfl,h⟩))
 ·exact .inr (.inr (.inr ⟨_,_,rfl,rfl,h⟩))
 ·cases h
theorem sR:∀(n:Nat) (da db:Zb),da.depth<=n->oz da db=true->∀(A:Z8) (s:Vx) (a b:Vy) (as bs:List Z6),Reads s.heap a da as->Reads s.heap b db bs->da.canLay0=true->db.canLay0=true->A.units+da.depth<cLine->AH A s a b (ltv da db):=by
 intro n
 induction n with
 | zero=>
  intro da db q c A s a b as bs g e E D r;rcases vD c with⟨i,j,rfl,rfl⟩ | ⟨x,y,rfl,rfl⟩ | ⟨u,t,rfl,rfl,c⟩ | ⟨u,t,rfl,rfl,c⟩
  ·exact yt g e
  ·exact zB g e
  ·rw[Yy]at q;lia
  ·rw[Yy]at q;lia
 | succ n H=>
  intro da db q c A s a b as bs g e E D r;rcases vD c with⟨i,j,rfl,rfl⟩ | ⟨x,y,rfl,rfl⟩ | ⟨u,t,rfl,rfl,c⟩ | ⟨u,t,rfl,rfl,c⟩
  ·exact yt g e
  ·exact zB g e
  ·rw[Yy]at q r;cases g with
   | @list a o vs k u as1 h1 c1 d1 r1=>
    cases e with
    | @list b o2 ws k2 t bs1 h2 c2 d2 r2=>
     rw[ltv];exact Br h1 c1 d1 h2 c2 d2 r1 r2 (λx y z I h B v F w l d p m G C f=>H x y (by have:=qc z;lia) h B v F w l d p m G C f) c E D r
  ·rw[Yy]at q r;cases g with
   | @tuple a o vs k u as1 h1 c1 d1 r1=>
    cases e with
    | @tuple b o2 ws k2 t bs1 h2 c2 d2 r2=>
     rw[ltv];exact y7 h1 c1 d1 h2 c2 d2 r1 r2 (λx y z I h B v F w l d p m G C f=>H x y (by have:=qc z;lia) h B v F w l d p m G C f) c E D r
variable {prog:Z9}{w:Za}{A:Z8}{E:Vy->Vx->Prop}{s:Vx}
theorem Es {x y:Vy}{b:Bool}{Q:Bool->Vx->Prop} (h:AH A s x y b) (q:Q b s):Zd (model prog w) A (oneLt' false x y) Q E s:=
 PySem.W.kat_one x y (h prog w E _ q)
theorem oneLt_str {x y:Str}{t u:Tok}{Q:Bool->Vx->Prop} (q:Q (decide (x.cps.toList<y.cps.toList)) s):Zd (model prog w) A (oneLt' true (.str x t) (.str y u)) Q E s:=by
 have:=PySem.W.kas_lt_str (prog:=prog) (w:=w) (A:=A) (E:=E) (s:=s) (a:=x) (c:=y) (t:=t) (u:=u) (Q:=Q) q
 rwa [keyLt'_oneType]at this
theorem Bs {b:Bool}{x y:Z6}{ox P:Obj}{t C:Array Vy}{n k:Nat}{xs ys:List Zb}{B bs:List Z6}{Q:Bool->Vx->Prop} (hx:s.heap.get? x=some ox) (dx:ox.data = .seq t n) (Z:s.heap.get? y=some P) (X:P.data = .seq C k)
  (O:ReadsAll s.heap t.toList xs B) (L:ReadsAll s.heap C.toList ys bs) (ha:Y5 xs=true) (V:Y5 ys=true) (Y:cH xs ys=true) (U:∀d e,xs.head? = some d->ys.head? = some e->(b=true->(∃i j,d = .int i/\e = .int j)\/∃i j,d = .str i/\e = .str j))
  (S:A.units+Y6 xs<cLine) (q:Q (aS xs ys) s):Zd (model prog w) A (keyLt' (tuples' b) (.ref x) (.ref y)) Q E s:=by
 refine PySem.W.kat_lt hx dx Z X ?_;have z1:t.size=xs.length:=by rw[<-ReadsAll.length _ _ _ O];simp
 have z2:C.size=ys.length:=by rw[<-ReadsAll.length _ _ _ L];simp
 have J:∀(F G:List Vy) (a f:List Zb) (B bs:List Z6) (i:Nat),ReadsAll s.heap F a B->ReadsAll s.heap G f bs->Y5 a = true->Y5 f = true->cH a f = true->A.units+Y6 a < cLine ->
   a.length+C.size=f.length+t.size->(i=0->a = xs/\f = ys)->Q (aS a f) s->PySem.W.KatLex prog w A b (decide (t.size<C.size)) Q (F.zip G) i s:=by
  intro F
  induction F with
  | nil=>
   intro G a f B bs i m l R M c u D N g;cases m;rw[List.zip_nil_left];refine PySem.W.kat_nil ?_;cases l with
   | nil=>
    rw[aS]at g;simp only[Tr]at D;rw[Zh (by lia)];exact g
   | cons _ _=>
    rw[aS]at g;simp only[Tr,SE]at D;rw[Zg (by lia)];exact g
  | cons v F K=>
   intro G a f B bs i m l R M c u D N g;cases m with
   | @cons _ _ d0 ds0 as0 as1 m r1'=>
   cases l with
   | nil=>
    rw[List.zip_nil_right];refine PySem.W.kat_nil ?_;rw[aS]at g;simp only[Tr,SE]at D;rw[Zh (by lia)];exact g
   | @cons w0 ws0 e0 es0 bs0 bs1 l r2'=>
    rw[Uo];rw[cs]at g;rw[gy]at c;have o:d0.canLay0=true/\Y5 ds0=true:=by simpa[Y5]using R
    have r:e0.canLay0=true/\Y5 es0=true:=by simpa[Y5]using M
    refine PySem.W.kat_cons (eqAt_reads d0 e0 A s v w0 as0 bs0 m l o.1 r.1 (yn (fM u)) prog w _ _ ?_);cases hq':Yd d0 e0 with
    | true=>
     rw[hq',Zj rfl]at g c;refine PySem.W.kat_yes (K ws0 ds0 es0 _ _ (i+1) r1' r2' o.2 r.2 c (nD u) ?_ (λz=>by lia) g);simp only[SE]at D;lia
    | false=>
     rw[hq',Zk Ss]at g c;refine PySem.W.kat_no ?_;by_cases h:(b && i == 0)=true
     ·have H:b=true:=by simp at h;exact h.1
      have I:i=0:=by simp at h;exact h.2
      obtain⟨T,e2⟩:=N I;rw[h];rcases U d0 e0 (by rw[<-T];rfl) (by rw[<-e2];rfl) H with⟨p,q',rfl,rfl⟩ | ⟨p,q',rfl,rfl⟩
      ·cases m;cases l;rw[ltv]at g;exact oneLt_int g
      ·cases m;cases l;rw[ltv]at g;exact oneLt_str g
     ·have:(b && i == 0)=false:=by simpa using h
      rw[this];exact Es (sR _ d0 e0 (Sb _) c A s v w0 as0 bs0 m l o.1 r.1 (fM u)) g
 exact J t.toList C.toList xs ys B bs 0 O L ha V Y S (by lia) (λ_=>⟨rfl,rfl⟩) q
end
end L2
namespace L2
open PySem PySem.Spec PyProof.Rows PySem.W
structure qZ (n:Nat) (lt:Nat->Nat->Bool):Prop where
 irrefl:∀a,a<n->lt a a=false
 negTrans:∀a b c,a<n->b<n->c<n->lt a c=true->lt a b=true\/lt b c=true
 asymm:∀a b,a<n->b<n->lt a b=true->lt b a=false
def AllLt (n:Nat) (p:Array Nat):Prop:=∀i,p.getD i 0<n
def p6 (lt:Nat->Nat->Bool) (p:Array Nat) (k:Nat):Prop:=∀i j,i<=j->j<k->lt (p.getD j 0) (p.getD i 0)=false
def l6 (lt:Nat->Nat->Bool) (p:Array Nat) (k:Nat):Prop:=∀i j,i<=j->j<k->lt (p.getD i 0) (p.getD j 0)=false
theorem AllLt.perm {n:Nat}{p q:Array Nat} (h:AllLt n p) (g:0<n) (r:q.Perm p):AllLt n q:=by
 intro i;by_cases b:i<q.size
 ·have e:q.getD i 0=q[i]:=by simp[Z0,b]
  rw[e];have d:q[i]∈p.toList:=(UH.mp r).mem_iff.mp (by simp);obtain⟨j,k,f⟩:=Uw.mp d;have:=h j;have c:p.getD j 0=q[i]:=by
   have a:j<p.size:=by simpa using k
   have:p.getD j 0=p[j]:=by simp[Z0,a]
   rw[this,<-f];simp
  rw[<-c];exact this
 ·have e:q.getD i 0=0:=by simp[Z0,b]
  rw[e];exact g
section
variable {n:Nat}{lt:Nat->Nat->Bool}{cmp:Nat->Nat->(Bool->Vx->Prop)->Vx->Prop}{P:Vx->Prop}
theorem qZ.trans (W:qZ n lt) {a b c:Nat} (e:a<n) (f:b<n) (d:c<n) (h1:lt b a=false) (h2:lt c b=false):lt c a=false:=by
 cases q:lt c a with
 | false=>rfl
 | true=>
  rcases W.negTrans c b a d f e q with z | z
  ·rw[h2]at z;cases z
  ·rw[h1]at z;cases z
theorem p6.Ci (W:qZ n lt) {p:Array Nat} (a:AllLt n p) {k m:Nat} (h:p6 lt p k) (o:1<=k) (g:∀i,k<=i->i<m->lt (p.getD i 0) (p.getD (i - 1) 0)=false):p6 lt p m:=by
 have f:∀d i j,j=i+d->j<m->lt (p.getD j 0) (p.getD i 0)=false:=by
  intro d
  induction d with
  | zero=>intro i j e b;rw[e];exact W.irrefl _ (a _)
  | succ d l=>
   intro i j e b;by_cases c:j<k
   ·exact h i j (by lia) c
   ·exact W.trans (a _) (a (j - 1)) (a _) (l i (j - 1) (by lia) (by lia)) (g j (by lia) b)
 intro i j _ b;exact f (j - i) i j (by lia) b
theorem qP {p:Array Nat}{k l:Nat} (a:k<p.size) (b:l<=k) (i:Nat):(bubble p k (k - l)).getD i 0=if i<l then p.getD i 0 else if i=l then p.getD k 0 else if i<=k then p.getD (i - 1) 0 else p.getD i 0:=by
 have h:=getElem?_bubble (xs:=p) a (k - l) (by lia) i;rw[TQ,h];rw[show k - (k - l)=l by lia];simp only[TQ]
 repeat' split
 all_goals first | rfl | (exfalso;lia) | skip
theorem ef {p:Array Nat}{i j:Nat} (a:j<=p.size) (k:Nat):(kas_rev p i j).getD k 0=if i<=k/\k<j then p.getD (i+j - 1 - k) 0 else p.getD k 0:=by
 have h:=getElem?_mirror_all (xs:=p) (i:=i) a k;unfold kas_rev;rw[TQ,h];simp only[TQ]
 repeat' split
 all_goals first | rfl | (exfalso;lia) | skip
theorem BY (g:∀i j C s,i<n->j<n->P s->(∀s',P s'->C (lt i j) s')->cmp i j C s) {p:Array Nat} (c:AllLt n p) {Q:Nat->Vx->Prop}:∀(f k:Nat) (s:Vx),P s ->
  (∀m s',P s'->k<=m->m<=k+f->(∀i,k<=i->i<m->lt (p.getD i 0) (p.getD (i - 1) 0)=false)->(m<k+f->lt (p.getD m 0) (p.getD (m - 1) 0)=true)->Q m s')->(kas_asc p f k).kasWp cmp Q s
 | 0,k,s,hs,h=>h k s hs (Sb _) (Sb _) (λi d l=>by lia) λd=>by lia
 | f+1,k,s,hs,h=>by
  refine g _ _ _ s (c _) (c _) hs λs' a=>?_;cases hc:lt (p.getD k 0) (p.getD (k - 1) 0)with
  | true=>
   show Z1 cmp (if true=true then KasT.ret k else kas_asc p f (k+1)) Q s';rw[Zj rfl];exact h k s' a (Sb _) (by lia) (λi d l=>by lia) λ_=>hc
  | false=>
   show Z1 cmp (if false=true then KasT.ret k else kas_asc p f (k+1)) Q s';rw[Zk Ss];refine(BY g c f (k+1) s' a λm b u d l q t=>h m b u (by lia) (by lia) (λi o r=>?_) λo=>t (by lia));by_cases e:i=k
   ·rw[e];exact hc
   ·exact q i (by lia) r
def Alike (lt:Nat->Nat->Bool) (p:Array Nat) (k q:Nat):Prop:=∀i,k - (q+1)<=i->i<k->lt (p.getD (k - 1) 0) (p.getD i 0)=false
theorem vY (W:qZ n lt) {p:Array Nat}{k q:Nat} (f:AllLt n p) (l:k<=p.size) (t:q+1<=k) (d:l6 lt p k) (s:Alike lt p k q):l6 lt (kas_rev p (k - (q+1)) k) k:=by
 intro i j c h;rw[ef l,ef l];have g:∀a b,k - (q+1)<=a->a<k->k - (q+1)<=b->b<k->lt (p.getD a 0) (p.getD b 0)=false:=λa b _ _ m r=>
  W.trans (f b) (f (k - 1)) (f a) (s b m r) (d a (k - 1) (by lia) (by lia))
 by_cases o:k - (q+1)<=i
 ·rw[Zj ⟨o,by lia⟩,Zj ⟨by lia,h⟩];exact g _ _ (by lia) (by lia) (by lia) (by lia)
 ·rw[Zk (by lia)];by_cases e:k - (q+1)<=j
  ·rw[Zj ⟨e,h⟩];exact d _ _ (by lia) (by lia)
  ·rw[Zk (by lia)];exact d i j c h
theorem jA (W:qZ n lt) {p:Array Nat}{k:Nat} (a:AllLt n p) (h1:1<=k) (c:l6 lt p k) (h:lt (p.getD (k - 1) 0) (p.getD k 0)=false):l6 lt p (k+1):=by
 intro i j b _;by_cases e:j=k
 ·subst e;by_cases d:i=j
  ·subst d;exact W.irrefl _ (a _)
  ·exact W.trans (a _) (a (j - 1)) (a _) h (c i (j - 1) (by lia) (by lia))
 ·exact c i j b (by lia)
theorem rN (W:qZ n lt) (o:∀i j C s,i<n->j<n->P s->(∀s',P s'->C (lt i j) s')->cmp i j C s) (v:0<n) {Q:Array Nat×Nat×Nat->Vx->Prop}:∀(f:Nat) (p:Array Nat) (k q:Nat) (s:Vx),P s->AllLt n p->k+f<=p.size->q+1<=k->l6 lt p k->Alike lt p k q ->
  (∀p' k' q' s',P s'->p'.Perm p->k<=k'->k'<=k+f->q' + 1<=k'->l6 lt p' k'->Alike lt p' k' q'->Q (p',k',q') s')->(kas_desc f p k q).kasWp cmp Q s
 | 0,p,k,q,s,hs,hp,hz,hq,hd,ha,h=>h p k q s hs (Array.Perm.refl _) (Sb _) (Sb _) hq hd ha
 | f+1,p,k,q,s,hs,hp,hz,hq,hd,ha,h=>by
  refine o _ _ _ s (hp _) (hp _) hs λs' m=>?_;cases hc:lt (p.getD k 0) (p.getD (k - 1) 0)with
  | true=>
   have t:lt (p.getD (k - 1) 0) (p.getD k 0)=false:=W.asymm _ _ (hp _) (hp _) hc;show Z1 cmp (if true=true then(if q > 0 then kas_desc f (kas_rev p (k - (q+1)) k) (k+1) 0 else kas_desc f p (k+1) 0)else _) Q s';rw[Zj rfl]
   split
   ·have z:(kas_rev p (k - (q+1)) k).Perm p:=mirror_perm _ _ _ _;have l:=hp.perm v z;have w:(kas_rev p (k - (q+1)) k).size=p.size:=mirror_size _ _ _ _;have x:=vY W hp (by lia) hq hd ha;refine rN W o v f _ (k+1) 0 s' m l (by rw[w];lia) (by lia) (jA W l (by lia) x ?_) (λi y A=>?_) λp' k' q' g a b c d e=>h p' k' q' g a (b.trans z) (by lia) (by lia) e
    ·rw[ef (by lia),ef (by lia),Zj ⟨by lia,by lia⟩,Zk (by lia)];refine W.trans (hp _) (hp (k - 1)) (hp _) t ?_;exact hd _ _ (by lia) (by lia)
    ·have:i=k+1 - 1:=by lia
     rw[this];exact W.irrefl _ (l _)
   ·refine rN W o v f _ (k+1) 0 s' m hp (by lia) (by lia) (jA W hp (by lia) hd t) (λi y A=>?_) λp' k' q' g a b c d e=>h p' k' q' g a b (by lia) (by lia) e;have:i=k+1 - 1:=by lia
    rw[this];exact W.irrefl _ (hp _)
  | false=>
   show Z1 cmp (if false=true then _ else KasT.ask (p.getD (k - 1) 0) (p.getD k 0) λd=>if d=true then KasT.ret (p,k,q)else kas_desc f p (k+1) (q+1)) Q s';rw[Zk Ss];refine o _ _ _ s' (hp _) (hp _) m λu r=>?_;cases hc2:lt (p.getD (k - 1) 0) (p.getD k 0)with
   | true=>
    show Z1 cmp (if true=true then KasT.ret (p,k,q)else _) Q u;rw[Zj rfl];exact h p k q u r (Array.Perm.refl _) (Sb _) (by lia) hq hd ha
   | false=>
    show Z1 cmp (if false=true then _ else kas_desc f p (k+1) (q+1)) Q u;rw[Zk Ss];refine rN W o v f _ (k+1) (q+1) u r hp (by lia) (by lia) (jA W hp (by lia) hd hc2) (λi y A=>?_) λp' k' q' g a b c d e=>h p' k' q' g a b (by lia) (by lia) e;rw[show k+1 - 1=k by lia];by_cases e:i=k
    ·rw[e];exact W.irrefl _ (hp _)
    ·exact W.trans (hp _) (hp (k - 1)) (hp _) (ha i (by lia) (by lia)) hc
theorem Al (W:qZ n lt) (o:∀i j C s,i<n->j<n->P s->(∀s',P s'->C (lt i j) s')->cmp i j C s) (t:0<n) {p:Array Nat}{k f:Nat}{s:Vx}{Q:Nat×Array Nat->Vx->Prop} (r:P s) (w:AllLt n p) (x:k<=f) (h1:1<=k) (hz:f<=p.size) (q:l6 lt p k)
  (h:∀m p' s',P s'->p'.Perm p->1<=m->m<=f->p6 lt p' m->Q (m,p') s'):(kas_tail3 k f p).kasWp cmp Q s:=by
 unfold kas_tail3;rw[KasT.kasWp_bind];have l:(kas_rev p 0 k).Perm p:=mirror_perm _ _ _ _;have e:=w.perm t l;have v:p6 lt (kas_rev p 0 k) k:=λi j _ u=>by
  rw[ef (by lia),ef (by lia),Zj ⟨by lia,u⟩,Zj ⟨by lia,by lia⟩];exact q _ _ (by lia) (by lia)
 refine BY o e _ _ s r λm s' g a b c d=>?_;exact h m _ s' g l (by lia) (by lia) (v.Ci W e h1 c)
theorem qv (W:qZ n lt) (t:∀i j C s,i<n->j<n->P s->(∀s',P s'->C (lt i j) s')->cmp i j C s) (g:0<n) {p:Array Nat}{k o:Nat}{s:Vx}{Q:Nat×Array Nat->Vx->Prop} (G:P s) (A:AllLt n p) (I:k+1<=o) (h1:1<=k) (hz:o<=p.size) (F:l6 lt p (k+1))
  (h:∀m p' s',P s'->p'.Perm p->1<=m->m<=o->p6 lt p' m->Q (m,p') s'):(kas_descPart k o p).kasWp cmp Q s:=by
 unfold kas_descPart;rw[KasT.kasWp_bind];refine rN W t g _ p (k+1) 0 s G A (by lia) (by lia) F (λi _ _=>?_) λp' r E s' l q a b c d e=>?_
 ·have:i=k+1 - 1:=by lia
  rw[this];exact W.irrefl _ (A _)
 ·have H:p'.size=p.size:=q.size_eq;have f:=A.perm g q;dsimp only
  split
  ·have D:(kas_rev p' (r - (E + 1)) r).Perm p':=mirror_perm _ _ _ _;have J:(kas_rev p' (r - (E + 1)) r).size=p'.size:=mirror_size _ _ _ _;exact Al W t g l (f.perm g D) (by lia) (by lia) (by lia) (vY W f (by lia) c d e) λm B u x y z w v=>h m B u x (y.trans (D.trans q)) z w v
  ·exact Al W t g l f (by lia) (by lia) (by lia) d λm B u x y z w v=>h m B u x (y.trans q) z w v
theorem Fq (W:qZ n lt) (A:∀i j C s,i<n->j<n->P s->(∀s',P s'->C (lt i j) s')->cmp i j C s) (E:0<n) {p:Array Nat}{k:Nat}{s:Vx}{Q:Nat×Array Nat->Vx->Prop} (N:P s) (f:AllLt n p) (h1:1<=k) (hz:k<=p.size)
  (h:∀m p' s',P s'->p'.Perm p->1<=m->m<=k->p6 lt p' m->Q (m,p') s'):(kas_count k p).kasWp cmp Q s:=by
 unfold kas_count;rw[KasT.kasWp_bind];refine BY A f _ _ s N λm s' g a b c d=>?_;have B:p6 lt p 1:=λi j l F=>by
  have:i=0:=by lia
  have:j=0:=by lia
  subst_vars;exact W.irrefl _ (f _)
 have t:p6 lt p m:=B.Ci W f (Sb _) c;by_cases e:m=k
 ·rw[Zj (by simpa using e)];exact h m p s' g (Array.Perm.refl _) a (by lia) t
 ·rw[Zk (by simpa using e)];have G:lt (p.getD m 0) (p.getD (m - 1) 0)=true:=d (by lia);have u:lt (p.getD (m - 1) 0) (p.getD m 0)=false:=W.asymm _ _ (f _) (f _) G
  split
  ·refine A _ _ _ s' (f _) (f _) g λD r=>?_;cases hc:lt (p.getD 0 0) (p.getD (m - 1) 0)with
   | true=>
    show Z1 cmp (if true=true then KasT.ret (m,p)else _) Q D;rw[Zj rfl];exact h m p D r (Array.Perm.refl _) a (by lia) t
   | false=>
    show Z1 cmp (if false=true then _ else kas_descPart m k (kas_rev p 0 m)) Q D;rw[Zk Ss];have I:(kas_rev p 0 m).Perm p:=mirror_perm _ _ _ _;have O:(kas_rev p 0 m).size=p.size:=mirror_size _ _ _ _;have o:=f.perm E I;have H:∀i j,i<m->j<m->lt (p.getD i 0) (p.getD j 0)=false:=λi j L F=>by
     have M:lt (p.getD i 0) (p.getD (m - 1) 0)=false:=W.trans (f _) (f 0) (f _) hc (by
      have U:lt (p.getD (m - 1) 0) (p.getD i 0)=false:=t i (m - 1) (by lia) (by lia);cases q:lt (p.getD i 0) (p.getD 0 0)with
      | false=>rfl
      | true=>
       have J:=t 0 i (Sy _) L;rw[J]at q;cases q)
     exact W.trans (f _) (f (m - 1)) (f _) (t j (m - 1) (by lia) (by lia)) M
    refine qv W A E r o (by lia) a (by lia) (jA W o a (λi j l F=>?_) ?_) λK S R x y z w v=>h K S R x (y.trans I) z w v
    ·rw[ef (by lia),ef (by lia),Zj ⟨by lia,by lia⟩,Zj ⟨by lia,by lia⟩];exact H _ _ (by lia) (by lia)
    ·rw[ef (by lia),ef (by lia),Zj ⟨by lia,by lia⟩,Zk (by lia)];exact W.trans (f _) (f (m - 1)) (f _) u (H _ _ (by lia) (by lia))
  ·have T:m=1:=by lia
   refine qv W A E g f (by lia) a hz (jA W f a (λi j l F=>?_) u) h;have:i=0:=by lia
   have:j=0:=by lia
   subst_vars;exact W.irrefl _ (f _)
theorem rV (W:qZ n lt) (o:∀i j C s,i<n->j<n->P s->(∀s',P s'->C (lt i j) s')->cmp i j C s) {p:Array Nat} (c:AllLt n p) {k:Nat} (g:p6 lt p k) {Q:Nat->Vx->Prop}:∀(f l r:Nat) (s:Vx),P s->l<=r->r<=k->r - l<=f ->
  (∀i,i<l->lt (p.getD k 0) (p.getD i 0)=false)->(∀i,r<=i->i<k->lt (p.getD k 0) (p.getD i 0)=true) ->
  (∀m s',P s'->m<=k->(∀i,i<m->lt (p.getD k 0) (p.getD i 0)=false)->(∀i,m<=i->i<k->lt (p.getD k 0) (p.getD i 0)=true)->Q m s')->(kas_place p k f l r).kasWp cmp Q s
 | 0,l,r,s,hs,h1,h2,h3,h4,h5,h=>h l s hs (by lia) h4 λi a b=>h5 i (by lia) b
 | f+1,l,r,s,hs,h1,h2,h3,h4,h5,h=>by
  unfold kas_place;by_cases e:l ≥ r
  ·rw[Zj e];exact h l s hs (by lia) h4 λi a b=>h5 i (by lia) b
  ·rw[Zk e];refine o _ _ _ s (c _) (c _) hs λs' d=>?_;cases hc:lt (p.getD k 0) (p.getD ((l+r) / 2) 0)with
   | true=>
    show Z1 cmp (if true=true then kas_place p k f l ((l+r) / 2)else _) Q s';rw[Zj rfl];refine rV W o c g f l ((l+r) / 2) s' d (by lia) (by lia) (by lia) h4 (λi a b=>?_) h;rcases W.negTrans _ (p.getD i 0) _ (c _) (c _) (c _) hc with z | z
    ·exact z
    ·have:=g ((l+r) / 2) i a b;rw[this]at z;cases z
   | false=>
    show Z1 cmp (if false=true then _ else kas_place p k f ((l+r) / 2+1) r) Q s';rw[Zk Ss];refine rV W o c g f ((l+r) / 2+1) r s' d (by lia) (by lia) (by lia) (λi a=>?_) h5 h;exact W.trans (c _) (c ((l+r) / 2)) (c _) (g i ((l+r) / 2) (by lia) (by lia)) hc
theorem Hq (W:qZ n lt) (q:∀i j C s,i<n->j<n->P s->(∀s',P s'->C (lt i j) s')->cmp i j C s) (u:0<n) {Q:Array Nat->Vx->Prop}:∀(f:Nat) (p:Array Nat) (k:Nat) (s:Vx),P s->AllLt n p->k+f<=p.size->p6 lt p k ->
  (∀p' s',P s'->p'.Perm p->p6 lt p' (k+f)->Q p' s')->(kas_bin f p k).kasWp cmp Q s
 | 0,p,k,s,hs,hp,hz,up,h=>h p s hs (Array.Perm.refl _) up
 | f+1,p,k,s,hs,hp,hz,up,h=>by
  unfold kas_bin;rw[KasT.kasWp_bind];refine rV W q hp up k 0 k s hs (Sy _) (Sb _) (by lia) (λi a=>by lia) (λi a b=>by lia) λl s' m t z y=>?_;have r:(bubble p k (k - l)).Perm p:=bubble_perm _ _ _;have g:(bubble p k (k - l)).size=p.size:=bubble_size _ _ _;refine Hq W q u f _ (k+1) s' m (hp.perm u r) (by rw[g];lia) (λi j e _=>?_) λp' x a b c=>h p' x a (b.trans r) (by rw[show k+(f+1)=k+1+f by lia];exact c);rw[qP (by lia) t,qP (by lia) t];by_cases o:i<l
  ·rw[Zj o];by_cases v:j<l
   ·rw[Zj v];exact up i j e (by lia)
   ·rw[Zk v];by_cases d:j=l
    ·rw[Zj d];exact z i o
    ·rw[Zk d,Zj (by lia)];exact up i (j - 1) (by lia) (by lia)
  ·rw[Zk o,Zk (show¬ j<l by lia)];by_cases w:i=l
   ·rw[Zj w];by_cases d:j=l
    ·rw[Zj d];exact W.irrefl _ (hp _)
    ·rw[Zk d,Zj (by lia)];exact W.asymm _ _ (hp _) (hp _) (y (j - 1) (by lia) (by lia))
   ·rw[Zk w,Zj (show i<=k by lia),Zk (show¬ j=l by lia),Zj (show j<=k by lia)];exact up (i - 1) (j - 1) (by lia) (by lia)
theorem ya (W:qZ n lt) (k:∀i j C s,i<n->j<n->P s->(∀s',P s'->C (lt i j) s')->cmp i j C s) (f:0<n) {s:Vx}{Q:Array Nat->Vx->Prop} (w:P s)
  (h:∀p s',P s'->p.toList.Perm (Y7 n)->p6 lt p n->Q p s'):(kas_sort n).kasWp cmp Q s:=by
 unfold kas_sort;rw[KasT.kasWp_bind];have u:AllLt n (YJ (Y7 n)):=λi=>by
  by_cases o:i<n
  ·simp[Z0,o]
  ·simp[Z0,o];exact f
 have l:(YJ (Y7 n)).size=n:=by simp
 refine Fq W k f w u (by lia) (by rw[l];exact Sb _) λm g s' d e a b t=>?_;have A:g.size=n:=by rw[e.size_eq];exact l
 have c:∀{q:Array Nat},q.Perm (YJ (Y7 n))->q.toList.Perm (Y7 n):=λr=>by simpa using UH.mp r
 dsimp only
 split
 ·rw[show max m 1=m by lia];exact Hq W k f _ g m s' d (u.perm f e) (by lia) t λB v x y z=>h B v x (c (y.trans e)) (by rw[show m+(n - m)=n by lia]at z;exact z)
 ·have:m=n:=by lia
  subst this;exact h g s' d (c e) t
end
inductive Sh where
 | int | str | list (e:Sh) | rn | cO (a r:Sh)
def Sh.has:Sh->Zb->Prop
 | .int,d=>∃i,d = .int i
 | .str,d=>∃x,d = .str x
 | .list e,d=>∃ds,d = .list ds/\∀x∈ds,Sh.has e x
 | .rn,d=>d = .tuple []
 | .cO a r,d=>∃x ds,d = .tuple (x::ds)/\Sh.has a x/\Sh.has r (.tuple ds)
structure tJ (S:Zb->Prop):Prop where
 cmp:∀d e,S d->S e->oz d e=true
 eqv:∀d e,S d->S e->(Yd d e=true↔d=e)
 irr:∀d,S d->ltv d d=false
 tot:∀d e,S d->S e->ltv d e=false->ltv e d=false->d=e
 trans:∀d e f,S d->S e->S f->ltv d e=true->ltv e f=true->ltv d f=true
theorem tJ.asymm {S:Zb->Prop} (o:tJ S) {d e:Zb} (a:S d) (b:S e) (h:ltv d e=true):ltv e d=false:=by
 cases q:ltv e d with
 | false=>rfl
 | true=>
  have:=o.trans d e d a b a h q;rw[o.irr d a]at this;cases this
theorem tJ.neg {S:Zb->Prop} (o:tJ S) {a b c:Zb} (d:S a) (e:S b) (f:S c) (h:ltv a c=true):ltv a b=true\/ltv b c=true:=by
 cases q:ltv a b with
 | true=>exact .inl rfl
 | false=>
  cases q2:ltv b a with
  | true=>exact .inr (o.trans b a c e d f q2 h)
  | false=>
   have:=o.tot a b d e q q2;subst this;exact .inr h
structure NF (S:Zb->Prop) (L:List Zb->Prop):Prop where
 cmp:∀d e,L d->L e->cH d e=true
 eqv:∀d e,L d->L e->(Z3 d e=true↔d=e)
 irr:∀d,L d->aS d d=false
 tot:∀d e,L d->L e->aS d e=false->aS e d=false->d=e
 trans:∀d e f,L d->L e->L f->aS d e=true->aS e f=true->aS d f=true
theorem G6 {a b:Zb}{S:Zb->Prop} (o:tJ S):NF S (λl=>∀x∈l,S x) where
 cmp:=by
  intro d
  induction d with
  | nil=>intro e _ _;rw[cH]
  | cons x u p=>
   intro e i k;cases e with
   | nil=>rw[cH]
   | cons y n=>
    rw[gy]
    split
    ·exact p n (λz j=>i z (Sf _ j)) λz j=>k z (Sf _ j)
    ·exact o.cmp x y (i x Sk) (k y Sk)
 eqv:=by
  intro d
  induction d with
  | nil=>
   intro e _ _;cases e with
   | nil=>simp[Z3]
   | cons y n=>simp[Z3]
  | cons x u p=>
   intro e i k;cases e with
   | nil=>simp[Z3]
   | cons y n=>
    rw[Z3,S4,o.eqv x y (i x Sk) (k y Sk),p n (λz j=>i z (Sf _ j)) λz j=>k z (Sf _ j)];simp
 irr:=by
  intro d
  induction d with
  | nil=>intro _;rw[aS]
  | cons x u p=>
   intro i;rw[cs,Zj ((o.eqv x x (i x Sk) (i x Sk)).mpr rfl)];exact p λz j=>i z (Sf _ j)
 tot:=by
  intro d
  induction d with
  | nil=>
   intro e _ _ g c;cases e with
   | nil=>rfl
   | cons y n=>rw[aS]at g;cases g
  | cons x u p=>
   intro e i k g c;cases e with
   | nil=>rw[aS]at c;cases c
   | cons y n=>
    have h:=i x Sk;have m:=k y Sk;rw[cs]at g c;by_cases q:x=y
    ·subst q;rw[Zj ((o.eqv x x h h).mpr rfl)]at g c;rw[p n (λz j=>i z (Sf _ j)) (λz j=>k z (Sf _ j)) g c]
    ·rw[Zk (λz=>q ((o.eqv x y h m).mp z))]at g;rw[Zk (λz=>q ((o.eqv y x m h).mp z).symm)]at c;exact absurd (o.tot x y h m g c) q
 trans:=by
  intro d
  induction d with
  | nil=>
   intro e f _ _ _ g c;cases f with
   | nil=>cases e <;> (rw[aS]at c;cases c)
   | cons z v=>rw[aS]
  | cons x u p=>
   intro e f i k A g c;cases e with
   | nil=>rw[aS]at g;cases g
   | cons y n=>
    cases f with
    | nil=>rw[aS]at c;cases c
    | cons z v=>
     have h:=i x Sk;have m:=k y Sk;have t:=A z Sk;rw[cs]at g c ⊢;by_cases q:x=y
     ·subst q;rw[Zj ((o.eqv x x h h).mpr rfl)]at g;by_cases s:x=z
      ·subst s;rw[Zj ((o.eqv x x h h).mpr rfl)]at c ⊢;exact p n v (λw r=>i w (Sf _ r)) (λw r=>k w (Sf _ r)) (λw r=>A w (Sf _ r)) g c
      ·rw[Zk (λw=>s ((o.eqv x z h t).mp w))]at c ⊢;exact c
     ·rw[Zk (λw=>q ((o.eqv x y h m).mp w))]at g;by_cases s:y=z
      ·subst s;rw[Zk (λw=>q ((o.eqv x y h m).mp w))];exact g
      ·rw[Zk (λw=>s ((o.eqv y z m t).mp w))]at c;by_cases B:x=z
       ·subst B;have:=o.asymm h m g;rw[this]at c;cases c
       ·rw[Zk (λw=>B ((o.eqv x z h t).mp w))];exact o.trans x y z h m t g c
theorem AV {x y:Str} (h1:decide (x.cps.toList<y.cps.toList)=false) (h2:decide (y.cps.toList<x.cps.toList)=false):x=y:=by
 have e:x.cps.toList=y.cps.toList:=List.le_antisymm (by simpa using h2) (by simpa using h1);cases x;cases y;simp only[Str.mk.injEq];exact Uc.mp e
theorem Sh.ok:∀sh:Sh,tJ sh.has
 | .int=>by
  refine⟨?_,?_,?_,?_,?_⟩
  ·rintro _ _ ⟨i,rfl⟩ ⟨j,rfl⟩;rw[oz]
  ·rintro _ _ ⟨i,rfl⟩ ⟨j,rfl⟩;simp[Yd]
  ·rintro _ ⟨i,rfl⟩;rw[ltv];simp
  ·rintro _ _ ⟨i,rfl⟩ ⟨j,rfl⟩ c d;rw[ltv]at c d;have:i=j:=by simp at c d;lia
   rw[this]
  ·rintro _ _ _ ⟨i,rfl⟩ ⟨j,rfl⟩ ⟨k,rfl⟩ c d;rw[ltv]at c d ⊢;simp at c d ⊢;lia
 | .str=>by
  refine⟨?_,?_,?_,?_,?_⟩
  ·rintro _ _ ⟨i,rfl⟩ ⟨j,rfl⟩;rw[oz]
  ·rintro _ _ ⟨i,rfl⟩ ⟨j,rfl⟩;simp[Yd]
  ·rintro _ ⟨i,rfl⟩;rw[ltv];exact Zh (List.lt_irrefl _)
  ·rintro _ _ ⟨i,rfl⟩ ⟨j,rfl⟩ c d;rw[ltv]at c d;rw[AV c d]
  ·rintro _ _ _ ⟨i,rfl⟩ ⟨j,rfl⟩ ⟨k,rfl⟩ c d;rw[ltv]at c d ⊢;exact Zg (List.lt_trans (Zi c) (Zi d))
 | .list e=>by
  have L:=G6 (a:=.none) (b:=.none) (Sh.ok e);refine⟨?_,?_,?_,?_,?_⟩
  ·rintro _ _ ⟨i,rfl,n⟩ ⟨j,rfl,p⟩;rw[oz];exact L.cmp i j n p
  ·rintro _ _ ⟨i,rfl,n⟩ ⟨j,rfl,p⟩;rw[Yd,L.eqv i j n p];simp
  ·rintro _ ⟨i,rfl,n⟩;rw[ltv];exact L.irr i n
  ·rintro _ _ ⟨i,rfl,n⟩ ⟨j,rfl,p⟩ c d;rw[ltv]at c d;rw[L.tot i j n p c d]
  ·rintro _ _ _ ⟨i,rfl,n⟩ ⟨j,rfl,p⟩ ⟨k,rfl,C⟩ c d;rw[ltv]at c d ⊢;exact L.trans i j k n p C c d
 | .rn=>by
  refine⟨?_,?_,?_,?_,?_⟩
  ·rintro _ _ rfl rfl;rw[oz,cH]
  ·rintro _ _ rfl rfl;simp[Yd,Z3]
  ·rintro _ rfl;rw[ltv,aS]
  ·rintro _ _ rfl rfl _ _;rfl
  ·rintro _ _ _ rfl rfl rfl c d;rw[ltv,aS]at c;cases c
 | .cO a r=>by
  have h:=Sh.ok a;have or:=Sh.ok r;refine⟨?_,?_,?_,?_,?_⟩
  ·rintro _ _ ⟨x,u,rfl,f,g⟩ ⟨y,v,rfl,m,l⟩;have:=or.cmp _ _ g l;rw[oz]at this ⊢;rw[gy]
   split
   ·exact this
   ·exact h.cmp x y f m
  ·rintro _ _ ⟨x,u,rfl,f,g⟩ ⟨y,v,rfl,m,l⟩;have:=or.eqv _ _ g l;rw[Yd]at this ⊢;rw[Z3,S4,h.eqv x y f m,this];simp
  ·rintro _ ⟨x,u,rfl,f,g⟩;have:=or.irr _ g;rw[ltv]at this ⊢;rw[cs,Zj ((h.eqv x x f f).mpr rfl)];exact this
  ·rintro _ _ ⟨x,u,rfl,f,g⟩ ⟨y,v,rfl,m,l⟩ c d;have q:=or.tot _ _ g l;rw[ltv]at c d q;rw[ltv]at q;rw[cs]at c d;by_cases o:x=y
   ·subst o;rw[Zj ((h.eqv x x f f).mpr rfl)]at c d;have:=q c d;injection this with this;rw[this]
   ·rw[Zk (λw=>o ((h.eqv x y f m).mp w))]at c;rw[Zk (λw=>o ((h.eqv y x m f).mp w).symm)]at d;exact absurd (h.tot x y f m c d) o
  ·rintro _ _ _ ⟨x,u,rfl,f,g⟩ ⟨y,v,rfl,m,l⟩ ⟨z,_,rfl,t,A⟩ c d;have q:=or.trans _ _ _ g l A;rw[ltv,ltv,ltv]at q;rw[ltv]at c d ⊢;rw[cs]at c d ⊢;by_cases o:x=y
   ·subst o;rw[Zj ((h.eqv x x f f).mpr rfl)]at c;by_cases s:x=z
    ·subst s;rw[Zj ((h.eqv x x f f).mpr rfl)]at d ⊢;exact q c d
    ·rw[Zk (λw=>s ((h.eqv x z f t).mp w))]at d ⊢;exact d
   ·rw[Zk (λw=>o ((h.eqv x y f m).mp w))]at c;by_cases s:y=z
    ·subst s;rw[Zk (λw=>o ((h.eqv x y f m).mp w))];exact c
    ·rw[Zk (λw=>s ((h.eqv y z m t).mp w))]at d;by_cases B:x=z
     ·subst B;have:=h.asymm f m c;rw[this]at d;cases d
     ·rw[Zk (λw=>B ((h.eqv x z f t).mp w))];exact h.trans x y z f m t c d
theorem uI {S:Zb->Prop} (o:tJ S):∀{l l':List Zb},(∀x∈l,S x)->l.Perm l'->l.Pairwise (λa b=>ltv b a=false)->l'.Pairwise (λa b=>ltv b a=false)->l=l':=by
 intro l l' hS c d g;refine List.Perm.eq_of_pairwise (le:=λa b=>ltv b a=false) ?_ d g c;intro a b e f x y;exact o.tot a b (hS a e) (hS b (c.mem_iff.mpr f)) y x
inductive iw:Sh->Bool->Prop
 | int:iw .int true
 | str:iw .str true
 | rn:iw .rn false
 | cO (a r:Sh):iw (.cO a r) false
section
variable {X:Cx}{pins:List (Z6×Obj)}{σ:St}{H:Hp}{s:Vx}
theorem fV {xs:List V}{us:List Vy} (r:aR xs us) (i:Nat):RelV (xs.getD i .non) (us.getD i .none):=by
 rw[Sr,Sr];cases e:xs[i]? with
 | none=>rw[r.none_of e];rfl
 | some x=>
  obtain⟨u,b,a⟩:=r.get e;rw[b];exact a
theorem aE.Hr {K:Vz}{xs:List V}{ds:List Zb} (h:aE K H xs ds) (i:Nat) (hi:i<ds.length):Den K H (xs.getD i .non) (ds.getD i .none):=by
 have e:ds[i]? = some ds[i]:=by simp[hi]
 obtain⟨x,b,a⟩:=h.getD e;rw[Sr,Sr,b,e];exact a
theorem G0 {a r:Sh}:∀{ks:List V}{us:List Vy}{kds:List Zb},Inv X pins σ H s->aR ks us->aE X.K H ks kds->(∀d∈kds,(Sh.cO a r).has d) ->
  ∃fs:List Vy,KatTups s.heap us fs/\fs.length=us.length/\∀f∈fs,∃d as,a.has d/\Reads s.heap f d as
 | _,_,_,I,.nil,.nil,_=>⟨[],.nil,rfl,λ_ h=>by cases h⟩
 | _,_,_,I,.cons rv rr,.cons b ht,hs=>by
  obtain⟨fs,l,u,k⟩:=G0 I rr ht λd b=>hs d (Sf _ b);obtain⟨x,_,e,p,_⟩:=hs _ Sk;subst e;cases b with
  | tup w t=>
   cases rv;obtain⟨_,j,⟨o,v,c,n,m⟩,_⟩:=I.tuple w;cases t with
   | cons g _=>
    cases j with
    | @cons v0 u0 vs0 us0 r0 rr0=>
     obtain⟨as,q⟩:=I.reads g r0;refine⟨u0::fs,.cons v c m (by simp) l,by simp[u],λf i=>?_⟩;rcases Su.mp i with e | i
     ·subst e;exact⟨x,as,p,q⟩
     ·exact k f i
theorem yP {a:Sh}{b:Bool} (m:iw a b):∃T:Vy,(T == T)=true/\(T != Value.type "tuple")=b/\∀(M:Model) (h:Heap) (f:Vy) (d:Zb) (as:List Z6),a.has d->Reads h f d as->Looks M h (typeOf f) T:=by
 cases m with
 | int=>exact⟨.type "int",by decide,by decide,λM h f d as c r=>by obtain⟨i,rfl⟩:=c;cases r;exact .of_pure rfl⟩
 | str=>exact⟨.type "str",by decide,by decide,λM h f d as c r=>by obtain⟨i,rfl⟩:=c;cases r;exact .of_pure rfl⟩
 | rn=>exact⟨.type "tuple",by decide,by decide,λM h f d as c r=>by
   have e:d = .tuple []:=c;subst e;cases r with
   | tuple g j k l=>rw[<-j];exact(Looks.ld g).andThen .now⟩
 | cO a r=>exact⟨.type "tuple",by decide,by decide,λM h f d as c r=>by
   obtain⟨x,_,rfl,_,_⟩:=c;cases r with
   | tuple g j k l=>rw[<-j];exact(Looks.ld g).andThen .now⟩
theorem zK {a r:Sh}{b:Bool}{A:Z8} (L:iw a b) {ks:List V}{us:List Vy}{kds:List Zb} (I:Inv X pins σ H s) (E:aR ks us) (F:aE X.K H ks kds) (hs:∀d∈kds,(Sh.cO a r).has d) (xF:∀d∈kds,d.depth<=100)
  (h2:2<=us.length) (hu:A.units+101<cLine) {G:Array Nat->Vx->Prop}
  (h:∀p:Array Nat,p.toList.Perm (Y7 us.length)->(∀i j,i<=j->j<us.length->ltv (kds.getD (p.getD j 0) .none) (kds.getD (p.getD i 0) .none)=false)->G p s) :
  Zd (model X.prog X.w) A (keyKind' us.toArray) (λκ s'=>(kas_sort us.length).kasWp (kas_ask X.prog X.w A κ us) G s') (λ_ _=>False) s:=by
 obtain⟨_,t1,_,t3⟩:=G0 I E F hs;obtain⟨T,M,U,N⟩:=yP L;refine kat_kind t1 (by lia) (λf L=>?_) M ?_
 ·obtain⟨d,Z,x,y⟩:=t3 f L;exact N _ _ f d Z x y
 rw[U];have l1:us.length=kds.length:=by rw[<-E.length];exact F.length
 have o:=Sh.ok (.cO a r);have m:∀i,i<us.length->(Sh.cO a r).has (kds.getD i .none):=λi c=>by
  have e:kds[i]? = some kds[i]:=by simp[<-l1,c]
  (rw[Sr,e])
  exact hs _ (S7 _)
 have O:∀i,i<us.length->(kds.getD i .none).depth<=100:=λi c=>by
  have e:kds[i]? = some kds[i]:=by simp[<-l1,c]
  (rw[Sr,e])
  exact xF _ (S7 _)
 refine ya (n:=us.length) (lt:=λi j=>ltv (kds.getD i .none) (kds.getD j .none)) (P:=λs'=>s' = s) ⟨λi c=>o.irr _ (m i c),λi j k c B hk q=>o.neg (m i c) (m j B) (m k hk) q,λi j c B q=>o.asymm (m i c) (m j B) q⟩
  (λi j C s' c B e q=>?_) (by lia) rfl λp s' e hp up=>by subst e;exact h p hp up
 subst e;show Zd (model X.prog X.w) A (keyLt' (tuples' b) (us.getD i .none) (us.getD j .none)) C (λ_ _=>False) s';have v:=F.Hr i (by lia);have z:=F.Hr j (by lia);have Q:=fV E i;have S:=fV E j;have g:=m i c;have l:=m j B;have R:=O i c;have D:=q s' rfl;have J:=o.cmp _ _ g l;have u:=v.lay;have t:=z.lay;revert v z g l R D J u t;generalize kds.getD i .none=d;generalize kds.getD j .none=e;intro v z g l R D J u t;obtain⟨x,_,rfl,hx,_⟩:=g;obtain⟨y,_,rfl,hy,_⟩:=l;revert v z Q S;generalize ks.getD i .non=vi;generalize ks.getD j .non=vj;generalize us.getD i .none=ui;generalize us.getD j .none=uj;intro Q S v z;cases v with
 | tup qi ti=>
  cases z with
  | tup qj tj=>
   cases Q;cases S;obtain⟨_,rv,⟨_,ei,_,_,Y⟩,_⟩:=I.tuple qi;obtain⟨_,W,⟨oj,ej,cj,nj,dtj⟩,_⟩:=I.tuple qj;obtain⟨Z,ra⟩:=I.readsAll ti rv;obtain⟨_,rb⟩:=I.readsAll tj W;rw[ltv]at D;rw[oz]at J;rw[Yy]at R;refine Bs ei Y ej dtj (by simpa using ra) (by simpa using rb) u t J (λd0 e0 h1 h3 hb=>?_) (by lia) D;have e1:x=d0:=by simpa using h1
   have e2:y=e0:=by simpa using h3
   subst e1 e2;cases L with
   | int=>obtain⟨p,rfl⟩:=hx;obtain⟨q,rfl⟩:=hy;exact .inl ⟨p,q,rfl,rfl⟩
   | str=>obtain⟨p,rfl⟩:=hx;obtain⟨q,rfl⟩:=hy;exact .inr ⟨p,q,rfl,rfl⟩
   | rn=>cases hb
   | cO _ _=>cases hb
theorem Inv.adopt {h':Heap}{t':Nat}{wr:List Z6}{a:Z6}{o:HO} (I:Inv X pins σ H s) (g:∀b∈wr,b6 X pins H b) (l:a∈wr) (k:∀b o,b∉wr->s.heap.get? b=some o->h'.get? b=some o)
  (j:bW X.prog X.w (upd H a o) h' a o):Inv X pins σ (upd H a o) { s with heap:=h',toks:=t' }:=by
 have i:∀b u,H b=some u->b∉wr:=λb u e z=>by rw[(g b z).1]at e;cases e
 have d:H a=none:=(g a l).1;refine I.step (g':=s.gens) (d':=s.drawn) (ch:=wr) (λb h=>⟨(g b h).2.2.2.1,(g b h).2.1,(g b h).2.2.2.2.1,(g b h).2.2.2.2.2⟩) (λb o _ _ f e _=>k b o f e) (λb o _ _ f e _=>⟨o.slots,k b o f e⟩)
  (λb y f e n=>by rw[aq (show b≠a fromλz=>f (by rw[z];exact l))];exact n)
  (λb o f e=>⟨o,k b o f e⟩) (λb A e=>by rw[aq (aw e d)];exact e) (λb y u e=>by rw[aq (aw e d)];exact e) (λb _ e=>⟨#[],by rw[aq (aw e d),e];simp⟩) (λm t=>?_) (λb u e=>?_) I.bare
 ·obtain⟨o,B,p,x,r⟩:=t;exact⟨o,B,p,k _ o (λz=>(g _ z).2.1 rfl) x,r⟩
 ·by_cases h:b=a
  ·subst h;rw[ab]at e;cases e;exact j
  ·rw[aq h]at e;refine(I.hok b u e).wK (λc v f q=>k c v ?_ q) (λc q=>by rw[aq (aw q d)];exact q) λc A q=>by rw[aq (aw q d)];exact q
   rcases f with z | z
   ·rw[z];exact i b u e
   ·exact i c _ z
def picked (xs:List V) (p:List Nat):List V:=p.map λi=>xs.getD i .non
theorem lO {xs:List V}{us:List Vy} (r:aR xs us):∀p:List Nat,aR (picked xs p) (p.map λi=>us.getD i .none)
 | []=>.nil
 | i::p=>.cons (fV r i) (lO r p)
theorem nZ (xs:List V) (p:List Nat):(picked xs p).length=p.length:=by simp[picked]
theorem fh {α:Type} (us:List α) (d:α):(Y7 us.length).map (λi=>us.getD i d)=us:=by
 apply List.ext_getElem
 ·simp
 ·intro i h1 h2;simp[h2]
def fE (kds:List Zb) (p:List Nat):Prop:=(p.map λi=>kds.getD i .none).Pairwise λa b=>ltv b a=false
theorem yO {kds:List Zb}{p:Array Nat}{n:Nat} (e:p.toList.length=n) (h:∀i j,i<=j->j<n->ltv (kds.getD (p.getD j 0) .none) (kds.getD (p.getD i 0) .none)=false):fE kds p.toList:=by
 unfold fE
 (rw[Ud])
 intro i j c g _;simp only[List.getElem_map];have a:i<p.size:=by simpa using c
 have b:j<p.size:=by simpa using g
 have:=h i j (by lia) (by simp at e;lia);have f:p.getD i 0=p[i]:=by simp[Z0,a]
 have d:p.getD j 0=p[j]:=by simp[Z0,b]
 rw[f,d]at this;simpa using this
theorem qG {kds:List Zb}{n:Nat} (hn:n<2):fE kds (Y7 n):=by
 unfold fE
 match n,hn with
 | 0,_=>simp
 | 1,_=>simp
theorem qN {D:Z6}{f:Nat}{vs:List Vy} (I:Inv X pins σ H s) (h:s.heap.get? D=some (seqObj "list" vs.toArray f)) (i:b6 X pins H D) :
  ∃e1,(s.heap.update D (Y8 λ_=>(#[]:Array Vy))).get? D=some (seqObj "list" #[] e1) /\
   ∀h3,h3=((s.heap.update D (Y8 λ_=>(#[]:Array Vy))).push (seqObj "tuple" vs.toArray 0)).push (seqObj "list" #[] 0)->h3.get? D=some (seqObj "list" #[] e1)/\Inv X pins σ H { s with heap:=h3 }:=by
 have a:=get?_update_seq h λ_=>(#[]:Array Vy);have rest:=(Yi s.heap D (Y8 λ_=>(#[]:Array Vy))).2;generalize s.heap.update D (Y8 λ_=>(#[]:Array Vy))=h1 at a rest;refine⟨_,a,λh3 g=>?_⟩;have d:∀c o,h1.get? c=some o->h3.get? c=some o:=λc o e=>g ▸ Vu _ (Vu _ e);refine⟨d D _ a,I.du (t':=s.toks) (wr:=[D]) (λc b=>?_) λc o b e=>d c o ((rest c λz=>b (z ▸ Sg.mpr rfl)).trans e)⟩;rw[Sg.mp b];exact i
theorem yX {A:Z8}{D:Z6}{O:Nat}{xs:List V}{vs:List Vy}{ds:List Zb}{P:PySem.Fin->Vx->Prop}{E:Vy->Vx->Prop} (I:Inv X pins σ H s) (u:s.heap.get? D=some (seqObj "list" vs.toArray O)) (K:b6 X pins H D)
  (M:aR xs vs) (C:∀(s':Vx) (G:Array Nat->Vx->Prop),Inv X pins σ H s'->2<=vs.length->(∀p:Array Nat,p.toList.Perm (Y7 vs.length)->(∀i j,i<=j->j<vs.length->ltv (ds.getD (p.getD j 0) .none) (ds.getD (p.getD i 0) .none)=false)->G p s')->Zd (model X.prog X.w) A (keyKind' vs.toArray) (λκ s''=>(kas_sort vs.length).kasWp (kas_ask X.prog X.w A κ vs) G s'') (λ_ _=>False) s') (q:vs.length<64)
  (h:∀(p:List Nat) (h':Heap),p.Perm (Y7 xs.length)->fE ds p->Inv X pins σ (upd H D (.lst (picked xs p))) { s with heap:=h' }->P (.done (.ret .none)) { s with heap:=h' }) :
  Zd (model X.prog X.w) A (Builtin.«list.sort» ⟨[.ref D],[]⟩) P E s:=by
 have k:=M.length;obtain⟨_,t,z⟩:=qN I u K;rw[list_sort_plain];refine Vw (listItems_at u rfl (Vw (listUpdate_at u rfl (Vw (seqEpoch_at t rfl (Vw (wpAny_newTuple (Vw (wpAny_newList (Vs ?main) (Sy _))) ?short)))) ?few (Sy _))))
 case short=>show vs.length<=_;rw[sizeLine_eq];lia
 case few=>rw[Sn,sizeLine_eq];lia
 case main=>
 show Zd (model X.prog X.w) A _ P E { s with heap:=((s.heap.update D (Y8 λ_=>(#[]:Array Vy))).push (seqObj "tuple" vs.toArray 0)).push (seqObj "list" #[] 0) };generalize hh3:((s.heap.update D (Y8 λ_=>(#[]:Array Vy))).push (seqObj "tuple" vs.toArray 0)).push (seqObj "list" #[] 0)=h3;obtain⟨f,N⟩:=z h3 hh3.symm;have m:∀(p:List Nat) (b:Array Vy),p.Perm (Y7 xs.length)->fE ds p->b=YJ (p.map λi=>vs.getD i Value.none) ->
   P (.done (.ret .none)) { s with heap:=h3.update D (Y8 λ_=>b) }:=λp b l y Z=>by
  have U:=Yi h3 D (Y8 λ_=>b);obtain⟨F,J⟩:∃F,(h3.update D (Y8 λ_=>b)).get? D=some (seqObj "list" b F):=⟨_,get?_update_seq f λ_=>b⟩;have W:p.length=xs.length:=by rw[l.length_eq];simp
  refine h p _ l y (N.adopt (t':=s.toks) (wr:=[D]) (a:=D) (λc v=>by rw[show c=D by simpa using v];exact K) (by simp) (λc o v e=>(U.2 c (by simpa using v)).trans e) ?_);refine⟨by rw[nZ,W,sizeLine_eq];lia,p.map λi=>vs.getD i Value.none,F,lO M p,?_⟩;rw[J,Z]
 dsimp only;by_cases d:vs.toArray.size<2
 ·rw[Zj d,Zj d];refine Vw (Vv ?_);refine Vw ?_;show Zd _ _ ((pure ():StateT SortSt Sem Unit).run _) _ _ _;rw[StateT.run_pure];refine Vv ?_;dsimp only;refine Vw (seqEpoch_at f rfl ?_);have r:(arrOf (SortSt.mk' general' (vs.toArray.zip vs.toArray) #[] 7 none)).map (·.2)=vs.toArray:=by
   show(vs.toArray.zip vs.toArray).map (·.2)=vs.toArray
   apply Uc.mp;simp[List.map_snd_zip]
  rw[r];refine Vw (listUpdate_at f rfl ?_ (Sy _) (by show vs.toArray.size<=_;rw[Sn,sizeLine_eq];lia))
  (simp only[bne_self_eq_false,SQ,if_false])
  refine Vv (m (Y7 xs.length) _ (Z4 _) (qG (by rw[Sn]at d;lia)) ?_);rw[k,fh]
 ·rw[Zk d,Zk d];have L:2<=vs.length:=by rw[Sn]at d;lia
  refine Vw (Vt (C _ (λp s'=>s' = { s with heap:=h3 }/\p.toList.Perm (Y7 vs.length)/\fE ds p.toList) N L λp l up=>⟨rfl,l,yO (by rw[l.length_eq];simp) up⟩) (λκ _ Y=>?_) λ_ _ x=>x.elim);refine Vw (Vt (kat_run (Q:=λg s'=>∃p:Array Nat,arrOf g = p.map (kas_item (vs.toArray.zip vs.toArray))/\failedOf g = none/\s' = { s with heap:=h3 }/\p.toList.Perm (Y7 vs.length)/\fE ds p.toList)
   rfl L q (λS g s' _ T a3 R=>⟨S,T,a3,R⟩) Y) ?_ λ_ _ e=>e)
  rintro⟨⟨⟩,g⟩ s' ⟨p,n,B,rfl,l,y⟩;dsimp only;have r:=kat_snds rfl n;rw[r];refine Vw (seqEpoch_at f rfl ?_);refine Vw (listUpdate_at f rfl ?_ (Sy _) (by rw[Sn,R8,l.length_eq,TK,sizeLine_eq];lia));rw[B]
  (simp only[bne_self_eq_false,SQ,if_false])
  exact Vv (m p.toList _ (by rw[k];exact l) y rfl)
def je (h:Heap) (vs:List Vy):Heap:=(h.push (seqObj "list" #[] 0)).update h.objs.size (Y8 (· ++ vs.toArray))
theorem k7 (h:Heap) (vs:List Vy):(je h vs).objs.size=h.objs.size+1:=(Heap.size_update ..).trans (size_push' _ _)
theorem wm (h:Heap) (vs:List Vy):((je h vs).push (seqObj "list" vs.toArray 0)).get? (h.objs.size+1)=some (seqObj "list" vs.toArray 0):=by
 have q:((je h vs).push (seqObj "list" vs.toArray 0)).get? (je h vs).objs.size=some (seqObj "list" vs.toArray 0):=Y2 _ rfl
 rwa [k7]at q
theorem qx (h:Heap) (vs:List Vy):∀b o,h.get? b=some o->((je h vs).push (seqObj "list" vs.toArray 0)).get? b=some o:=λb o q=>
 Vu _ (((Yi (h.push (seqObj "list" #[] 0)) h.objs.size (Y8 (· ++ vs.toArray))).2 b (SD (Y3 q))).trans (Vu _ q))
def qC (sp:Sp):List V->List V->Hp->(List V->Hp->Prop)->Prop
 | [],ks,H,Q=>Q ks H
 | x::r,ks,H,Q=>sp [x] H (λk H'=>qC sp r (ks++[k]) H' Q) E0
theorem Bf {k:Nat}{f D kS:Z6}{fd:Z7}{ps:List Str}{sp:Sp}{oD:Obj}{xs:List V}{vs:List Vy}{L:List V->Hp->Prop}{e0:Nat}{h:Vy->PUnit->Sem (ForInStep PUnit)}{E:Vy->Vx->Prop}{R:PUnit->Vx->Prop}
  (F:aA X.prog X.w X.K X.mg X.base CX0 k f fd ps sp) (hr:bI (k+2) X.A) (hb:Binds X.K fd ps []) (O:D≠kS) (hD:∀v,oD.data ≠ .cell v)
  (jC:∀x (us:List Vy) e (s:Vx) (C:Vy->Vx->Prop),us.length<64->s.heap.get? kS=some (seqObj "list" us.toArray e)->Zd (model X.prog X.w) X.A.in1.in1 (call (.ref f) [x]) (λk s'=>∃(us':List Vy) (e':Nat),us'.length<64/\s'.heap.get? kS=some (seqObj "list" us'.toArray e')/\C k s') (λ_ _=>False) s ->
   Zd (model X.prog X.w) X.A.in1.in1 (h x ⟨⟩) (λr s'=>r = .yield ⟨⟩/\∃k s1,C k s1/\s' = { s1 with heap:=s1.heap.update kS (Y8 (·.push k)) }) E s)
  (hv:aR xs vs) (a3:vs.length<64) (I:Inv X pins σ H s) (fD:b6 X pins H D) (fK:b6 X pins H kS) (gD:s.heap.get? D=some oD) (gK:s.heap.get? kS=some (seqObj "list" ([]:List Vy).toArray e0)) (hk:qC sp xs [] H L)
  (t:∀s' H' ks us e,Inv X pins σ H' s'->b6 X pins H' D->b6 X pins H' kS->s'.heap.get? D=some oD->s'.heap.get? kS=some (seqObj "list" us.toArray e)->aR ks us->ks.length=xs.length->L ks H'->R ⟨⟩ s') :
  Zd (model X.prog X.w) X.A.in1.in1 (forIn vs PUnit.unit h) R E s:=by
 have a0:=hv.length;refine ksk_fold (λj s'=>∃H' ks us e,Inv X pins σ H' s'/\b6 X pins H' D/\b6 X pins H' kS/\s'.heap.get? D=some oD/\s'.heap.get? kS=some (seqObj "list" us.toArray e)/\aR ks us/\ks.length=j/\qC sp (xs.drop j) ks H' L) vs 0 s
  ⟨H,[],[],e0,I,fD,fK,gD,gK,.nil,rfl,hk⟩ (λj x s' hx ⟨H',ks,us,e,y,a,b,l,g,J,M,i⟩=>?_) λs' ⟨H',ks,us,e,y,a,b,l,g,J,M,i⟩=>?_
 ·rw[UR]at i M
  (have hj:j<vs.length:=(Tn.mp hx).1)
  have G:j<xs.length:=by lia
  have ex:xs[j]? = some xs[j]:=by simp[G]
  obtain⟨u,hu,ru⟩:=hv.get ex;rw[hx]at hu;cases hu;rw[SX G]at i;have hl:=J.length;have Ip:Inv X (pins++[(D,oD),(kS,seqObj "list" us.toArray e)]) σ H' s':=y.oF λp hp=>by
   (rcases Sz.mp hp with z | z)
   ·exact y.pin p (SO _ z)
   ·rcases Su.mp z with z | z
    ·subst z;exact⟨l,a.1,a.2.1,a.2.2.1,hD⟩
    ·have z':p=(kS,seqObj "list" us.toArray e):=by simpa using z
     subst z';exact⟨g,b.1,b.2.1,b.2.2.1,λv q=>by cases q⟩
  have Q:[x].length=ps.length:=F.len _ _ _ _ i;have U:=F.run X.A.in1.in1 X.stack s' H' ⟨[x],[]⟩ [x] [xs[j]] _ E0 (hr.in1.in1) (Ip.F2.in1.in1) (by have:=hb s' [x] y.kIn (by simpa using Q);simpa using this) (.cons ru .nil) i;refine Vt (jC x us e s' (λd s1=>∃v H1,Inv X (pins++[(D,oD),(kS,seqObj "list" us.toArray e)]) σ H1 s1/\RelV v d/\qC sp (xs.drop (j+1)) (ks++[v]) H1 L) (by lia) g (wpAny_call (codeAny_mono U λr s1 n=>?_))) (λr _ T=>?_) λ_ _ z=>z
  ·cases r with
   | error er=>exact n.elim
   | ok fl=>
    cases fl with
    | ret d=>
     obtain⟨v,H1,m,r1,P⟩:=Ip.after n;refine⟨us,e,by lia,(m.pin (kS,seqObj "list" us.toArray e) (by simp)).1,v,H1,m,r1,P⟩
    | next=>exact False.elim n
    | brk=>exact False.elim n
    | cont=>exact False.elim n
  ·obtain⟨er,d,s1,⟨v,H1,m,r1,P⟩,es⟩:=T;refine⟨er,?_⟩;subst es;have pD:=m.pin (D,oD) (by simp);have pK:=m.pin (kS,seqObj "list" us.toArray e) (by simp);have N:Inv X pins σ H1 s1:=m.il;have W:b6 X pins H1 D:=⟨pD.2.1,a.2⟩;have B:b6 X pins H1 kS:=⟨pK.2.1,b.2⟩;have sb:=Yi s1.heap kS (Y8 (·.push d))
   have ea:us.toArray.push d=(us++[d]).toArray:=by simp
   obtain⟨S,Y⟩:∃S,(s1.heap.update kS (Y8 (·.push d))).get? kS=some (seqObj "list" (us++[d]).toArray S):=⟨_,by rw[<-ea];exact get?_update_seq pK.1 (·.push d)⟩
   have I2:Inv X pins σ H1 { s1 with heap:=s1.heap.update kS (Y8 (·.push d)) }:=N.du (t':=s1.toks) (wr:=[kS]) (λc Z=>by rw[show c=kS by simpa using Z];exact B) λc o Z e=>(sb.2 c (by simpa using Z)).trans e
   refine⟨H1,ks++[v],us++[d],S,I2,W,B,(sb.2 D O).trans pD.1,Y,J.append (.cons r1 .nil),by simp[M],?_⟩;rw[UR];exact P
 ·rw[UR]at i M;rw[Tz (by lia)]at i;exact t s' H' ks us e y a b l g J (by lia) i
theorem uy {a r:Sh}{b:Bool}{k:Nat}{f D:Z6}{fd:Z7}{ps:List Str}{sp:Sp}{n0:Nat} (hf:iw a b) {xs:List V}{vs:List Vy}{P:PySem.Fin->Vx->Prop}{E:Vy->Vx->Prop}
  (F:aA X.prog X.w X.K X.mg X.base CX0 k f fd ps sp) (hr:bI (k+2) X.A) (hb:Binds X.K fd ps []) (I:Inv X pins σ H s) (T:s.heap.get? D=some (seqObj "list" vs.toArray n0)) (fD:b6 X pins H D)
  (hv:aR xs vs) (L:vs.length<64)
  {Qk:List V->Hp->Prop} (h:qC sp xs [] H Qk) (hQ:∀ks H1,Qk ks H1->∃kds,aE X.K H1 ks kds/\(∀d∈kds,(Sh.cO a r).has d)/\(∀d∈kds,d.depth<=100) /\
   ∀(p:List Nat) (s':Vx),p.Perm (Y7 xs.length)->fE kds p->H1 D=none->Inv X pins σ (upd H1 D (.lst (picked xs p))) s'->P (.done (.ret .none)) s') :
  Zd (model X.prog X.w) X.A.in1.in1 (ksk_tree D (.ref f) false) P E s:=by
 have hu:X.A.in1.in1.units+101<cLine:=by show X.A.units+1+1+101<cLine;have:=hr.un;lia
 have m:=hv.length;obtain⟨U,a0,a5⟩:=qN I T fD;unfold ksk_tree;refine Vw (listItems_at T rfl (Vw (listUpdate_at T rfl (Vw (seqEpoch_at a0 rfl (Vw (wpAny_newTuple (Vw (wpAny_newList (Vs ?main) (Sy _))) ?short)))) ?few (Sy _))))
 case short=>show vs.length<=_;rw[sizeLine_eq];lia
 case few=>rw[Sn,sizeLine_eq];lia
 case main=>
 show Zd (model X.prog X.w) X.A.in1.in1 (ksk_rest D (.ref f) false vs.toArray U (.ref ((s.heap.update D (Y8 λ_=>(#[]:Array Vy))).push (seqObj "tuple" vs.toArray 0)).objs.size)) P E { s with heap:=((s.heap.update D (Y8 λ_=>(#[]:Array Vy))).push (seqObj "tuple" vs.toArray 0)).push (seqObj "list" #[] 0) };have O:((s.heap.update D (Y8 λ_=>(#[]:Array Vy))).push (seqObj "tuple" vs.toArray 0)).objs.size=s.heap.objs.size+1:=by rw[size_push',Heap.size_update]
 have gK:(((s.heap.update D (Y8 λ_=>(#[]:Array Vy))).push (seqObj "tuple" vs.toArray 0)).push (seqObj "list" #[] 0)).get? (s.heap.objs.size+1)=some (seqObj "list" ([]:List Vy).toArray 0):=by
  (rw[<-O];exact Y2 _ rfl)
 rw[O];generalize hh3:((s.heap.update D (Y8 λ_=>(#[]:Array Vy))).push (seqObj "tuple" vs.toArray 0)).push (seqObj "list" #[] 0)=h3 at gK;obtain⟨Z,I3⟩:=a5 h3 hh3.symm;have Qw:D<s.heap.objs.size:=Y3 T;have B:D≠s.heap.objs.size+1:=SD (UJ Qw);have fK:b6 X pins H (s.heap.objs.size+1):=I.o8 (TB _) (I.hok.fresh (TB _));generalize s.heap.objs.size+1=kS at *;unfold ksk_rest;refine Vw (wpAny_rule ?_)
 first | rw[List.forIn_toArray] | (rw[<-UI];simp only[List.toList_toArray])
 refine Vw (Bf (R:=λ_ s'=>Zd (model X.prog X.w) X.A.in1.in1 (Builtin.List.listItems (.ref kS) >>= λJ=>ksk_end D false vs.toArray U (.ref kS) J) P E s') F hr hb B (λv z=>by cases z) (λx us e s' C _ _ hx=>?_) hv L I3 fD fK Z gK h λs' _ ks us e I' y a7 ab M rk _ qk=>?_)
 ·refine Vw (wpAny_attempt (Vt hx (λkv a9 S=>?_) λ_ _ hF=>hF.elim));obtain⟨_,_,_,a6,c⟩:=S
  try dsimp only
  refine Vw (listUpdate_at a6 rfl ?_ (by rw[Sn,sizeLine_eq];lia) (Sl (UT (UA ..)) (by rw[Sn,sizeLine_eq];lia)));exact Vv ⟨rfl,kv,a9,c,rfl⟩
 ·obtain⟨kds,hd,hs,xF,q⟩:=hQ _ _ qk;refine Vw (listItems_at M rfl ?_);have l:us.length=vs.length:=by rw[<-rk.length];lia
  have MG:∀(W:SortSt) (p:List Nat),(arrOf W).map (·.2)=YJ (p.map λi=>vs.getD i Value.none)->failedOf W=none->p.Perm (Y7 xs.length)->fE kds p->Zd (model X.prog X.w) X.A.in1.in1 (ksk_tail D false U (.ref kS) W) P E s':=λW p kP n u iq=>by
   have sk:=Yi s'.heap kS (Y8 λ_=>(#[]:Array Vy));have t:(s'.heap.update kS (Y8 λ_=>(#[]:Array Vy))).get? D=some (seqObj "list" #[] U):=(sk.2 D B).trans ab;have pl:p.length=xs.length:=by rw[u.length_eq];simp
   unfold ksk_tail
   try dsimp only
   rw[kP];refine Vw (listUpdate_at M rfl ?_ (by rw[Sn,sizeLine_eq];lia) (Sy _));refine Vw (wpAny_letGo ?_);refine Vw (seqEpoch_at t rfl ?_);refine Vw (listUpdate_at t rfl ?_ (Sy _) (by simp only[SQ,if_false];rw[Sn,R8,pl,sizeLine_eq];lia));rw[n]
   (simp only[bne_self_eq_false,SQ,if_false])
   refine Vv ?_;have sd:=Yi (s'.heap.update kS (Y8 λ_=>(#[]:Array Vy))) D (Y8 λ_=>YJ (p.map λi=>vs.getD i Value.none));obtain⟨c2,aa⟩:∃c2,((s'.heap.update kS (Y8 λ_=>(#[]:Array Vy))).update D (Y8 λ_=>YJ (p.map λi=>vs.getD i Value.none))).get? D=some (seqObj "list" (YJ (p.map λi=>vs.getD i Value.none)) c2):=⟨_,get?_update_seq t λ_=>YJ (p.map λi=>vs.getD i Value.none)⟩;refine q p _ u iq y.1 (I'.adopt (t':=s'.toks) (wr:=[D,kS]) (a:=D) (λc Y=>?_) (by simp) (λc o Y e=>?_) ⟨by rw[nZ,pl,sizeLine_eq];lia,p.map λi=>vs.getD i Value.none,c2,lO hv p,aa⟩)
   ·rcases Su.mp Y with z | z
    ·rw[z];exact y
    ·rw[show c=kS by simpa using z];exact a7
   ·exact(sd.2 c (λz=>Y (by simp[z]))).trans ((sk.2 c (λz=>Y (by simp[z]))).trans e)
  unfold ksk_end
  try dsimp only
  (simp only[SQ,if_false])
  by_cases g:vs.toArray.size<2
  ·rw[Zj g,Zj g];refine Vw (Vv ?_);refine Vw ?_;show Zd _ _ ((pure ():StateT SortSt Sem Unit).run _) _ _ _;rw[StateT.run_pure];refine Vv ?_;dsimp only;refine MG _ (Y7 xs.length) ?_ rfl (Z4 _) (qG (by rw[Sn]at g;lia));show(us.toArray.zip vs.toArray).map (·.2)=_
   rw[m,fh];apply Uc.mp;simp[List.map_snd_zip,l]
  ·rw[Zk g,Zk g];have h2:2<=us.length:=by rw[Sn]at g;lia
   refine Vw (Vt (zK (A:=X.A.in1.in1) (G:=λp N=>N=s'/\p.toList.Perm (Y7 us.length)/\fE kds p.toList) hf I' rk hd hs xF h2 hu λp u up=>⟨rfl,u,yO (by rw[u.length_eq];simp) up⟩) (λ_ _ S=>?_) λ_ _ x=>x.elim);rw[l]at S;refine Vw (Vt (kat_run (ks:=us) (vs:=vs) (Q:=λj N=>∃p:Array Nat,arrOf j = p.map (kas_item (us.toArray.zip vs.toArray))/\failedOf j = none/\N=s'/\p.toList.Perm (Y7 vs.length)/\fE kds p.toList)
    l (by lia) L (λp' j N _ a2 a3 a4=>⟨p',a2,a3,a4⟩) S) ?_ λ_ _ e=>e)
   rintro⟨⟨⟩,j⟩ N ⟨p,a8,n,rfl,u,iq⟩;dsimp only;exact MG j p.toList (kat_snds l a8) n (by rw[m];exact u) iq
def FN (K:Vz) (a r:Sh) (sp:Sp):V->Hp->VK->Prop:=λx H Q=>∃l xs,x = .ref l/\SqL K H l xs/\xs.length<64/\qC sp xs [] H λks H1=>
 ∃kds,aE K H1 ks kds/\(∀d∈kds,(Sh.cO a r).has d)/\(∀d∈kds,d.depth<=100)/\∀(D:Z6) (p:List Nat),H1 D=none->p.Perm (Y7 xs.length)->fE kds p->Q (.ref D) (upd H1 D (.lst (picked xs p)))
theorem AX {a r:Sh}{b:Bool}{k:Nat}{f:Z6}{fd:Z7}{ps:List Str}{sp:Sp}{x:V}{u:Vy}{Q:VK} (z:iw a b) (F:aA X.prog X.w X.K X.mg X.base CX0 k f fd ps sp) (J:bI (k+2) X.A) (C:Binds X.K fd ps []) (I:Inv X pins σ H s) (y:RelV x u) (h:FN X.K a r sp x H Q) :
  Zd (model X.prog X.w) X.A (call (.builtin "sorted") [u] [(Yo "key",.ref f)]) (EP X pins σ Q) X.xe s:=by
 obtain⟨l,_,rfl,E,_,q⟩:=h;cases y;obtain⟨c,r,B,_⟩:=I.list E;have n:=r.length;refine call_function_entry_kw kind_sorted plain_sorted entry_sorted (ksk_s1 _ _) ?_;unfold Builtin.«sorted»
 (refine Vw (m:=checkCount "sorted" 1 1 _) (Vv ?_))
 refine Vw (collect_list B.isList ?_ (by rw[sizeLine_eq];lia))
 (refine Vw (wpAny_newList ?_ (by rw[sizeLine_eq];lia)))
 have g:=k7 s.heap c;have e:=wm s.heap c;have d:=qx s.heap c;show Zd _ _ _ _ _ { s with heap:=(je s.heap c).push (seqObj "list" c.toArray 0) };show Zd _ _ (_ >>= λ_=>_) _ _ { s with heap:=(je s.heap c).push (seqObj "list" c.toArray 0) };rw[show((s.heap.push (seqObj "list" #[] 0)).update s.heap.objs.size (Y8 (· ++ c.toArray))).objs.size=s.heap.objs.size+1 from g]
 generalize(je s.heap c).push (seqObj "list" c.toArray 0)=h2 at e d ⊢;have O:Inv X pins σ H { s with heap:=h2 }:=I.kept (t':=s.toks) d;have i:H (s.heap.objs.size+1)=none:=I.hok.fresh (TB _);have v:b6 X pins H (s.heap.objs.size+1):=I.o8 (TB _) i;refine Vw (Vs (wpAny_call_entry_kw slot_list_sort ⟨_,e,rfl⟩ entry_list_sort ?body (ksk_l1 _ _)))
 case body=>
  show Zd (model X.prog X.w) X.A.in1.in1 (Builtin.«list.sort» ⟨[.ref (s.heap.objs.size+1)],[(Yo "key",.ref f)]⟩) _ _ _;rw[ksk_t1];refine uy (s:={ s with heap:=h2 }) z F J C O e v r (by lia) q λ_ _ ⟨j,t,D,L,N⟩=>⟨j,t,D,L,λp _ M P G o=>?_⟩;refine⟨_,rfl,Vv ⟨_,rfl,?_⟩⟩;exact⟨.ref _,_,o,rfl,N _ p G M P⟩
def KP (K:Vz) (a r:Sh) (sp:Sp) (ta:TA):TE:=λσ H Q=>ta σ H λvs H1=>∃x,vs=[x]/\FN K a r sp x H1 Q
theorem Gp {a r:Sh}{b:Bool}{k:Nat}{f:Z6}{fd:Z7}{ps:List Str}{sp:Sp}{e:Expr}{ta:TA}{y:Str}{p g pos i:Pos} (C:iw a b) (F:aA X.prog X.w X.K X.mg X.base CX0 k f fd ps sp) (L:bI (k+2) X.A) (E:Binds X.K fd ps [])
  (z:Gl X "sorted") (v:X.mg "sorted" = none) (d:Gl X y) (j:X.mg y=some (.ref f)) (J:PA X [e] ta) (l:(y == ("__debug__" : Str))=false:=by decide)
  (B:backTo pos (Ze [e] X.env)=(false,eval e X.env)::backTo pos (Ze [] X.env):=by rfl) (o:(backTo pos (Ze [e] X.env)).any (·.1)=false:=by rfl)
  (t:(backToKw pos (keywordEach [⟨some "key",.Name y g,i⟩] X.env)).all (·.1.isSome)=true:=by rfl) (m:(backToKw pos (keywordEach [⟨some "key",.Name y g,i⟩] X.env)).any (·.1.isNone)=false:=by rfl) :
  PE X (.Call (.Name "sorted" p) [e] [⟨some "key",.Name y g,i⟩] pos) (KP X.K a r sp ta):=by
 intro c s G H Q I h;refine wpAny_Call_Name_kw (eN I z v boot_sorted ?_);refine callWith_kw (thn (J pos c s G H _ I h) λ_ _ ⟨_,_,n,N,M⟩=>?_) B o t m;obtain⟨x,rfl,q⟩:=M;obtain⟨u,rfl,D⟩:=N.one;refine kws_cons (md n d j (kws_nil ?_) l);exact AX C F L E n D q
end
section
open PySem.SeqAt
open PySem.AutoSeq1 (wpAny_loadPart')
open PySem.MeetsSeq PySem.MeetsSeq2 PySem.MeetsSeq3
theorem index_loop {prog:Z9}{w:Za}{A:Z8}{E:Vy->Vx->Prop}{s:Vx}{items:Array Vy}{x:Vy}{e:Nat->Bool}{j:Nat} (v:j<items.size) (f:e j=true) (g:∀m,m<j->e m=false) (p:∀i (h:i<items.size),EqAt A s items[i] x (e i))
  {a:Nat->Option PySem.Fin×PUnit->Sem (ForInStep (Option PySem.Fin×PUnit))} (t:∀i u,a i u=(match items[i]? with
   | some y=>do
    let c <-eqBool y x
    if c=true then do
     let r <-retInt i
     pure (ForInStep.done (some r,⟨⟩))
    else pure (ForInStep.yield (none,⟨⟩))
   | _=>pure (ForInStep.yield (none,⟨⟩)))) {Q:Option PySem.Fin×PUnit->Vx->Prop} (q:Q (some (.done (.ret (.int j s.toks))),⟨⟩) { s with toks:=s.toks+1 }) :
  ∀(k i:Nat) (u:Option PySem.Fin×PUnit),i<=j->k=items.size - i->Zd (model prog w) A (forIn (List.range' i k 1) u a) Q E s:=by
 intro k
 induction k with
 | zero=>intro i u l o;lia
 | succ k n=>
  intro i u l o;rw[List.range'_succ,Uk,t]
  (have b:i<items.size:=by lia)
  have d:items[i]? = some items[i]:=by simp[b]
  rw[d];refine Vw (Vw (p i b prog w _ _ ?_));cases hei:e i with
  | true=>
   have:i=j:=by
    by_cases z:i<j
    ·rw[g i z]at hei;cases hei
    ·lia
   subst this;rw[Zj rfl];refine Vw ?_;show Zd _ _ (retInt (i:Int)) _ _ s;unfold retInt
   (refine Vw (wpAny_mkInt ?_))
   (exact Vv (Vv (Vv q)))
  | false=>
   have:i≠j:=λz=>by rw[z,f]at hei;cases hei
   rw[Zk Ss];refine Vv ?_;exact n (i+1) _ (by lia) (by lia)
end
section
variable {X:Cx}
def Gz (K:Vz):V->List V->Hp->VK->Prop:=λx vs H Q=>∃p xs y j,x = .ref p/\vs=[y]/\SqT K H p xs/\iB y=true/\xs.all iB=true/\j<xs.length/\eqV (xs.getD j .non) y=true/\(∀m,m<j->eqV (xs.getD m .non) y=false)/\Q (.int j) H
theorem GO:MtR X "tuple.index" (Gz X.K):=by
 intro _ s _ H x _ v _ Q I t E h;obtain⟨p,a,y,j,rfl,rfl,M,O,D,_,B,N,q⟩:=h;cases t;obtain⟨u,rfl,G⟩:=E.one;obtain⟨its,r,⟨⟨_,_,_,_⟩,o,c,n,d⟩,_⟩:=I.tuple M;simp only at c d;subst c d;have L:=r.length;have g:∀i (f:i<its.toArray.size) (A:Z8),SeqAt.EqAt A s its.toArray[i] u (eqV (a.getD i .non) y):=λi f A=>by
  have b:i<its.length:=by simpa using f
  have m:a[i]? = some a[i]:=by simp[L,b]
  obtain⟨w,C,k⟩:=r.get m;have J:its.toArray[i]=w:=by
   have:its[i]? = some its[i]:=by simp[b]
   rw[C]at this;simpa using(Ye this).symm
  have z:a.getD i .non=a[i]:=by rw[Sr,m];rfl
  rw[J,z];exact Fo k G (SJ.mp D _ (S7 _)) O
 refine wpAny_call_entry F.slot_tuple_index ⟨_,o,rfl⟩ F.entry_tuple_index ?_ (F.args_tuple_index_2 _ _);show Zd _ _ (Builtin.Tuple.tupleItemsOf (.ref p) >>= _) _ _ s;refine Vw ?_
 (unfold Builtin.Tuple.tupleItemsOf)
 refine Vw (wpAny_seqItems o rfl (Vv ?_));show Zd _ _ (forIn [0:min its.toArray.size its.toArray.size] ((none:Option PySem.Fin),PUnit.unit) _ >>= _) _ _ s;rw[Std.Legacy.Range.forIn_eq_forIn_range'];have l:([0:min its.toArray.size its.toArray.size]:Std.Legacy.Range).size=its.toArray.size:=by simp[Std.Legacy.Range.size]
 rw[l];refine Vw (index_loop (items:=its.toArray) (x:=u) (e:=λi=>eqV (a.getD i .non) y) (j:=j) (by rw[Sn];lia) B N (λi f=>g i f _) (λi u=>?_) ?_ _ 0 _ (Sy _) rfl)
 ·rfl
 ·refine Vv ⟨_,rfl,?_⟩;exact⟨.int j,H,I.tok _,⟨_,rfl⟩,q⟩
def LH (K:Vz):List V->Hp->VK->Prop:=λvs H Q=>∃x n t b,vs=[x,.ty n]/\ql K H x t/\kitOne K t (.type n)=some b/\Q (.bl b) H
theorem yp:gQ X (.builtin "isinstance") (LH X.K):=by
 intro _ s _ H _ _ Q I c h;obtain⟨x,n,t,b,rfl,f,e,q⟩:=h;obtain⟨u,a,rfl,g,d⟩:=vals2 c;obtain rfl:a = Value.type n:=d;exact DM I g f e λ_=>⟨.bl b,H,I.tok _,rfl,q⟩
end
end L2
namespace L2
open PySem PySem.Spec PyProof.Rows
structure bz (K:Vz) (mg:Str->Option Vy) (x:Str) (st:Stmt) (ps:List Str) (f:Z6) (fd:Z7):Prop where
 fn:Fun K x x st f fd
 bd:Binds K fd ps []
 mg:mg x=some (.ref f)
theorem af.new {H:Hp}{p:Z6}{o:HO} (h:H p=none):af H (upd H p o):=λb u e=>by rw[aq (aw e h)];exact e
def CN (D:Z6) (Pv:List V->St->Hp->Prop):St->Hp->Prop:=λσ H=>∃acc,H D=some (.lst acc)/\Pv acc σ H
section
variable {K:Vz}{g:TG}{tt:TT}{te:TE}{D:Z6}{Q:VK}{σ:St}{H:Hp}
theorem kX {J:It} (n:Nat) (a:Nat->List V->St->Hp->Prop) (j:H D=some (.lst [])) (k:a 0 [] σ H)
  (f:∀i acc σ H,i<n->H D=some (.lst acc)->a i acc σ H->J.go i H) (l:∀acc σ H,H D=some (.lst acc)->a n acc σ H->J.stop n H)
  (o:∀i acc σ H x H',i<n->H D=some (.lst acc)->a i acc σ H->J.yld i H x H'->g x σ H' λσ2 H2=>tt σ2 H2 λb H3=>if b=true then te σ2 H3 λv H4=>∃ys,H4 D=some (.lst ys)/\ys.length<Zc/\CN D (a (i+1)) σ2 (upd H4 D (.lst (ys++[v])))else CN D (a (i+1)) σ2 H3)
  (h:∀acc σ H,H D=some (.lst acc)->a n acc σ H->Q (.ref D) H):pJ g tt te J D Q σ H:=by
 refine⟨λi m σ H=>m=n - i/\i<=n/\CN D (a i) σ H,⟨n,by simp,Sy _,[],j,k⟩,?_⟩;rintro i m σ H ⟨rfl,_,acc,d,p⟩;by_cases c:i<n
 ·exact .inr ⟨f i acc σ H c d p,CN D (a (i+1)),λσ' H' p'=>⟨n - (i+1),by lia,rfl,c,p'⟩,λx H' y=>o i acc σ H x H' c d p y⟩
 ·have e:i=n:=by lia
  subst e;exact .inl ⟨l acc σ H d p,h acc σ H d p⟩
theorem aK {a:Z6}{xs:List V} (c:Nat->List V->St->Hp->Prop) (m:H D=some (.lst [])) (k:c 0 [] σ H) (h:∀i acc σ H,i<=xs.length->H D=some (.lst acc)->c i acc σ H->SqL K H a xs)
  (j:∀i x acc σ H,xs[i]? = some x->H D=some (.lst acc)->c i acc σ H->g x σ H λσ2 H2=>tt σ2 H2 λb H3=>if b=true then te σ2 H3 λv H4=>∃ys,H4 D=some (.lst ys)/\ys.length<Zc/\CN D (c (i+1)) σ2 (upd H4 D (.lst (ys++[v])))else CN D (c (i+1)) σ2 H3)
  (l:∀acc σ H,H D=some (.lst acc)->c xs.length acc σ H->Q (.ref D) H):pJ g tt te (Itl K a) D Q σ H:=by
 refine kX xs.length c m k (λi acc σ H f d p=>⟨xs,xs[i],h i acc σ H (TF f) d p,by simp[f]⟩) (λacc σ H d p=>⟨xs,h _ acc σ H (Sb _) d p,Sb _⟩) (λi acc σ H x _ f d p y=>?_) l;obtain⟨e,y⟩:=y;subst e;exact j i x acc σ _ (y xs (h i acc σ _ (TF f) d p)) d p
theorem eQ {lo:Int}{n:Nat} (a:Nat->List V->St->Hp->Prop) (k:H D=some (.lst [])) (h:a 0 [] σ H)
  (f:∀i acc σ H,i<n->H D=some (.lst acc)->a i acc σ H->g (.int (lo+i)) σ H λσ2 H2=>tt σ2 H2 λb H3=>if b=true then te σ2 H3 λv H4=>∃ys,H4 D=some (.lst ys)/\ys.length<Zc/\CN D (a (i+1)) σ2 (upd H4 D (.lst (ys++[v])))else CN D (a (i+1)) σ2 H3)
  (j:∀acc σ H,H D=some (.lst acc)->a n acc σ H->Q (.ref D) H):pJ g tt te (Itr lo n) D Q σ H:=by
 refine kX n a k h (λi acc σ H d c p=>d) (λacc σ H c p=>Sb _) (λi acc σ H x _ d c p y=>?_) j;obtain⟨e,y⟩:=y;subst e y;exact f i acc σ _ d c p
theorem Gw {z:Str} (a:Nat->List V->St->Hp->Prop) (m:H D=some (.lst [])) (j:a 0 [] σ H)
  (h:∀i c acc σ H,z.cps[i]? = some c->H D=some (.lst acc)->a i acc σ H->g (.str ⟨#[c]⟩) σ H λσ2 H2=>tt σ2 H2 λb H3=>if b=true then te σ2 H3 λv H4=>∃ys,H4 D=some (.lst ys)/\ys.length<Zc/\CN D (a (i+1)) σ2 (upd H4 D (.lst (ys++[v])))else CN D (a (i+1)) σ2 H3)
  (l:∀acc σ H,H D=some (.lst acc)->a z.length acc σ H->Q (.ref D) H):pJ g tt te (Its z) D Q σ H:=by
 refine kX z.length a m j (λi acc σ H f d p=>f) (λacc σ H d p=>Sb _) (λi acc σ H x _ f d p y=>?_) l;obtain⟨e,c,k,y⟩:=y;subst e y;exact h i c acc σ _ k d p
theorem DQ {a:Z6}{xs:List V} (c:Nat->List V->St->Hp->Prop) (k:H D=some (.lst [])) (l:c 0 [] σ H) (h:∀i acc σ H,i<=xs.length->H D=some (.lst acc)->c i acc σ H->SqL K H a xs)
  (n:∀i x acc σ H p,xs[i]? = some x->H D=some (.lst acc)->c i acc σ H->H p=none->g (.ref p) σ (upd H p (.tup [.int i,x])) λσ2 H2=>tt σ2 H2 λb H3=>if b=true then te σ2 H3 λv H4=>∃ys,H4 D=some (.lst ys)/\ys.length<Zc/\CN D (c (i+1)) σ2 (upd H4 D (.lst (ys++[v])))else CN D (c (i+1)) σ2 H3)
  (j:∀acc σ H,H D=some (.lst acc)->c xs.length acc σ H->Q (.ref D) H):pJ g tt te (Ite K a) D Q σ H:=by
 refine kX xs.length c k l (λi acc σ H f d p=>⟨xs,xs[i],h i acc σ H (TF f) d p,by simp[f]⟩) (λacc σ H d p=>⟨xs,h _ acc σ H (Sb _) d p,Sb _⟩) (λi acc σ H x _ f d p y=>?_) j;obtain⟨q,v,r,m,e,o⟩:=y;subst e o;exact n i v acc σ _ q (m xs (h i acc σ _ (TF f) d p)) d p r
end
theorem qa {K:Vz}{sp:Sp}{g:List V->Hp->Prop}{H0:Hp}:∀(xs:List V) (kds:List Zb) (ks:List V) (dks:List Zb) (H:Hp),xs.length=kds.length->af H0 H->aE K H ks dks ->
  (∀(i:Nat) (x:V) (d:Zb) (H:Hp) (Q:VK),xs[i]? = some x->kds[i]? = some d->af H0 H->(∀r H',af H H'->Den K H' r d->Q r H')->sp [x] H Q E0)->(∀ks' H',af H0 H'->aE K H' ks' (dks++kds)->g ks' H')->qC sp xs ks H g
 | [],[],ks,dks,H,_,hs,hd,_,hq=>hq ks H hs (by simpa using hd)
 | x::xs,d::kds,ks,dks,H,hl,hs,hd,hsp,hq=>by
  refine hsp 0 x d H _ rfl rfl hs λr H' f dr=>?_;refine qa xs kds (ks++[r]) (dks++[d]) H' (by simpa using hl) (hs.trans f) ((hd.same f).append (.cons dr .nil)) (λi y e c Q a b=>hsp (i+1) y e c Q (by simpa using a) (by simpa using b)) λks' c a b=>hq ks' c a (by simpa using b)
def K3 (sc osc:Scope) (N N':List Str) (n:Nat) (fi:List Nat):Bool:=
 decide (sc.kind = .function) && decide (∀y∈sc.names,y.2 = .local->sc.names.lookup y.1=some .local)
 && decide (∀y∈sc.names,y.2 = .free->osc.names.lookup y.1=some .cell\/osc.names.lookup y.1=some .free)
 && decide (N'.length=n+fi.length)
 && (Y7 fi.length).all λj=>match fi[j]? with
  | some k=>match N'[n+j]? with
   | some x=>decide (N[k]? = some x) && decide (sc.names.lookup x=some .free) && decide ((x,NameKind.cell)∉sc.names)
   | none=>false
  | none=>false
theorem aY {X:Cx}{d:Scope}{N':List Str}{n:Nat}{fi:List Nat} (osc:Scope) (N:List Str) (h:K3 d osc N N' n fi=true) (o:X.env.scope=osc:=by rfl) (m:X.N=N:=by rfl):k6 X d N' n fi:=by
 subst o m;simp only[K3,S4,decide_eq_true_eq]at h;obtain⟨⟨⟨⟨i,p⟩,g⟩,l⟩,f⟩:=h;refine⟨i,p,g,l,λj k b=>?_⟩;have c:j<fi.length:=by
  rcases Tc j fi.length with q | q
  ·exact q
  ·rw[S9 q]at b;cases b
 have a:=SJ.mp f j (S5.mpr c);rw[b]at a;dsimp only at a;cases e:N'[n+j]? with
 | none=>rw[e]at a;cases a
 | some x=>
  rw[e]at a;simp only[S4,decide_eq_true_eq]at a;exact⟨x,rfl,a.1.1,a.1.2,a.2⟩
def lim (H H':Hp):Hp:=λb=>match H b with | some (.lst _)=>none | _=>H' b
def wo (D:Z6) (H:Hp):Hp:=λb=>if b=D then none else H b
section
variable {H H' H1 H2 H3:Hp}{D E p b:Z6}{o u:HO}{xs ys:List V}
theorem bK (h:∀zs,H b≠some (.lst zs)):lim H H' b=H' b:=by
 unfold lim
 split
 ·rename_i zs e;exact(h zs e).elim
 ·rfl
theorem g7 (h:H p=none):lim H H' p=H' p:=bK λzs e=>by rw[h]at e;cases e
theorem dA:af (lim H H') H':=λb o e=>by
 unfold lim at e
 split at e
 ·cases e
 ·exact e
theorem iY (h:lim H H' b=some o):∀zs,H b≠some (.lst zs):=λzs e=>by
 simp only[lim,e]at h;cases h
theorem cZ (h:af H1 H2):af (lim H H1) (lim H H2):=λb o e=>by
 rw[bK (iY e)];exact h b o (dA b o e)
def LL (H H':Hp):Prop:=∀b ys,H b=some (.lst ys)->∃zs,H' b=some (.lst zs)
theorem af.ll (h:af H H'):LL H H':=λb ys e=>⟨ys,h b _ e⟩
theorem fu (h:LL H H1):af (lim H1 H2) (lim H H2):=λb o e=>by
 rw[bK]
 ·exact dA b o e
 ·intro zs q;obtain⟨z2,q2⟩:=h b zs q;exact iY e z2 q2
theorem au (h:b≠D):wo D H b=H b:=by simp[wo,h]
theorem eJ:wo D H D=none:=by simp[wo]
theorem aZ (h:wo D H b=some o):b≠D/\H b=some o:=by
 unfold wo at h
 split at h
 ·cases h
 ·rename_i q;exact⟨q,h⟩
theorem bc:af (wo D H) H:=λb o e=>(aZ e).2
theorem jF (h:af H1 H2):af (wo D H1) (wo D H2):=λb o e=>by
 rw[au (aZ e).1];exact h b o (aZ e).2
theorem A9:wo D (upd H D o)=wo D H:=by
 funext b
 by_cases e:b=D
 ·subst e;rw[eJ,eJ]
 ·rw[au e,au e,aq e]
theorem As:af (wo D H) (upd H D o):=λb u e=>by rw[aq (aZ e).1];exact(aZ e).2
theorem bG (h:af (wo D H1) H2) (g:af (wo D H2) H3):af (wo D H1) H3:=λb o e=>g b o (by rw[au (aZ e).1];exact h b o e)
theorem Kr (h:H D=some (.lst ys)):af (lim H H') (wo D H'):=λb o e=>by
 have hb:b≠D:=λq=>by subst q;exact iY e _ h
 rw[au hb];exact dA b o e
theorem oV (h:H D=some (.lst ys)):lim H (upd H' D o)=lim H H':=by
 funext b
 by_cases e:b=D
 ·subst e;simp only[lim,h]
 ·unfold lim;rw[aq e]
theorem gm (h:H D=none) (s:af H H'):af H (wo D H'):=λb o e=>by
 rw[au (aw e h)];exact s b o e
theorem EQ (s:af H H') (h:H' D=some (.lst ys)):LL (upd H D o) H':=λb zs e=>by
 by_cases q:b=D
 ·subst q;exact⟨ys,h⟩
 ·rw[aq q]at e;exact⟨zs,s b _ e⟩
theorem aG {α:Type}{xs:List α}{i:Nat}{x:α} (h:xs[i]? = some x):i<xs.length:=by
 rcases Tc i xs.length with q | q
 ·exact q
 ·rw[S9 q]at h;cases h
theorem dO {α β:Type}{xs:List α}{i:Nat}{x:α} (h:xs[i]? = some x) (f:α->β):(xs.take (i+1)).map f=(xs.take i).map f++[f x]:=by
 rw[SG,h];simp
theorem ax (h:H D=none) (s:af H H'):af H (upd H' D o):=λb u e=>by
 rw[aq (aw e h)];exact s b u e
end
theorem cq {i:Nat}{x:V}{σ:St}{H:Hp}{F G:St->Hp->Prop} (h:F (σ.set i (some x)) H):aN i x σ H λσ2 H2=>KR σ2 H2 λb H3=>if b=true then F σ2 H3 else G σ2 H3:=by
 show(if true=true then F (σ.set i (some x)) H else G (σ.set i (some x)) H);rw[Zj rfl];exact h
theorem small {n:Nat} (h:n<10000000):n<Zc:=by rw[sizeLine_eq];exact SN h (by decide)
end L2
namespace L2
open PySem PySem.Spec PyProof.Rows PySem.Builtin PySem.Builtin.Str
theorem SqT.lim {K:Vz}{H H0 H':Hp}{a:Z6}{xs:List V} (c:af H H0) (b:af H H') (h:SqT K H a xs):SqT K (L2.lim H0 H') a xs:=by
 rcases h with(h | ⟨o,h⟩) | h
 ·exact .inl (.inl (by rw[bK λzs e=>by rw[c _ _ h]at e;cases e];exact b _ _ h))
 ·exact .inl (.inr ⟨o,by rw[bK λzs e=>by rw[c _ _ h]at e;cases e];exact b _ _ h⟩)
 ·exact .inr h
def oX (K:Vz):List V->Hp->VK->Prop:=λxs H Q=>∃p ys,xs=[.ref p]/\(SqL K H p ys\/SqT K H p ys)/\∀l,H l=none->Q (.ref l) (upd H l (.lst ys))
theorem j7 {X:Cx}:gQ X (.type "list") (oX X.K):=xU
theorem ku:bootBuiltins "list" = some (.type "list"):=by decide +kernel
theorem p5:bootBuiltins "sorted" = some (.builtin "sorted"):=by decide +kernel
theorem eX {n:Nat}:∀(l:List Zb),(∀d∈l,d.depth<=n)->Y6 l<=n
 | [],_=>Sy _
 | d::r,h=>by
  have c:=h d (Sk ..);have b:=eX r λe a=>h e (Sf _ a);unfold Y6;exact Nat.max_le.mpr ⟨c,b⟩
theorem IF {z:Str}{i c:Nat} (hz:Y1 z=true) (h:z.cps[i]? = some c):Y1 ⟨#[c]⟩=true:=by
 unfold Y1 at hz ⊢;rw[UN]at hz;have a:i<z.cps.size:=by
  rcases Tc i z.cps.size with q | q
  ·exact q
  ·rw[TN q]at h;cases h
 have b:=hz i a;rw[SY a]at h;cases h;simpa using b
theorem mx {z:Str} (h:∀c∈z.cps,c<1114112):Y1 z=true:=by
 unfold Y1;rw[UN];intro i hi;simpa using h _ (Array.getElem_mem hi)
theorem ib {z:Str} (h:Y1 z=true):∀c∈z.cps,c<1114112:=by
 unfold Y1 at h;intro c hc;obtain⟨i,hi,rfl⟩:=Array.mem_iff_getElem.mp hc;rw[UN]at h;simpa using h i hi
theorem G2 {z:Str}{l u:Option Int} (hz:Y1 z=true):Y1 (YN z l u)=true/\(YN z l u).length<=z.length:=by
 unfold YN
 split
 ·exact⟨hz,Sb _⟩
 ·constructor
  ·refine mx λc a=>?_;simp only[List.mem_toArray,UD]at a;obtain⟨i,_,e⟩:=a;refine ib hz c ?_;exact Array.mem_of_getElem? e
  ·show(YJ _).size<=z.cps.size;simp only[Sn];exact Sl (List.length_filterMap_le _ _) (sliceIndices_le l u _)
theorem DD {z:Str}{a b:Nat} (hz:Y1 z=true):Y1 (strSub z a b)=true/\(strSub z a b).length<=z.length:=by
 unfold strSub;constructor
 ·refine mx λc d=>?_;refine ib hz c ?_;obtain⟨i,_,rfl⟩:=Array.mem_iff_getElem.mp d;simp only[Array.getElem_extract];exact Array.getElem_mem _
 ·show(Array.extract _ _ _).size<=z.cps.size;rw[UG];lia
theorem uq {z y:Str} (hz:Y1 z=true):∀x∈Y4 z y,Y1 x=true/\x.length<=z.length:=by
 intro x a;have b:x∈[z]->Y1 x=true/\x.length<=z.length:=λh=>by
  simp only[Sg]at h;subst h;exact⟨hz,Sb _⟩
 unfold Y4 at a
 split at a
 ·exact b a
 ·split at a
  ·exact b a
  ·unfold partsBetween at a;simp only[Si]at a;obtain⟨p,_,rfl⟩:=a;exact DD hz
theorem tE {z y:Str}:1<=(Y4 z y).length/\(Y4 z y).length<=z.length+2:=by
 have a:=StrLaws.occ_length_le z y 0 z.length (z.length+1);unfold Y4
 split
 ·simp
 ·split
  ·simp
  ·rw[length_partsBetween];lia
theorem C0 {y:Str} (b:Y1 y=true):∀(xs:List Str) (acc:Array Nat),(∀x∈xs,Y1 x=true)->(∀c∈acc,c<1114112)->∀c∈xs.foldl (λacc p=>acc++y.cps++p.cps) acc,c<1114112
 | [],acc,_,h=>h
 | x::r,acc,hx,h=>by
  refine C0 b r _ (λz d=>hx z (Sf _ d)) λc a=>?_;rcases Uv.mp a with a | a
  ·rcases Uv.mp a with a | a
   ·exact h c a
   ·exact ib b c a
  ·exact ib (hx x (Sk ..)) c a
theorem zF {y:Str}{m:Nat}:∀(xs:List Str) (acc:Array Nat),(∀x∈xs,x.length<=m)->(xs.foldl (λacc p=>acc++y.cps++p.cps) acc).size<=acc.size+xs.length * (m+y.length)
 | [],acc,_=>by simp
 | x::r,acc,hx=>by
  have b:=zF (y:=y) r (acc++y.cps++x.cps) λz a=>hx z (Sf _ a);have e:x.cps.size<=m:=hx x (Sk ..);have c:(acc++y.cps++x.cps).size=acc.size+y.cps.size+x.cps.size:=by simp;lia
  have d:y.length=y.cps.size:=rfl;simp only[List.foldl_cons,SE,Nat.add_mul,Nat.one_mul]at b ⊢;lia
theorem Cs {y:Str}{m:Nat} (f:Y1 y=true) {xs:List Str} (h:∀x∈xs,Y1 x=true/\x.length<=m):Y1 (YG y xs)=true/\(YG y xs).length<=xs.length * (m+y.length):=by
 cases xs with
 | nil=>exact⟨by show Y1 Yh=true;decide +kernel,Sy _⟩
 | cons x r=>
  have c:=h x (Sk ..);have d:∀z∈r,Y1 z=true/\z.length<=m:=λz a=>h z (Sf _ a);refine⟨mx (C0 f r x.cps (λz a=>(d z a).1) (ib c.1)),?_⟩;have e:=zF (y:=y) (m:=m) r x.cps λz a=>(d z a).2;have g:x.cps.size<=m:=c.2;show(List.foldl (λ(b:Array Nat) (p:Str)=>b++y.cps++p.cps) x.cps r).size<=(x::r).length * (m+y.length);simp only[SE,Nat.add_mul,Nat.one_mul]at e ⊢;lia
theorem Fv {m:Nat}:∀{xs:List Str},(∀x∈xs,x.length<=m)->(xs.map (·.length)).sum<=xs.length * m
 | [],_=>by simp
 | x::r,h=>by
  have b:=Fv λz a=>h z (Sf x a);have c:=h x (Sk ..);simp only[Sv,S2,SE,Nat.add_mul,Nat.one_mul]at b ⊢;lia
theorem pX {y:Str}{m:Nat}{xs:List Str} (h:∀x∈xs,x.length<=m) (hb:xs.length * m+xs.length * y.length<=16777216):JoinOk y xs=true:=by
 have h1:=Fv h;exact joinOk_of (by lia)
section
variable {K:Vz}{tt:TT}{D:Z6}{Q:VK}{H:Hp}
theorem mi {K:Vz}{H:Hp}:∀{l:List Str},(∀x∈l,Y1 x=true)->aE K H (l.map V.str) (l.map PyData.str)
 | [],_=>.nil
 | x::r,h=>.cons (.str (h x (Sk ..))) (mi λy hy=>h y (Sf _ hy))
end
end L2
namespace L2
open PySem PySem.Spec PyProof.Rows
def Itz (K:Vz) (a b:Z6):It:=
 ⟨λi H=>∃xs ys x y,SqL K H a xs/\SqL K H b ys/\xs[i]? = some x/\ys[i]? = some y,
   λi H x H'=>∃p u v,H p=none/\(∀xs,SqL K H a xs->xs[i]? = some u)/\(∀ys,SqL K H b ys->ys[i]? = some v)/\x = .ref p/\H' = upd H p (.tup [u,v]),
   λi H=>∃xs ys,SqL K H a xs/\SqL K H b ys/\(xs.length<=i\/ys.length<=i)⟩
theorem FY {P:Z9}{w:Za}{K:Vz}{Bm:List Expr}{k:Nat}{pos:Pos} (a b z TI TO i1 i2:Z6) (D:ZipApart z TI TO i1 i2 a b) :
  Turn P w K (.Tuple Bm k pos) (Itz K a b) [z,TI,TO,i1,i2] z (λi h=>IsZip h z TI TO .none/\IsPair h TI (.ref i1) (.ref i2)/\(∃u v,IsPair h TO u v)/\h.IsListIter i1 a i/\h.IsListIter i2 b i) where
 mem:=by simp
 obj:=λi h n c M=>by
  obtain⟨A,f,⟨u,v,j⟩,⟨o1,e1,_,g1⟩,⟨o2,e2,_,g2⟩⟩:=n;simp only[Su,Ts,or_false]at M;rcases M with rfl | rfl | rfl | rfl | rfl
  ·exact⟨_,A,λv q=>by cases q⟩
  ·exact⟨_,f,λv q=>by cases q⟩
  ·exact⟨_,j,λv q=>by cases q⟩
  ·exact⟨o1,e1,λv q=>by rw[g1]at q;cases q⟩
  ·exact⟨o2,e2,λv q=>by rw[g2]at q;cases q⟩
 keep:=λi h h' n m=>by
  obtain⟨A,f,⟨u,v,j⟩,F,L⟩:=n;exact⟨m z (by simp) _ A,m TI (by simp) _ f,⟨u,v,m TO (by simp) _ j⟩,F.at λo e=>m i1 (by simp) o e,L.at λo e=>m i2 (by simp) o e⟩
 item:=by
  intro X hP Q hK M i t s σ H E I O n hg;subst hP Q hK;obtain⟨xs,ys,x,y,N,r,G,hy⟩:=hg;obtain⟨V,U,p,_⟩:=I.list N;obtain⟨T,B,Z,_⟩:=I.list r;obtain⟨u,hu,ru⟩:=U.get G;obtain⟨v,hv,R⟩:=B.get hy;obtain⟨A,f,⟨u0,v0,j⟩,F,L⟩:=n;have l:∀{b:Z6}{o:Obj},s.heap.get? b=some o->b<s.heap.objs.size:=λe=>Y3 e;have Y:=l A;have RZ:=l f;have RK:=l j;have aa:i1<s.heap.objs.size:=by obtain⟨_,e,_⟩:=F;exact l e
  have a8:i2<s.heap.objs.size:=by obtain⟨_,e,_⟩:=L;exact l e
  refine wpAny_pyNext_zip_item D A f j F L p.isList Z.isList (x:=u) (y:=v) (by simpa using hu) (by simpa using hv) λh' a1 a2 a3 a4 a5 _ m=>?_;refine⟨_,rfl,?_⟩;refine wpAny_letOwnedTupleGo_zip a1 λg a0 J=>?_;have W:H s.heap.objs.size=none:=I.hok.fresh (Sb _);have a7:g.get? s.heap.objs.size=some { cls:=.type "tuple",data:=.seq #[u,v] }:=(J.2 _ (T9 Y)).trans a5;have I2:Inv X t σ (upd H s.heap.objs.size (.tup [x,y])) { s with heap:=g }:=I.mz (t':=s.toks) (wr:=[z,TI,TO,i1,i2]) O (λc o d ec=>by
    have n1:c≠z:=λq=>d (by simp[q]);have n2:c≠TO:=λq=>d (by simp[q]);have n3:c≠i1:=λq=>d (by simp[q]);have n4:c≠i2:=λq=>d (by simp[q]);exact(J.2 c n1).trans (m c o n1 n2 n3 n4 ec)) (Sb _) ⟨by show 2<=Zc;decide,[u,v],.cons ru (.cons R .nil),⟨_,a7,rfl,_,rfl⟩⟩
  refine⟨.ref s.heap.objs.size,_,I2,rfl,⟨_,x,y,W,λzs C=>by rw[I.n5 C N];exact G,λzs C=>by rw[I.n5 C r];exact hy,rfl,rfl⟩,⟨a0,?_,⟨u,v,?_⟩,?_,?_⟩,λc d=>?_⟩
  ·exact(J.2 _ D.TIz).trans (m _ _ D.TIz D.TITO D.TIi1 D.TIi2 f)
  ·exact(J.2 _ D.TOz).trans a2
  ·exact a3.at λo e=>(J.2 _ D.i1z).trans e
  ·exact a4.at λo e=>(J.2 _ D.i2z).trans e
  ·have S:c≠s.heap.objs.size:=by
    simp only[Su,Ts,or_false]at d;rcases d with rfl | rfl | rfl | rfl | rfl <;> exact SD (by assumption)
   rw[aq S];exact(O c d).1
 done:=by
  intro X hP Q hK M i t s σ H E I O n hg;subst hP Q hK;obtain⟨xs,ys,N,r,G⟩:=hg;obtain⟨V,U,p,_⟩:=I.list N;obtain⟨T,B,Z,_⟩:=I.list r;have hl:=U.length;have a9:=B.length;obtain⟨A,f,⟨u0,v0,j⟩,F,L⟩:=n;refine wpAny_pyNext_zip_end (I.ok.hd M) D A f j F L p.isList Z.isList ?_ λh' m=>⟨rfl,I.du (t':=s.toks) (wr:=[z,TI,TO,i1,i2]) O λc o d e=>m c o (λq=>d (by simp[q])) (λq=>d (by simp[q])) (λq=>d (by simp[q])) (λq=>d (by simp[q])) e⟩;rcases G with G | G
  ·exact .inl (by simp;lia)
  ·exact .inr (by simp;lia)
 self:=λ_ _ _ _ _ n h=>wpAny_pyIter_zip n.1 h
section
variable {X:Cx}
def Pb (K:Vz) (ta:TA):TI:=λσ H R=>ta σ H λvs H1=>∃a b,vs=[.ref a,.ref b]/\(∃xs,SqL K H1 a xs)/\(∃ys,SqL K H1 b ys)/\R (Itz K a b) H1
theorem sQ {C:List Expr}{k:Nat}{FR:Pos}{a b:Expr}{ta:TA}{p pos:Pos} (x:Gl X "zip") (v:X.mg "zip" = none) (J:PA X [a,b] ta) (E:Ze [a,b] X.env=(false,eval a X.env)::Ze [b] X.env:=by rfl) (j:(backTo pos (Ze [b] X.env)).any (·.1)=false:=by rfl):PI X (.Tuple C k FR) (.Call (.Name "zip" p) [a,b] [] pos) (Pb X.K ta):=by
 intro f s F H R I h;refine Call_ (eN I x v boot_zip (Ym (thn (J pos f s F H _ I h) λ_ s1 ⟨_,A,g,n,L⟩=>?_) E j));obtain⟨a,b,e,⟨_,G⟩,⟨_,o⟩,q⟩:=L;subst e;obtain⟨_,_,rfl,n,y⟩:=vals2 n;cases n;cases y;obtain⟨_,_,t,_⟩:=g.list G;obtain⟨_,_,d,_⟩:=g.list o;have N : @LT.lt Nat _ a s1.heap.objs.size:=by obtain⟨_,e,_⟩:=t.isList;exact Y3 e
 have M : @LT.lt Nat _ b s1.heap.objs.size:=by obtain⟨_,e,_⟩:=d.isList;exact Y3 e
 refine call_zip_2 t.isList d.isList λ_ r l m w B _ z=>wpAny_pyIter_zip r ?_;have D:ZipApart (s1.heap.objs.size+4) (s1.heap.objs.size+2) (s1.heap.objs.size+3) s1.heap.objs.size (s1.heap.objs.size+1) a b:=by constructor <;> (show((_:Nat)≠_)) <;> lia
 refine⟨s1.heap.objs.size+4,[s1.heap.objs.size+4,s1.heap.objs.size+2,s1.heap.objs.size+3,s1.heap.objs.size,s1.heap.objs.size+1],_,_,A,rfl,g.kept (t':=s1.toks) z,FY a b _ _ _ _ _ D,⟨r,l,⟨_,_,m⟩,w,B⟩,λc u=>?_,q⟩;have i:s1.heap.objs.size<=c:=by
  simp only[Su,Ts,or_false]at u;rcases u with rfl | rfl | rfl | rfl | rfl <;> first | exact Sb _ | exact Nat.le_add_right _ _
 exact g.o8 i (g.hok.fresh i)
end
section
variable {K:Vz}{g:TG}{tt:TT}{te:TE}{D:Z6}{Q:VK}{σ:St}{H:Hp}
theorem ua {a b:Z6}{xs ys:List V} (c:Nat->List V->St->Hp->Prop) (m:H D=some (.lst [])) (r:c 0 [] σ H) (j:∀i acc σ H,H D=some (.lst acc)->c i acc σ H->SqL K H a xs/\SqL K H b ys)
  (w:∀i x y acc σ H p,xs[i]? = some x->ys[i]? = some y->H D=some (.lst acc)->c i acc σ H->H p=none->g (.ref p) σ (upd H p (.tup [x,y])) λσ2 H2=>tt σ2 H2 λb H3=>if b=true then te σ2 H3 λv H4=>∃ys,H4 D=some (.lst ys)/\ys.length<Zc/\CN D (c (i+1)) σ2 (upd H4 D (.lst (ys++[v])))else CN D (c (i+1)) σ2 H3)
  (l:∀acc σ H,H D=some (.lst acc)->c (min xs.length ys.length) acc σ H->Q (.ref D) H):pJ g tt te (Itz K a b) D Q σ H:=by
 refine kX (min xs.length ys.length) c m r (λi acc σ H o d p=>?_) (λacc σ H d p=>?_) (λi acc σ H x _ o d p y=>?_) l
 ·obtain⟨f,h⟩:=j i acc σ H d p;have k:i<xs.length:=by lia
  have s:i<ys.length:=by lia
  exact⟨xs,ys,xs[i],ys[i],f,h,by simp[k],by simp[s]⟩
 ·obtain⟨f,h⟩:=j _ acc σ H d p;exact⟨xs,ys,f,h,by lia⟩
 ·obtain⟨q,u,v,A,n,t,e,z⟩:=y;subst e z;obtain⟨f,h⟩:=j i acc σ H d p;exact w i u v acc σ _ q (n xs f) (t ys h) d p A
theorem C3 {a b:Z6}{xs ys:List V}{tb:TS}{D:Ends} (c:Nat->St->Hp->Prop) (o:c 0 σ H) (z:∀i σ H,c i σ H->SqL K H a xs/\SqL K H b ys)
  (t:∀i x y σ H p,xs[i]? = some x->ys[i]? = some y->c i σ H->H p=none->g (.ref p) σ (upd H p (.tup [x,y])) λσ2 H2=>tb { D with nx:=c (i+1),ct:=c (i+1),bk:=D.nx } σ2 H2) (k:∀σ H,c (min xs.length ys.length) σ H->D.nx σ H) :
  ∃W:Nat->Nat->St->Hp->Prop,(∃m,W 0 m σ H)/\∀i m σ H,W i m σ H ->
   ((Itz K a b).stop i H/\D.nx σ H)\/((Itz K a b).go i H/\∃N:St->Hp->Prop,(∀σ' H',N σ' H'->∃m',m' < m/\W (i+1) m' σ' H')/\∀x H',(Itz K a b).yld i H x H'->g x σ H' λσ2 H2=>tb { D with nx:=N,ct:=N,bk:=D.nx } σ2 H2):=by
 refine⟨λi m σ H=>m=min xs.length ys.length - i/\i<=min xs.length ys.length/\c i σ H,⟨_,rfl,Sy _,o⟩,?_⟩;rintro i m σ H ⟨rfl,_,p⟩;obtain⟨d,f⟩:=z i σ H p;by_cases h:i<min xs.length ys.length
 ·have j:i<xs.length:=by lia
  have r:i<ys.length:=by lia
  refine .inr ⟨⟨xs,ys,xs[i],ys[i],d,f,by simp[j],by simp[r]⟩,c (i+1),λσ' H' l=>⟨min xs.length ys.length - (i+1),by lia,rfl,h,l⟩,λx H' y=>?_⟩;obtain⟨q,u,v,A,n,s,e,w⟩:=y;subst e w;exact t i u v σ _ q (n xs d) (s ys f) p A
 ·have e:i=min xs.length ys.length:=by lia
  subst e;exact .inl ⟨⟨xs,ys,d,f,by lia⟩,k σ H p⟩
end
section
variable {X:Cx}
def Ik:V->List V->Hp->VK->Prop:=λx vs H Q=>∃z y,x = .str z/\vs=[.str y]/\z.length<=Zc/\Q (.str (YY z y)) H
theorem Dz:MtR X "str.strip" Ik:=by
 intro _ s _ H x _ v _ Q I a d h;obtain⟨z,y,rfl,rfl,b,q⟩:=h;obtain⟨t,rfl⟩:=a;obtain⟨u,rfl,c,rfl⟩:=d.one;exact SC.stripChars (λc k=>⟨.str _,H,I.tok _,⟨_,rfl⟩,q⟩) b
def LB:V->List V->Hp->VK->Prop:=λx vs H Q=>∃z y,x = .str z/\vs=[.str y]/\z.length<=Zc/\Q (.str (Txt.removeprefix z y)) H
theorem FK:MtR X "str.removeprefix" LB:=by
 intro _ s _ H x _ v _ Q I a d h;obtain⟨z,y,rfl,rfl,b,q⟩:=h;obtain⟨t,rfl⟩:=a;obtain⟨u,rfl,c,rfl⟩:=d.one;exact SC.removeprefix (λc k=>⟨.str _,H,I.tok _,⟨_,rfl⟩,q⟩) b
theorem nX:∀{bs:List Bool}{us:List Vy},aR (bs.map V.bl) us->us=bs.map Value.bool
 | [],_,h=>by cases h;rfl
 | b::r,_,h=>by
  cases h with
  | cons h1 t=>
   obtain rfl:=h1;rw[nX t];rfl
theorem range_all (bs:List Bool):(Y7 bs.length).all (λi=>bs.getD i true)=bs.all id:=by
 (rw[SR,SJ,SJ])
 constructor
 ·intro h x c;obtain⟨i,b,rfl⟩:=Uw.mp c
  (have:=h i (S5.mpr b))
  simpa[YD,R9 b]using this
 ·intro h i b
  (have a:=S5.mp b)
  have:=h bs[i] (S7 a);simpa[YD,R9 a]using this
theorem range_any (bs:List Bool):(Y7 bs.length).any (λi=>bs.getD i true)=bs.any id:=by
 (rw[SR,Tj,Tj])
 constructor
 ·rintro⟨i,b,h⟩
  (have a:=S5.mp b)
  refine⟨bs[i],S7 a,?_⟩;simpa[YD,R9 a]using h
 ·rintro⟨x,c,h⟩;obtain⟨i,b,rfl⟩:=Uw.mp c;exact⟨i,S5.mpr b,by simpa[YD,R9 b]using h⟩
def EH (K:Vz):List V->Hp->VK->Prop:=λxs H Q=>∃(p:Z6) (bs:List Bool),xs=[.ref p]/\SqL K H p (bs.map V.bl)/\Q (.bl (bs.all id)) H
def OK (K:Vz):List V->Hp->VK->Prop:=λxs H Q=>∃(p:Z6) (bs:List Bool),xs=[.ref p]/\SqL K H p (bs.map V.bl)/\Q (.bl (bs.any id)) H
theorem qz {P:Z9}{w:Za}{A:Z8} (bs:List Bool):TruthOf P w A (λi v=>(bs.map Value.bool).toArray[i]? = some v) (λi=>bs.getD i true):=by
 intro i v s Q E f d;have a:(bs.map Value.bool)[i]? = some v:=by simpa using f
 rw[Se]at a;cases e:bs[i]? with
 | none=>rw[e]at a;cases a
 | some b=>
  rw[e]at a;cases a;refine wpAny_truthy_bool ?_;have:bs.getD i true=b:=by simp[YD,e]
  have c:Q (bs.getD i true) s:=d
  rwa [this]at c
theorem lB (j:X.calm=true):gQ X (.builtin "all") (EH X.K):=by
 intro _ s _ H _ _ Q I r h;obtain⟨p,bs,rfl,k,q⟩:=h;obtain⟨u,rfl,f⟩:=vals1 r;cases f;obtain⟨_,l,a,_⟩:=I.list k;have e:=nX l;subst e;have m:p≠s.heap.objs.size:=by obtain⟨_,e,_⟩:=a.isList;exact SD (Y3 e)
 refine call_all_walk (wpAny_pyIter_list a.isList ?_);refine⟨s.heap.objs.size,_,_,_,_,_,_,rfl,Walks.list (A:=X.A.in1) (show X.A.in1.handled=none from I.ok.hd j) s.heap.objs.size p m (bs.map Value.bool).toArray,⟨⟨_,Y2 _ rfl,rfl,rfl⟩,a.isList.push _⟩,qz bs,λ_ d g=>?_⟩;have i:(bs.map Value.bool).toArray.size=bs.length:=by simp
 rw[i,range_all];refine⟨.bl _,H,I.kept (t':=d) λb o e=>g b o (λc=>?_) (Vu _ e),rfl,q⟩;simp only[Sg]at c;exact absurd (Y3 e) (by rw[c];exact Tf _)
theorem ET (j:X.calm=true):gQ X (.builtin "any") (OK X.K):=by
 intro _ s _ H _ _ Q I r h;obtain⟨p,bs,rfl,k,q⟩:=h;obtain⟨u,rfl,f⟩:=vals1 r;cases f;obtain⟨_,l,a,_⟩:=I.list k;have e:=nX l;subst e;have m:p≠s.heap.objs.size:=by obtain⟨_,e,_⟩:=a.isList;exact SD (Y3 e)
 refine call_any_walk (wpAny_pyIter_list a.isList ?_);refine⟨s.heap.objs.size,_,_,_,_,_,_,rfl,Walks.list (A:=X.A.in1) (show X.A.in1.handled=none from I.ok.hd j) s.heap.objs.size p m (bs.map Value.bool).toArray,⟨⟨_,Y2 _ rfl,rfl,rfl⟩,a.isList.push _⟩,qz bs,λ_ d g=>?_⟩;have i:(bs.map Value.bool).toArray.size=bs.length:=by simp
 rw[i,range_any];refine⟨.bl _,H,I.kept (t':=d) λb o e=>g b o (λc=>?_) (Vu _ e),rfl,q⟩;simp only[Sg]at c;exact absurd (Y3 e) (by rw[c];exact Tf _)
theorem uo:bootBuiltins "all" = some (.builtin "all"):=by decide +kernel
theorem Ly:bootBuiltins "any" = some (.builtin "any"):=by decide +kernel
end
end L2
namespace L2
open PySem PySem.Spec PyProof.Rows PySem.W
def vL (K:Vz) (sp:Sp) (l:Z6) (xs:List V):List V->V->V->Hp->VK->Prop
 | [],b,_,H,Q=>SqL K H l xs/\Q b H
 | x::r,b,kb,H,Q=>SqL K H l xs/\sp [x] H (λk H'=>∃d e,Den K H' k d/\Den K H' kb e/\oz d e=true/\d.depth<=100/\if ltv d e=true then vL K sp l xs r x k H' Q else vL K sp l xs r b kb H' Q) E0
section
variable {X:Cx}{pins:List (Z6×Obj)}{σ:St}{H:Hp}{s:Vx}
theorem Ew (a v d:Vy):argsOk "min" ⟨[a],[(Yo "key",v),(Yo "default",d)]⟩:=by unfold argsOk;kernel_rfl
def va (X:Cx) (pins:List (Z6×Obj)) (σ:St) (f:Z6) (sp:Sp):Prop:=∀(more:List (Z6×Obj)) (H:Hp) (s:Vx) (x:V) (u:Vy) (Q:VK),Inv X (pins++more) σ H s->RelV x u->sp [x] H Q E0 ->
 codeAny (model X.prog X.w) X.A.in1 (.call (.ref f) ⟨[u],[]⟩) (CR CX0 X.stack X.prog X.w H s Q E0) s
theorem G9 {k:Nat}{f:Z6}{fd:Z7}{ps:List Str}{sp:Sp} (F:aA X.prog X.w X.K X.mg X.base CX0 k f fd ps sp) (d:bI (k+1) X.A) (b:Binds X.K fd ps []):va X pins σ f sp:=λ_ H s x u Q I c h=>by
 have a:[u].length=ps.length:=F.len _ _ _ _ h;exact F.run X.A.in1 X.stack s H ⟨[u],[]⟩ [u] [x] _ E0 d.in1 I.F2.in1 (by have:=b s [u] I.kIn (by simpa using a);simpa using this) (.cons c .nil) h
theorem vU {f I S:Z6}{sp:Sp}{oI oS:Obj}{x:V}{u:Vy}{Q:VK} (C:va X pins σ f sp)
  (n:∀v,oI.data ≠ .cell v) (hS:∀v,oS.data ≠ .cell v) (j:Inv X pins σ H s) (d:b6 X pins H I) (c:b6 X pins H S) (o:s.heap.get? I=some oI) (t:s.heap.get? S=some oS) (m:RelV x u) (h:sp [x] H Q E0)
  {R:Vy->Vx->Prop}{E:Vy->Vx->Prop} (b:∀v kv H1 s1,Inv X pins σ H1 s1->b6 X pins H1 I->b6 X pins H1 S->s1.heap.get? I=some oI->s1.heap.get? S=some oS->RelV v kv->Q v H1->R kv s1) :
  Zd (model X.prog X.w) X.A.in1 (call (.ref f) [u]) R E s:=by
 have k:Inv X (pins++[(I,oI),(S,oS)]) σ H s:=j.oF λp D=>by
  rcases Sz.mp D with q | q
  ·exact j.pin p (SO _ q)
  ·rcases Su.mp q with q | q
   ·subst q;exact⟨o,d.1,d.2.1,d.2.2.1,n⟩
   ·have F:p=(S,oS):=by simpa using q
    subst F;exact⟨t,c.1,c.2.1,c.2.2.1,hS⟩
 have e:=C [(I,oI),(S,oS)] H s x u _ k m h;refine wpAny_call (codeAny_mono e λr s1 a=>?_);cases r with
 | error _=>exact a.elim
 | ok y=>
  cases y with
  | ret kv=>
   obtain⟨v,H1,g,B,z⟩:=k.after a;have l:=g.pin (I,oI) (by simp);have i:=g.pin (S,oS) (by simp);exact b v kv H1 s1 g.il ⟨l.2.1,d.2⟩ ⟨i.2.1,c.2⟩ l.1 i.1 B z
  | next=>exact False.elim a
  | brk=>exact False.elim a
  | cont=>exact False.elim a
theorem Dr {k:Nat}{f I S l:Z6}{sp:Sp}{xs:List V}{kw:List (Str×Vy)}{Q:VK}{R:Result->Vx->Prop} (C:va X pins σ f sp) (hr:bI (k+1) X.A) (a:X.calm=true)
  (O:l≠I) (J:S≠I) (hR:∀v u H' s',Inv X pins σ H' s'->RelV v u->Q v H'->R (.ok (.ret u)) s') :
  ∀(r:List V) (j:Nat) (b kb:V) (H:Hp) (s:Vx) (ub uk:Vy) (c:Nat),r=xs.drop j->j<=xs.length->Inv X pins σ H s->b6 X pins H I->b6 X pins H S->s.heap.get? S=some (seqObj "list" #[ub,uk] c)->s.heap.IsListIter I l j->RelV b ub->RelV kb uk->vL X.K sp l xs r b kb H Q ->
   codeAny (model X.prog X.w) X.A (.builtin "min.loop" ⟨[.ref I,.ref f,.ref S],kw⟩) R s:=by
 (have uZ:(toString "min" ++ toString ".loop" : String) = "min.loop" :=by decide)
 intro r
 induction r with
 | nil=>
  intro j b kb H s ub uk c g hj G fI fS U B rb rk h;obtain⟨hq,q⟩:=h;obtain⟨m,Z,pl,_⟩:=G.list hq;have M:=Z.length;have i:xs.length<=j:=Ux.mp g.symm;have W:=Walks.list (prog:=X.prog) (w:=X.w) (A:=X.A.in1) (show X.A.in1.handled=none from G.ok.hd a) I l O m.toArray
  (refine codeAny_builtin PySem.F.entry_min_loop ?_)
  (rw[Yg Yv _])
  show Zd _ X.A.in1 (seqItems? (.ref S) >>= _) _ _ _
  (refine Vw (wpAny_seqItems U rfl ?_))
  show Zd _ X.A.in1 (tryCatch (pyNext (.ref I)) _ >>= _) _ _ _;refine Vw (wpAny_tryCatch (W.done _ _ _ ⟨by rw[Sn,show m.length=j by lia];exact B,pl.isList⟩ λh' p n=>?_));have D:=n S _ (by simpa using J) U;have sb:=Yi h' S (Y8 λ_=>(#[]:Array Vy));show Zd _ X.A.in1 (updateSeq S (λ_=>#[]) >>= _) _ _ _;refine Vw ?_;refine wpAny_updateSeq D rfl (Vw (wpAny_letGo (Vv ?_)));have I1:Inv X pins σ H { s with heap:=h',toks:=p }:=G.du (wr:=[I]) (λc a=>by rw[show c=I by simpa using a];exact fI) λc o a e=>n c o a e;exact hR b ub H _ (I1.du (t':=p) (wr:=[S]) (λc a=>by rw[show c=S by simpa using a];exact fS) λc o a e=>(sb.2 c (by simpa using a)).trans e) rb q
 | cons x r ih=>
  intro j b kb H s ub uk c g hj G fI fS U B rb rk h;obtain⟨hq,q⟩:=h;obtain⟨m,Z,pl,_⟩:=G.list hq;have M:=Z.length;have i:j<xs.length:=by
   rcases Tc j xs.length with z | z
   ·exact z
   ·rw[Tz z]at g;cases g
  have a3:xs[j]? = some x:=by
   rw[SX i]at g;injection g with e1 e2;rw[R9 i,<-e1]
  have P:r=xs.drop (j+1):=by
   rw[SX i]at g;injection g with e1 e2
  have W:=Walks.list (prog:=X.prog) (w:=X.w) (A:=X.A.in1) (show X.A.in1.handled=none from G.ok.hd a) I l O m.toArray
  (refine codeAny_builtin PySem.F.entry_min_loop ?_)
  (rw[Yg Yv _])
  show Zd _ X.A.in1 (seqItems? (.ref S) >>= _) _ _ _
  (refine Vw (wpAny_seqItems U rfl ?_))
  show Zd _ X.A.in1 (tryCatch (pyNext (.ref I)) _ >>= _) _ _ _;refine Vw (wpAny_tryCatch (W.item j _ _ _ (by rw[Sn];lia) ⟨B,pl.isList⟩ λv h' p hP uC n=>?_));obtain⟨u,hu,ru⟩:=Z.get a3;have hv:v=u:=by
   have:m[j]? = some v:=by simpa using hP
   rw[hu]at this;cases this;rfl
  subst hv;have D:=n S _ (by simpa using J) U;have I1:Inv X pins σ H { s with heap:=h',toks:=p }:=G.du (wr:=[I]) (λc a=>by rw[show c=I by simpa using a];exact fI) λc o a e=>n c o a e;obtain⟨oI,eI,cI,dI⟩:=uC.1;show Zd _ X.A.in1 (tryCatch (holding [v] (call (.ref f) [v])) _ >>= _) _ _ _;refine Vw (wpAny_tryCatch (Vs (vU C (oI:=oI) (oS:=seqObj "list" #[ub,uk] c) (λz q=>by rw[dI]at q;cases q) (λz q=>by cases q) I1 fI fS eI D ru q λkv t H2 E I2 Y L N y T q2=>?_)));obtain⟨d,e,dk,de,cg,xF,q3⟩:=q2;obtain⟨a5,a4⟩:=I2.reads dk T;obtain⟨a6,a0⟩:=I2.reads de rk;have Il:E.heap.IsListIter I l (j+1):=⟨oI,N,cI,dI⟩;have a7:X.A.in1.units+d.depth<cLine:=by show X.A.units+1+d.depth<cLine;have:=hr.un;lia
  show Zd _ X.A.in1 (tryCatch (holding [v,t] (richCompare .Lt t uk >>= _)) _ >>= _) _ _ _;refine Vw (wpAny_tryCatch (Vs (Vw (sR 100 d e xF cg X.A.in1 E t uk a5 a6 a4 a0 dk.lay de.lay a7 _ _ _ _ ?_))))
  (refine Vw (Vs (wpAny_truthy_bool ?_)))
  (refine Vw (wpAny_letGo (Vv ?_)))
  cases hb':ltv d e with
  | true=>
   rw[hb',Zj rfl]at q3;have sb:=Yi E.heap S (Y8 λ_=>#[v,t]);obtain⟨c2,a8⟩:∃c2,(E.heap.update S (Y8 λ_=>#[v,t])).get? S=some (seqObj "list" #[v,t] c2):=⟨_,get?_update_seq y λ_=>#[v,t]⟩;simp only[if_true];refine Vw ?_;refine wpAny_updateSeq y rfl (Vw (wpAny_letGo ?_));rw[uZ];have I3:Inv X pins σ H2 { E with heap:=E.heap.update S (Y8 λ_=>#[v,t]) }:=I2.du (t':=E.toks) (wr:=[S]) (λc a=>by rw[show c=S by simpa using a];exact L) λc o a e=>(sb.2 c (by simpa using a)).trans e;exact Vv ⟨plainId_quiet Yv _,ih (j+1) x kv H2 _ v t c2 P i I3 Y L a8 ⟨oI,(sb.2 I J.symm).trans N,cI,dI⟩ ru T q3⟩
  | false=>
   rw[hb',Zk (by decide)]at q3
   (simp only[SQ,if_false])
   refine Vw (wpAny_letGo ?_);rw[uZ];exact Vv ⟨plainId_quiet Yv _,ih (j+1) b kb H2 _ ub uk c P i I2 Y L y Il rb rk q3⟩
def vW (K:Vz) (sp:Sp):V->Hp->VK->Prop:=λx H Q=>∃l xs,x = .ref l/\SqL K H l xs/\match xs with
 | []=>Q .non H
 | y::r=>sp [y] H (λk H'=>vL K sp l xs r y k H' Q) E0
theorem Ee {k:Nat}{f a Sa l:Z6}{sp:Sp}{y:V}{r:List V}{kw:List (Str×Vy)}{Q:VK}{R:Result->Vx->Prop} (C:va X pins σ f sp) (hr:bI (k+1) X.A) (b:X.calm=true)
  (j:l≠a) (d:Sa≠a) (hR:∀v u H' s',Inv X pins σ H' s'->RelV v u->Q v H'->R (.ok (.ret u)) s') (E:Inv X pins σ H s) (Y:b6 X pins H a) (fS:b6 X pins H Sa) (U:s.heap.get? Sa=some (seqObj "list" #[] 0)) (gI:s.heap.IsListIter a l 0) (hq:SqL X.K H l (y::r)) (q:sp [y] H (λk H'=>vL X.K sp l (y::r) r y k H' Q) E0) :
  codeAny (model X.prog X.w) X.A (.builtin "min.loop" ⟨[.ref a,.ref f,.ref Sa],kw⟩) R s:=by
 (have uZ:(toString "min" ++ toString ".loop" : String) = "min.loop" :=by decide)
 obtain⟨p,O,pl,_⟩:=E.list hq;have n:=O.length;have W:=Walks.list (prog:=X.prog) (w:=X.w) (A:=X.A.in1) (show X.A.in1.handled=none from E.ok.hd b) a l j p.toArray
 (refine codeAny_builtin PySem.F.entry_min_loop ?_)
 (rw[Yg Yv _])
 show Zd _ X.A.in1 (seqItems? (.ref Sa) >>= _) _ _ _
 (refine Vw (wpAny_seqItems U rfl ?_))
 show Zd _ X.A.in1 (tryCatch (pyNext (.ref a)) _ >>= _) _ _ _;refine Vw (wpAny_tryCatch (W.item 0 _ _ _ (by rw[Sn,<-n];exact Nat.succ_pos _) ⟨gI,pl.isList⟩ λv h' I hP uC t=>?_));obtain⟨u,hu,P⟩:=O.get (i:=0) rfl;have hv:v=u:=by
  have:p[0]? = some v:=by simpa using hP
  rw[hu]at this;cases this;rfl
 subst hv;have D:=t Sa _ (by simpa using d) U;have I1:Inv X pins σ H { s with heap:=h',toks:=I }:=E.du (wr:=[a]) (λc b=>by rw[show c=a by simpa using b];exact Y) λc o b e=>t c o b e;obtain⟨oI,eI,cI,T⟩:=uC.1;show Zd _ X.A.in1 (tryCatch (holding [v] (call (.ref f) [v])) _ >>= _) _ _ _;refine Vw (wpAny_tryCatch (Vs (vU C (oI:=oI) (oS:=seqObj "list" #[] 0) (λz q=>by rw[T]at q;cases q) (λz q=>by cases q) I1 Y fS eI D P q λkv g N h I2 G x L m B Z=>?_)));have S:=Yi h.heap Sa (Y8 λ_=>#[v,g]);obtain⟨J,M⟩:∃J,(h.heap.update Sa (Y8 λ_=>#[v,g])).get? Sa=some (seqObj "list" #[v,g] J):=⟨_,get?_update_seq m λ_=>#[v,g]⟩;show Zd _ X.A.in1 (updateSeq Sa (λ_=>#[v,g]) >>= _) _ _ _;refine Vw ?_;refine wpAny_updateSeq m rfl ?_;rw[uZ];have I3:Inv X pins σ N { h with heap:=h.heap.update Sa (Y8 λ_=>#[v,g]) }:=I2.du (t':=h.toks) (wr:=[Sa]) (λc b=>by rw[show c=Sa by simpa using b];exact x) λc o b e=>(S.2 c (by simpa using b)).trans e;exact Vv ⟨plainId_quiet Yv _,Dr (Q:=Q) C hr b j d hR r 1 y kv N _ v g J rfl (by simp) I3 G x M ⟨oI,(S.2 a d.symm).trans L,cI,T⟩ P B Z⟩
structure HY (X:Cx) (pins:List (Z6×Obj)) (σ:St) (H:Hp) (s:Vx) (l:Z6) (h0:Heap) (Ia Sa:Z6):Prop where
 gI:h0.get? Ia=some { cls:=.type "list_iterator",data:=.fields #[.ref l,.int 0 0] }
 gS:h0.get? Sa=some (seqObj "list" #[] 0)
 keep:∀b o,s.heap.get? b=some o->h0.get? b=some o
 inv:Inv X pins σ H { s with heap:=h0 }
 fI:b6 X pins H Ia
 fS:b6 X pins H Sa
 ne:l≠Ia
 two:Sa≠Ia
theorem EV {l:Z6} (I:Inv X pins σ H s) (g:l<s.heap.objs.size) :
  HY X pins σ H s l ((s.heap.push { cls:=.type "list_iterator",data:=.fields #[.ref l,.int 0 0] }).push (seqObj "list" #[] 0)) s.heap.objs.size (s.heap.push { cls:=.type "list_iterator",data:=.fields #[.ref l,.int 0 0] }).objs.size:=by
 have c:=λ(o:Obj) (b:Z6) (h:Obj) (e:s.heap.get? b=some h)=>Vu o e;have first:=Y2 s.heap (o:={ cls:=.type "list_iterator",data:=.fields #[.ref l,.int 0 0] }) rfl
 have a:=size_push' s.heap { cls:=.type "list_iterator",data:=.fields #[.ref l,.int 0 0] };replace c:=c { cls:=.type "list_iterator",data:=.fields #[.ref l,.int 0 0] };generalize s.heap.push { cls:=.type "list_iterator",data:=.fields #[.ref l,.int 0 0] }=h1 at c first a
 have d:s.heap.objs.size<=h1.objs.size:=by rw[a];exact TB _
 have f:∀b o,s.heap.get? b=some o->(h1.push (seqObj "list" #[] 0)).get? b=some o:=λb o e=>Vu _ (c b o e);exact{ gI:=Vu _ first,gS:=Y2 _ rfl,keep:=f,inv:=I.kept (t':=s.toks) f,fI:=I.o8 (Sb _) (I.hok.fresh (Sb _)),fS:=I.o8 d (I.hok.fresh d),ne:=SD g,two:=by rw[a];exact Nat.succ_ne_self _ }
theorem sE {k:Nat}{f:Z6}{sp:Sp}{x:V}{u:Vy}{Q:VK} (C:va X pins σ f sp) (T:bI (k+1) X.A) (a:X.calm=true) (i:Inv X pins σ H s) (L:RelV x u) (h:vW X.K sp x H Q) :
  Zd (model X.prog X.w) X.A (call (.builtin "min") [u] [(Yo "key",.ref f),(Yo "default",.none)]) (EP X pins σ Q) X.xe s:=by
 (have U:(toString "min" ++ toString ".loop" : String) = "min.loop" :=by decide)
 obtain⟨l,Y,rfl,E,q⟩:=h;cases L;obtain⟨its,O,p,_⟩:=i.list E;have d:=O.length;have j:l<s.heap.objs.size:=by obtain⟨_,e,_⟩:=p.isList;exact Y3 e
 refine kmk_tree PySem.F.kind_min PySem.F.plain_min PySem.F.entry_min (Ew _ _ _) ?_;show Zd _ X.A.in1 (Builtin.Builtins.bindParams "min" ["key","default"] 0 ⟨[],[(Yo "key",.ref f),(Yo "default",.none)]⟩ >>= _) _ _ s;refine Vw (wpAny_of_eq (show Builtin.Builtins.bindParams "min" ["key","default"] 0 ⟨[],[(Yo "key",.ref f),(Yo "default",.none)]⟩=pure [some (.ref f),some .none]from rfl) ?_);refine Vw (Vv ?_);refine Vw (wpAny_pyIter_list p.isList ?_);refine Vw (wpAny_newList ?_ (Sy _):Zd _ _ _ _ _ _);rw[U];have two:=EV (X:=X) (l:=l) i j;generalize(s.heap.push { cls:=.type "list_iterator",data:=.fields #[.ref l,.int 0 0] }).push (seqObj "list" #[] 0)=h0 at two ⊢;generalize(s.heap.push { cls:=.type "list_iterator",data:=.fields #[.ref l,.int 0 0] }).objs.size=Sa at two ⊢;generalize s.heap.objs.size=Ia at two ⊢;obtain⟨B,D,t,z,G,P,b,n⟩:=two;have m:h0.IsList l its.toArray:=p.isList.at λo e=>t l o e
 (refine Vv ⟨plainId_quiet Yv _,?_⟩)
 cases Y with
 | nil=>
  have W:=Walks.list (prog:=X.prog) (w:=X.w) (A:=X.A.in1) (show X.A.in1.handled=none from i.ok.hd a) Ia l b its.toArray
  (refine codeAny_builtin PySem.F.entry_min_loop ?_)
  (rw[Yg Yv _])
  show Zd _ X.A.in1 (seqItems? (.ref Sa) >>= _) _ _ _
  (refine Vw (wpAny_seqItems D rfl ?_))
  show Zd _ X.A.in1 (tryCatch (pyNext (.ref Ia)) _ >>= _) _ _ _;refine Vw (wpAny_tryCatch (W.done _ _ _ ⟨⟨_,(by rw[B]),rfl,by rw[Sn,<-d];rfl⟩,m⟩ λR g v=>?_));have N:Inv X pins σ H { s with heap:=R,toks:=g }:=Inv.du (s:={ s with heap:=h0 }) (t':=g) (wr:=[Ia]) z (λc a=>by rw[show c=Ia by simpa using a];exact G) λc o a e=>v c o a e
  (refine Vw (wpAny_rule (Vv ?_)))
  exact⟨.non,H,N,rfl,q⟩
 | cons y r=>
  exact Ee (Q:=Q) C T a b n (λM _ I _ J S Z=>⟨M,I,J,S,Z⟩) z G P D ⟨_,B,rfl,rfl⟩ E q
theorem DC {k:Nat}{f:Z6}{fd:Z7}{ps:List Str}{sp:Sp}{x:V}{u:Vy}{Q:VK} (F:aA X.prog X.w X.K X.mg X.base CX0 k f fd ps sp) (a:bI (k+1) X.A) (e:Binds X.K fd ps []) (b:X.calm=true) (c:Inv X pins σ H s) (d:RelV x u) (h:vW X.K sp x H Q) :
  Zd (model X.prog X.w) X.A (call (.builtin "min") [u] [(Yo "key",.ref f),(Yo "default",.none)]) (EP X pins σ Q) X.xe s:=sE (G9 F a e) a b c d h
def Nc (K:Vz) (sp:Sp) (ta:TA):TE:=λσ H Q=>ta σ H λvs H1=>∃x,vs=[x]/\vW K sp x H1 Q
end
theorem EM:bootBuiltins "min" = some (.builtin "min"):=by decide +kernel
section
variable {X:Cx}
theorem HX {k:Nat}{f:Z6}{fd:Z7}{ps:List Str}{sp:Sp}{e:Expr}{ta:TA}{y:Str}{n:Nat}{p d pos g i a:Pos} (F:aA X.prog X.w X.K X.mg X.base CX0 k f fd ps sp) (L:bI (k+1) X.A) (D:Binds X.K fd ps []) (G:X.calm=true)
  (z:Gl X "min") (v:X.mg "min" = none) (c:Gl X y) (j:X.mg y=some (.ref f)) (J:PA X [e] ta) (l:(y == ("__debug__" : Str))=false:=by decide)
  (B:backTo pos (Ze [e] X.env)=(false,eval e X.env)::backTo pos (Ze [] X.env):=by rfl) (r:(backTo pos (Ze [e] X.env)).any (·.1)=false:=by rfl)
  (t:(backToKw pos (keywordEach [⟨some "key",.Name y d,g⟩,⟨some "default",.Constant .none n i,a⟩] X.env)).all (·.1.isSome)=true:=by rfl) (m:(backToKw pos (keywordEach [⟨some "key",.Name y d,g⟩,⟨some "default",.Constant .none n i,a⟩] X.env)).any (·.1.isNone)=false:=by rfl) :
  PE X (.Call (.Name "min" p) [e] [⟨some "key",.Name y d,g⟩,⟨some "default",.Constant .none n i,a⟩] pos) (Nc X.K sp ta):=by
 intro b s E H Q I h;refine wpAny_Call_Name_kw (eN I z v EM ?_);refine callWith_kw (thn (J pos b s E H _ I h) λ_ _ ⟨_,_,o,N,M⟩=>?_) B r t m;obtain⟨x,rfl,q⟩:=M;obtain⟨u,rfl,C⟩:=N.one;refine kws_cons (md o c j (kws_cons (Constant_none (kws_nil ?_))) l);exact DC F L D G o C q
end
def gb:Zb->Nat->Nat->List Zb->Nat
 | _,i,_,[]=>i
 | db,i,j,d::r=>if ltv d db=true then gb d j (j+1) r else gb db i (j+1) r
def cn:List Zb->Nat
 | []=>0
 | d::r=>gb d 0 1 r
theorem nk {S:Zb->Prop} (o:tJ S):∀(r:List Zb) (all:List Zb) (db:Zb) (i j:Nat),(∀d∈all,S d)->all.drop j=r->i<j->all[i]? = some db->(∀(m:Nat) (d:Zb),m<j->all[m]? = some d->ltv d db=false)->(∀(m:Nat) (d:Zb),m<i->all[m]? = some d->ltv db d=true) ->
  ∃d,all[gb db i j r]? = some d/\(∀(m:Nat) (e:Zb),all[m]? = some e->ltv e d=false)/\∀(m:Nat) (e:Zb),m<gb db i j r->all[m]? = some e->ltv d e=true
 | [],all,db,i,j,hS,hd,hij,hi,h1,h2=>by
  have q:all.length<=j:=Ux.mp hd;exact⟨db,hi,λm e a=>h1 m e (SN (aG a) q) a,h2⟩
 | d::r,all,db,i,j,hS,hd,hij,hi,h1,h2=>by
  have f:j<all.length:=by
   rcases Tc j all.length with z | z
   ·exact z
   ·rw[Tz z]at hd;cases hd
  have l:=SX f;rw[hd]at l;injection l with e1 e2;have b:all[j]? = some d:=by rw[R9 f,e1]
  have h:S d:=hS d (Sd b);have p:S db:=hS db (Sd hi);unfold gb;by_cases c:ltv d db=true
  ·rw[Zj c];have k:∀m e,m<j->all[m]? = some e->ltv d e=true:=λm e g a=>by
    have n:S e:=hS e (Sd a);rcases o.neg h n p c with z | z
    ·exact z
    ·rw[h1 m e g a]at z;cases z
   refine nk o r all d j (j+1) hS e2.symm (Ub _) b (λm e g a=>?_) k;rcases Tc m j with z | z
   ·exact o.asymm h (hS e (Sd a)) (k m e z a)
   ·have:m=j:=by lia
    subst this;rw[b]at a;cases a;exact o.irr d h
  ·rw[Zk c];refine nk o r all db i (j+1) hS e2.symm (UJ hij) hi (λm e g a=>?_) h2;rcases Tc m j with z | z
   ·exact h1 m e z a
   ·have:m=j:=by lia
    subst this;rw[b]at a;cases a;exact SI.mpr c
theorem tN {S:Zb->Prop} (o:tJ S) {all:List Zb} (hS:∀d∈all,S d) (a:all≠[]) :
  ∃d,all[cn all]? = some d/\(∀(m:Nat) (e:Zb),all[m]? = some e->ltv e d=false)/\∀(m:Nat) (e:Zb),m<cn all->all[m]? = some e->ltv d e=true:=by
 cases all with
 | nil=>exact(a rfl).elim
 | cons d r=>
  refine nk o r (d::r) d 0 1 hS rfl Nat.zero_lt_one rfl (λm e b c=>?_) (λm e b c=>absurd b (Nat.not_lt_zero _));have:m=0:=by lia
  subst this;cases c;exact o.irr d (hS d (Sk ..))
theorem EN {K:Vz}{sp:Sp}{Q:VK}{H0:Hp}{l:Z6}{xs:List V}{S:Zb->Prop} (o:tJ S) (I:SqL K H0 l xs):∀(r:List V) (kr:List Zb) (i j:Nat) (b kb:V) (db:Zb) (H:Hp),r.length=kr.length->af H0 H->Den K H kb db->S db->(∀d∈kr,S d/\d.depth<=100)->xs.drop j=r->xs[i]? = some b ->
  (∀(m:Nat) (x:V) (d:Zb) (H:Hp) (Q:VK),r[m]? = some x->kr[m]? = some d->af H0 H->(∀k H',af H H'->Den K H' k d->Q k H')->sp [x] H Q E0)->(∀H',af H0 H'->Q (xs.getD (gb db i j kr) .non) H')->vL K sp l xs r b kb H Q:=by
 intro r
 induction r with
 | nil=>
  intro kr i j b kb db H p s C D hS a A c v;cases kr with
  | nil=>exact⟨s.seq I,by have:=v H s;simpa[gb,YD,A]using this⟩
  | cons d kr=>cases p
 | cons x r J=>
  intro kr i j b kb db H p s C D hS a A c v;cases kr with
  | nil=>cases p
  | cons d kr=>
   have t:j<xs.length:=by
    rcases Tc j xs.length with z | z
    ·exact z
    ·rw[Tz z]at a;cases a
   have G:=SX t;rw[a]at G;injection G with e1 e2;have B:xs[j]? = some x:=by rw[R9 t,e1]
   have F:=hS d (Sk ..);refine⟨s.seq I,c 0 x d H _ rfl rfl s λk H' u q=>⟨d,db,q,C.same u,o.cmp d db F.1 D,F.2,?_⟩⟩;have n:∀e∈kr,S e/\e.depth<=100:=λe L=>hS e (Sf _ L);by_cases f:ltv d db=true
   ·rw[Zj f];refine J kr j (j+1) x k d H' (by simpa using p) (s.trans u) q F.1 n e2.symm B (λm y e g E w h=>c (m+1) y e g E (by simpa using w) (by simpa using h)) λg h=>?_;have:=v g h;unfold gb at this
    rwa [Zj f]at this
   ·rw[Zk f];refine J kr i (j+1) b kb db H' (by simpa using p) (s.trans u) (C.same u) D n e2.symm A (λm y e g E w h=>c (m+1) y e g E (by simpa using w) (by simpa using h)) λg h=>?_;have:=v g h;unfold gb at this
    rwa [Zk f]at this
theorem wc {K:Vz}{sp:Sp}{Q:VK}{H:Hp}{l:Z6}{xs:List V}{kds:List Zb}{S:Zb->Prop} (o:tJ S) (f:SqL K H l xs) (c:xs.length=kds.length) (hS:∀d∈kds,S d/\d.depth<=100)
  (a:∀(m:Nat) (x:V) (d:Zb) (H2:Hp) (Q:VK),xs[m]? = some x->kds[m]? = some d->af H H2->(∀k H',af H2 H'->Den K H' k d->Q k H')->sp [x] H2 Q E0) (n:xs=[]->Q .non H) (j:xs≠[]->∀H',af H H'->Q (xs.getD (cn kds) .non) H'):vW K sp (.ref l) H Q:=by
 refine⟨l,xs,rfl,f,?_⟩;cases xs with
 | nil=>exact n rfl
 | cons x r=>
  cases kds with
  | nil=>cases c
  | cons d p=>
   refine a 0 x d H _ rfl rfl (af.refl _) λk H' g q=>?_;refine EN o f r p 0 1 x k d H' (by simpa using c) g q (hS d (Sk ..)).1 (λe i=>hS e (Sf _ i)) rfl rfl (λm y e H2 s h b=>a (m+1) y e H2 s (by simpa using h) (by simpa using b)) λH2 b=>?_;exact j (by intro z;cases z) H2 b
end L2
namespace LG
open PySem L2 PySem.Builtin PySem.Builtin.Str
def sgn (c:Nat):Bool:=decide (33<=c) && decide (c<=126) && decide (c≠37)
def dig (c:Nat):Bool:=decide (48<=c) && decide (c<=57)
def low (c:Nat):Bool:=decide (97<=c) && decide (c<=122)
def dZ (p:Nat->Bool) (l:List Nat):Bool:=!l.isEmpty && l.all p
def bE:List Nat->List Nat
 | 45::r=>r
 | l=>l
def Gv (l:List Nat):Nat:=if dZ dig (bE l)=true then 0 else if dZ low l=true then 1 else 2
def dE (z:Str):Bool:=dZ sgn z.cps.toList
def dw (z:Str):Nat:=Gv z.cps.toList
def lW:Nat->Str
 | 0=> "number"
 | 1=> "name"
 | _=> "other"
def cx:Nat->Str
 | 0=> "number"
 | 1=> "name"
 | _=> "any"
theorem ph {x y:Str} (h:x.cps.toList=y.cps.toList):x=y:=by
 cases x;cases y;simp only[Str.mk.injEq];exact Uc.mp h
theorem takeWhile_all {α:Type}{p:α->Bool}:∀{l:List α},(l.takeWhile p).length=l.length↔l.all p=true
 | []=>by simp
 | a::r=>by
  rw[List.takeWhile_cons,Uj];by_cases h:p a=true
  ·rw[Zj h,h,TX];simp only[SE,Nat.add_right_cancel_iff];exact takeWhile_all
  ·rw[Zk h];simp[h]
theorem strip_nil (z y:Str):decide (V.str (YY z y)=V.str "")=z.cps.toList.all (λc=>y.cps.contains c):=by
 have e:YY z y=strSub z (stripLo (λc=>y.cps.contains c) true z) (stripHi (λc=>y.cps.contains c) true z (stripLo (λc=>y.cps.contains c) true z)):=PyProof.Rows.stripBy_eq _ true true z;have d:=PyProof.Rows.lo_facts (λc=>y.cps.contains c) z;have f:=PyProof.Rows.hi_facts (λc=>y.cps.contains c) z (stripLo (λc=>y.cps.contains c) true z) d.1;have a:stripLo (λc=>y.cps.contains c) true z=(z.cps.toList.takeWhile λc=>y.cps.contains c).length:=by simp[stripLo]
 have g:z.length=z.cps.toList.length:=by simp[YV]
 (rw[SR,decide_eq_true_eq])
 constructor
 ·intro h;have i:(YY z y).cps.size=0:=by
   have:YY z y = "" :=by injection h
   rw[this];rfl
  rw[e]at i;have b:stripHi (λc=>y.cps.contains c) true z (stripLo (λc=>y.cps.contains c) true z)<=stripLo (λc=>y.cps.contains c) true z:=by
   have j:(Array.extract z.cps (stripLo (λc=>y.cps.contains c) true z) (stripHi (λc=>y.cps.contains c) true z (stripLo (λc=>y.cps.contains c) true z))).size=0:=i;rw[UG]at j;have l:=f.2.1;have k:z.length=z.cps.size:=rfl;lia
  rcases Tc (stripLo (λc=>y.cps.contains c) true z) z.length with hl | hl
  ·rcases d.2.2 with q | q
   ·lia
   ·have:=f.2.2.1 (stripLo (λc=>y.cps.contains c) true z) b hl;rw[q]at this;cases this
  ·have q:stripLo (λc=>y.cps.contains c) true z=z.length:=Nat.le_antisymm d.1 hl;rw[a,g]at q;exact takeWhile_all.mp q
 ·intro h;have b:=takeWhile_all.mpr h;rw[<-a,<-g]at b;have:YY z y = "" :=by
   rw[e,b];refine ph ?_;have j:=f.2.1;refine Tb ?_;show(Array.extract z.cps z.length _).toList.length=0;rw[SA,UG];have k:z.length=z.cps.size:=rfl;lia
  rw[this]
theorem yE (z:Str):(Txt.removeprefix z "-").cps.toList=bE z.cps.toList:=by
 rw[StrLaws.removeprefix_eq];have f:(("-" : Str)).length=1:=rfl;have k:(("-" : Str)).cps = #[45]:=by decide +kernel
 rw[f];have d:z.length=z.cps.toList.length:=by simp[YV]
 have i:subAt z "-" 0=(z.cps.extract 0 (0+1) == #[45]):=by
  unfold subAt;rw[f,k]
 rw[i];cases e:z.cps.toList with
 | nil=>
  have b:z.length=0:=by rw[d,e];rfl
  rw[b];simp[bE,e]
 | cons a r=>
  have b:z.length=r.length+1:=by rw[d,e];rfl
  have j:z.cps.extract 0 (0+1) = #[a]:=by
   apply Uc.mp;rw[Array.toList_extract,e];simp
  rw[j,b];by_cases c:a=45
  ·subst c;simp[bE]
  ·have g:(#[a] == #[45])=false:=by
    rw[beq_eq_false_iff_ne];intro h;apply c;simpa using h
   rw[g];simp only[Ur,SQ,if_false];rw[e];unfold bE
   split
   ·rename_i q;cases q;exact(c rfl).elim
   ·rfl
end LG
namespace LG
open PySem L2 PySem.Builtin PySem.Builtin.Str PySem.StrLaws
def isB (l:List Nat) (i:Nat):Bool:=decide (l[i]? = some 32)
theorem yo:∀l:List Nat,(Y7 l.length).countP (isB l)=l.count 32
 | []=>rfl
 | a::r=>by
  rw[SE,List.range_succ_eq_map,Ti,List.countP_map,List.count_cons];have e:(isB (a::r) ∘ Nat.succ)=isB r:=by funext i;simp[isB]
  rw[e,yo r];have b:isB (a::r) 0=(a == 32):=by rw[SR];simp[isB]
  rw[b]
theorem vp (z:Str) (i:Nat):subAt z " " i=isB z.cps.toList i:=by
 have b:((" " : Str)).cps.toList=[32]:=by decide +kernel
 have d:((" " : Str)).length=1:=rfl;rw[subAt_eq,d,b];unfold isB;cases e:z.cps.toList[i]? with
 | none=>
  rw[Tz (Ue.mp e)];decide
 | some c=>
  have a:=aG e;rw[SX a];rw[R9 a]at e;cases e;rw[SR];simp
theorem sY (z:Str) (c:Nat) (f:z.length<c):∀(m k:Nat) (st:Array Nat×Nat),k+m<=z.length+1->st.1.size<=k->st.2<=k ->
  st.1.size+(List.range' k m).countP (isB z.cps.toList)<=(forIn (List.range' k m) st (occBody z " " z.length c)).run.1.size
 | 0,k,st,_,_,_=>by
  simp only[List.range'_zero,List.countP_nil,Nat.add_zero,List.forIn_nil];exact Sb _
 | m+1,k,st,hk,hs,hf=>by
  have d:((" " : Str)).length=1:=rfl;rw[List.range'_succ,Uk,Ti];unfold occBody;by_cases a:isB z.cps.toList k=true
  ·have g:k<z.length:=by
    have:z.cps.toList[k]? = some 32:=by simpa[isB]using a
    have:=aG this;simpa[YV]using this
   rw[Zj a,Zj ⟨⟨⟨by lia,hf⟩,by rw[d];lia⟩,by rw[vp];exact a⟩];have b:=sY z c f m (k+1) (st.1.push k,k+((" " : Str)).length) (by lia) (by show(st.1.push k).size<=k+1;rw[UA];lia) (by show k+_<=k+1;rw[d];exact Sb _);have e:(st.1.push k,k+((" " : Str)).length).1.size=st.1.size+1:=by show(st.1.push k).size=_;rw[UA]
   rw[e]at b;refine Sl ?_ b;lia
  ·rw[Zk a,Zk (by rw[vp];exactλh=>a h.2)];have b:=sY z c f m (k+1) (st.1,st.2) (by lia) (by show st.1.size<=_;lia) (by show st.2<=_;lia);exact b
theorem wa (z:Str):z.cps.toList.count 32<=(occurrences z " " 0 z.length (z.length+1)).length:=by
 rw[occ_eq];have h:=sY z (z.length+1) (Ub _) (z.length+1) 0 (#[],0) (by lia) (by simp) (Sb _);have e:(List.range' 0 (z.length+1)).countP (isB z.cps.toList)=z.cps.toList.count 32:=by
  rw[<-List.range_eq_range',Uy,List.countP_append];have a:z.length=z.cps.toList.length:=by simp[YV]
  have c:isB z.cps.toList z.length=false:=by
   unfold isB;rw[a,S9 (Sb _)];rfl
  rw[a,yo,<-a];simp[c]
 rw[e]at h;simp only[SA];have b:((#[]:Array Nat),0).1.size=0:=rfl;rw[b,UR]at h;exact h
theorem A7 (z:Str):(Y4 z " ").length=(occurrences z " " 0 z.length (z.length+1)).length+1\/(Y4 z " " = [z]/\z.cps.toList.count 32=0):=by
 unfold Y4
 split
 ·rename_i h
  right
  refine⟨rfl,?_⟩;rw[Bool.or_eq_true,decide_eq_true_eq,decide_eq_true_eq]at h;have b:((" " : Str)).length=1:=rfl;rcases h with h | h
  ·have a:z.cps.toList=[]:=Tb (by rw[SA];have:z.length=z.cps.size:=rfl;lia);rw[a];rfl
  ·exfalso;have e:PySem.Builtin.Str.strKind (" " : Str)=1:=by decide +kernel
   rw[e]at h;unfold PySem.Builtin.Str.strKind at h
   split at h
   ·lia
   ·split at h <;> lia
 ·split
  ·rename_i h
   right
   refine⟨rfl,?_⟩;have:=wa z;rw[Uu.mp h]at this;simpa using this
  ·left
   rw[length_partsBetween]
theorem BJ (ts:List Str) (a:ts≠[]):(YZ " " ts).cps.toList.count 32=(ts.map λt=>t.cps.toList.count 32).sum+(ts.length - 1):=by
 have d:((" " : Str)).cps.toList=[32]:=by decide +kernel
 induction ts with
 | nil=>exact(a rfl).elim
 | cons x r b=>
  cases r with
  | nil=>show x.cps.toList.count 32=_;simp
  | cons y r=>
   have e:YZ " " (x::y::r)=x ++ " " ++ YZ " " (y::r):=rfl;rw[e];have c:(x++(" " : Str)++YZ " " (y::r)).cps.toList=x.cps.toList++[32]++(YZ " " (y::r)).cps.toList:=by
    rw[<-d]
    (simp only[Str.cps_append,Ui])
   rw[c,List.count_append,List.count_append,b (by simp)];simp only[Sv,S2,SE,List.count_singleton_self];lia
theorem zM:∀{l:List Nat},l.sum=0->∀x∈l,x=0
 | [],_,x,h=>by cases h
 | a::r,hs,x,h=>by
  simp only[S2]at hs
  (rcases Su.mp h with rfl | h)
  ·lia
  ·exact zM (by lia) x h
theorem split_free (z:Str):∀x∈Y4 z " ",32∉x.cps.toList:=by
 intro x a;have g:=StrLaws.join_split z " ";have b:Y4 z " " ≠ []:=by intro e;rw[e]at a;cases a
 have c:=BJ (Y4 z " ") b;rw[g]at c;rcases A7 z with h | h
 ·rw[h]at c;have i:=wa z;have f:(List.map (λt:Str=>t.cps.toList.count 32) (Y4 z " ")).sum=0:=by lia
  have d:=zM f (x.cps.toList.count 32) (Si.mpr ⟨x,a,rfl⟩);exact List.count_eq_zero.mp d
 ·rw[h.1]at a;simp only[Sg]at a;subst a;exact List.count_eq_zero.mp h.2
theorem IJ {a b c d:List Nat} (h:a++32::b=c++32::d) (g:32∉a) (f:32∉c):a=c/\b=d:=by
 induction a generalizing c with
 | nil=>
  cases c with
  | nil=>simp at h;exact⟨rfl,h⟩
  | cons e c=>simp at h;exact(f (by simp[<-h.1])).elim
 | cons e a i=>
  cases c with
  | nil=>simp at h;exact(g (by simp[h.1])).elim
  | cons _ c=>
   simp only[UQ,List.cons.injEq]at h;obtain⟨j,k⟩:=i h.2 (λq=>g (Sf _ q)) (λq=>f (Sf _ q));exact⟨by rw[h.1,j],k⟩
theorem Cr (x y:Str) (r:List Str):(YZ " " (x::y::r)).cps.toList=x.cps.toList++32::(YZ " " (y::r)).cps.toList:=by
 have a:((" " : Str)).cps.toList=[32]:=by decide +kernel
 have e:YZ " " (x::y::r)=x ++ " " ++ YZ " " (y::r):=rfl;rw[e];simp only[Str.cps_append,Ui,a,UK,List.singleton_append]
theorem zo:∀{ts us:List Str},ts≠[]->us≠[]->(∀x∈ts,32∉x.cps.toList)->(∀x∈us,32∉x.cps.toList)->(YZ " " ts).cps.toList=(YZ " " us).cps.toList->ts=us
 | [x],[y],_,_,_,_,h=>by rw[ph (x:=x) (y:=y) h]
 | [x],y::y2::r,_,_,hx,_,h=>by
  rw[Cr]at h;have h:x.cps.toList=y.cps.toList++32::(YZ " " (y2::r)).cps.toList:=h;exact(hx x (by simp) (by rw[h];simp)).elim
 | x::x2::r,[y],_,_,_,hy,h=>by
  rw[Cr]at h;have h:x.cps.toList++32::(YZ " " (x2::r)).cps.toList=y.cps.toList:=h;exact(hy y (by simp) (by rw[<-h];simp)).elim
 | x::x2::r,y::y2::q,_,_,hx,hy,h=>by
  rw[Cr,Cr]at h;obtain⟨b,c⟩:=IJ h (hx x (by simp)) (hy y (by simp));have:=zo (ts:=x2::r) (us:=y2::q) (by simp) (by simp) (λz a=>hx z (Sf _ a)) (λz a=>hy z (Sf _ a)) c;rw[ph b,this]
theorem Bl {ws:List Str} (a:ws≠[]) (h:∀x∈ws,32∉x.cps.toList):Y4 (YG " " ws) " " = ws:=by
 have e:YG " " ws=YZ " " ws:=StrLaws.glued_eq_join " " ws;have b:=StrLaws.join_split (YG " " ws) " ";refine zo ?_ a (split_free _) h ?_
 ·intro e;have:=(L2.tE (z:=YG " " ws) (y:= " ")).1;rw[e]at this;exact absurd this (by decide)
 ·rw[b,e]
end LG
namespace LG
open PySem L2 PySem.Builtin PySem.Builtin.Str
theorem qm (y:Str) (p:Nat->Bool) (h1:∀c<200,y.cps.contains c=p c) (h2:∀x∈y.cps.toList,x<200) (a:∀c,200<=c->p c=false):(λc=>y.cps.contains c)=p:=by
 funext c
 rcases Tc c 200 with h | h
 ·exact h1 c h
 ·rw[a c h];rw[SI];intro q;have:=h2 c (by simpa using q);lia
theorem HG (c:Nat) (h:200<=c):sgn c=false:=by unfold sgn;rw[Zh (show¬ c<=126 by lia)];simp
theorem IP (c:Nat) (h:200<=c):dig c=false:=by unfold dig;rw[Zh (show¬ c<=57 by lia)];simp
theorem II (c:Nat) (h:200<=c):low c=false:=by unfold low;rw[Zh (show¬ c<=122 by lia)];simp
@[irreducible] def DE:Str:= "0123456789"
@[irreducible] def Dg:Str:= "abcdefghijklmnopqrstuvwxyz"
@[irreducible] def vz:Str:= "!\"#$&'()*+,-./0123456789:;<=>?@ABCDEFGHIJKLMNOPQRSTUVWXYZ[\\]^_`abcdefghijklmnopqrstuvwxyz{|}~"
theorem Ir:DE = "0123456789" :=by unfold DE;rfl
theorem HL:Dg = "abcdefghijklmnopqrstuvwxyz" :=by unfold Dg;rfl
theorem Hf:vz = "!\"#$&'()*+,-./0123456789:;<=>?@ABCDEFGHIJKLMNOPQRSTUVWXYZ[\\]^_`abcdefghijklmnopqrstuvwxyz{|}~" :=by unfold vz;rfl
theorem Hl:(λc=>DE.cps.contains c)=dig:=qm _ _ (by decide +kernel) (by decide +kernel) IP
theorem FA:(λc=>Dg.cps.contains c)=low:=qm _ _ (by decide +kernel) (by decide +kernel) II
theorem DO:(λc=>vz.cps.contains c)=sgn:=qm _ _ (by decide +kernel) (by decide +kernel) HG
theorem px (z:Str):decide (V.str z=V.str "")=z.cps.toList.isEmpty:=by
 rw[SR,decide_eq_true_eq,Uu];constructor
 ·intro h;have:z = "" :=by injection h
  rw[this];rfl
 ·intro h;have:z = "" :=ph (by rw[h];rfl);rw[this]
theorem HU (z y:Str):((!decide (V.str z=V.str "")) && decide (V.str (YY z y)=V.str ""))=dZ (λc=>y.cps.contains c) z.cps.toList:=by
 rw[px,strip_nil];rfl
theorem DJ {i j:Nat} (hi:i<3) (a:j<3):decide (V.str (lW i)=V.str (lW j))=decide (i=j):=by
 match i,j,hi,a with
 | 0,0,_,_=>decide +kernel
 | 0,1,_,_=>decide +kernel
 | 0,2,_,_=>decide +kernel
 | 1,0,_,_=>decide +kernel
 | 1,1,_,_=>decide +kernel
 | 1,2,_,_=>decide +kernel
 | 2,0,_,_=>decide +kernel
 | 2,1,_,_=>decide +kernel
 | 2,2,_,_=>decide +kernel
theorem tD (l:List Nat):Gv l<3:=by
 unfold Gv
 split
 ·decide
 ·split <;> decide
def eh (l:List Nat):Nat:=if dZ dig (bE l)=true then 0 else if l.all low=true then 1 else 2
theorem zr (z:Str):∀(n a:Nat),a+n<=z.cps.toList.length->((Y7 n).map λk=>a+k).filterMap (λi=>z.cps[i]?)=(z.cps.toList.drop a).take n
 | 0,a,_=>by simp
 | n+1,a,h=>by
  rw[Uy,Sm,List.filterMap_append,zr z n a (by lia)];have b:a+n<z.cps.toList.length:=by lia
  have e:z.cps[a+n]? = some (z.cps.toList[a+n]):=by
   rw[<-S6,R9 b]
  simp only[Sv,Tw,Uh,e,List.filterMap_nil];rw[List.take_succ,List.getElem?_drop,R9 b];rfl
theorem wb (z:Str) {l u:Option Int}{a n:Nat} (h:strSliceIndices l u 1 z.length=(Y7 n).map λk=>a+k) (d:a+n<=z.length):(YN z l u).cps.toList=(z.cps.toList.drop a).take n:=by
 have e:z.length=z.cps.toList.length:=by simp[YV]
 unfold YN;rw[h]
 split
 ·rename_i hc;have c:n=z.length:=by simpa using hc
  have b:a=0:=by lia
  subst b;rw[Uq,So (by lia)]
 ·show(YJ _).toList=_;rw[List.toList_toArray];exact zr z n a (by lia)
theorem tz (z:Str):(YN z none (some 1)).cps.toList=z.cps.toList.take 1:=by
 have a:z.length=z.cps.toList.length:=by simp[YV]
 have h:strSliceIndices none (some 1) 1 z.length=(Y7 (min 1 z.length)).map λk=>0+k:=by
  (unfold strSliceIndices sliceRange)
  simp only[show(1:Int) > 0 by decide,if_true,show¬ (1:Int)<0 by decide,if_false];have e:(if (0:Int)<max 0 (min 1 (z.length:Int))then(max 0 (min 1 (z.length:Int)) - 0+1 - 1) / 1 else 0).toNat=min 1 z.length:=by
   split <;> lia
  rw[e]
  (refine SK λk _=>?_)
  lia
 rw[wb z h (by lia),Uq];rcases Nat.eq_zero_or_pos z.length with q | q
 ·have:z.cps.toList=[]:=Tb (by lia);rw[this];simp
 ·rw[Nat.min_eq_left q]
theorem BM (z:Str):(YN z (some 1) none).cps.toList=z.cps.toList.drop 1:=by
 have b:z.length=z.cps.toList.length:=by simp[YV]
 have h:strSliceIndices (some 1) none 1 z.length=(Y7 (z.length - 1)).map λk=>min 1 z.length+k:=by
  (unfold strSliceIndices sliceRange)
  simp only[show(1:Int) > 0 by decide,if_true,show¬ (1:Int)<0 by decide,if_false];have e:(if max 0 (min 1 (z.length:Int))<(z.length:Int)then((z.length:Int) - max 0 (min 1 (z.length:Int))+1 - 1) / 1 else 0).toNat=z.length - 1:=by
   split <;> lia
  rw[e];refine SK λk a=>?_;have:=S5.mp a;lia
 rw[wb z h (by lia)];rcases Nat.eq_zero_or_pos z.length with q | q
 ·have:z.cps.toList=[]:=Tb (by lia);rw[this];simp
 ·rw[Nat.min_eq_left q,So (by rw[Ut];lia)]
theorem Du (z:Str):decide (V.str (YN z none (some 1))=V.str "-")=decide (z.cps.toList.head? = some 45):=by
 have c:(("-" : Str)).cps.toList=[45]:=by decide +kernel
 (rw[SR,decide_eq_true_eq,decide_eq_true_eq])
 constructor
 ·intro h;have e:YN z none (some 1) = "-" :=by injection h
  have b:=tz z;rw[e,c]at b;cases q:z.cps.toList with
  | nil=>rw[q]at b;simp at b
  | cons a r=>rw[q]at b;simp at b;simp[b]
 ·intro h;have e:YN z none (some 1) = "-" :=by
   refine ph ?_;rw[tz,c];cases q:z.cps.toList with
   | nil=>rw[q]at h;simp at h
   | cons a r=>rw[q]at h;simp at h;simp[h]
  rw[e]
theorem yK {l:List Nat} (h:l.head? = some 45):l.drop 1=bE l:=by
 cases l with
 | nil=>simp at h
 | cons a r=>simp at h;subst h;rfl
theorem BP {l:List Nat} (h:l.head? ≠ some 45):l=bE l:=by
 cases l with
 | nil=>rfl
 | cons a r=>
  unfold bE
  split
  ·rename_i q;cases q;exact(h rfl).elim
  ·rfl
theorem lt1 (a b:Nat):decide ([a] < [b])=decide (a<b):=by
 (rw[SR,decide_eq_true_eq,decide_eq_true_eq])
 constructor
 ·intro h;cases h with
  | rel h=>exact h
  | cons h=>cases h
 ·intro h;exact List.Lex.rel h
theorem le1 (a b:Nat):(!decide (([b]:List Nat) < [a]))=decide (a<=b):=by
 rw[lt1];by_cases h:b<a
 ·rw[Zg h,Zh (by lia)];rfl
 ·rw[Zh h,Zg (by lia)];rfl
theorem kD {a b:Str}{lo hi c:Nat} (e:a=⟨#[lo]⟩) (g:b=⟨#[hi]⟩) {H2:Hp}{R:Bool->Hp->Prop} (h:R (!(decide (lo<=c) && decide (c<=hi))) H2) :
  KD (vS (xg (λx y H Q=>∃i j,x = .str i/\y = .str j/\Q (.bl (!decide (j.cps.toList<i.cps.toList))) H) (λx y H Q=>∃i j,x = .str i/\y = .str j/\Q (.bl (!decide (j.cps.toList<i.cps.toList))) H) (tC (.str a)) (qX 0) (tC (.str b)))) [some (.str ⟨#[c]⟩)] H2 R:=by
 subst e g;refine⟨_,rfl,_,_,rfl,rfl,_,rfl,?_⟩;have k:(!decide ((⟨#[c]⟩:Str).cps.toList<(⟨#[lo]⟩:Str).cps.toList))=decide (lo<=c):=le1 lo c;rw[k];by_cases d:lo<=c
 ·rw[Zg d]at h ⊢;rw[Zj rfl];refine⟨_,_,rfl,rfl,_,rfl,?_⟩;have f:(!decide ((⟨#[hi]⟩:Str).cps.toList<(⟨#[c]⟩:Str).cps.toList))=decide (c<=hi):=le1 c hi;rw[f];rw[TX]at h;exact h
 ·rw[Zh d]at h ⊢;rw[Zk Ss];refine⟨_,rfl,?_⟩;rw[Bool.false_and]at h;exact h
def sg (c:Nat):Str:=⟨#[c]⟩
section
variable {K:Vz}{tt:TT}{D:Z6}{Q:VK}{H:Hp}
theorem Ah {z:Str} (f:Nat->Bool) (hz:Y1 z=true) (r:z.length<=1000000) (h:H D=none) (l:∀(c:Nat) (H2:Hp) (R:Bool->Hp->Prop),R (f c) H2->tt [some (.str ⟨#[c]⟩)] H2 R)
  (o:∀(H2:Hp),af H H2->H2 D=some (.lst (((z.cps.toList.filter f).map sg).map V.str))->Q (.ref D) H2) :
  pJ (aN 0) tt (qX 0) (Its z) D Q [none] (upd H D (.lst [])):=by
 have m:z.length=z.cps.toList.length:=by simp[YV]
 refine Gw (λi b g H2=>(∃u,g=[u])/\af H H2/\b=((((z.cps.toList.take i).filter f).map sg).map V.str)) ab ⟨⟨_,rfl⟩,af.new h,rfl⟩ (λi c b g H2 n a p=>?_) (λb g H2 a p=>?_)
 ·obtain⟨⟨u,rfl⟩,e,rfl⟩:=p;have d:z.cps.toList[i]? = some c:=by rw[S6];exact n
  have q:i<z.cps.toList.length:=aG d;have k:z.cps.toList.take (i+1)=z.cps.toList.take i++[c]:=by rw[SG,d];rfl
  have j:((((z.cps.toList.take i).filter f).map sg).map V.str).length<=i:=by
   simp only[R8];exact Sl (S0 _ _) (by rw[Sx];lia)
  show tt [some (.str ⟨#[c]⟩)] H2 _;refine l _ _ _ ?_;cases hf:f c with
  | true=>
   refine b9 ?_;refine⟨_,rfl,_,a,small (by lia),_,ab,⟨_,rfl⟩,ax h e,?_⟩;rw[k,S8,Sm,Sm];simp[hf,sg]
  | false=>
   refine br ⟨_,a,⟨_,rfl⟩,e,?_⟩;rw[k,S8];simp[hf]
 ·obtain⟨_,e,rfl⟩:=p;rw[So (by lia)]at a;exact o H2 e a
theorem NB {z:Str} (hz:Y1 z=true) {f:Nat->Bool}:∀x∈(z.cps.toList.filter f).map sg,Y1 x=true:=λx a=>by
 obtain⟨c,e,rfl⟩:=Si.mp a;have:=ib hz c (by simpa using(SM.mp e).1);exact mx λd b=>by simp[sg]at b;lia
theorem pR {σ:St}{i:Nat}{z:Str}{R:Bool->Hp->Prop} (f:Nat->Bool) (j:σ[i]? = some (some (.str z))) (hz:Y1 z=true) (o:z.length<=1000000) (k:∀(c:Nat) (H2:Hp) (R:Bool->Hp->Prop),R (f c) H2->tt [some (.str ⟨#[c]⟩)] H2 R)
  (h:∀H',af H H'->R (z.cps.toList.all λc=>!f c) H'):vS (tOp (ye K) (Av (LZ (qX i)) (aN 0) tt (qX 0) 1 []) (LR IQ)) σ H R:=by
 refine⟨_,j,z,rfl,λD n=>?_⟩;refine Ah f hz o n k λH2 l b=>?_;refine⟨Sy _,λp g=>?_⟩;refine⟨.list (((z.cps.toList.filter f).map sg).map .str),.list [],.lst (.of (by rw[aq (aw b g)];exact b)) (mi (NB hz)),.lst (.of ab) .nil,?_,_,rfl,?_⟩
 ·have:Y6 (((z.cps.toList.filter f).map sg).map PyData.str)<=0:=eX _ λd m=>by
   obtain⟨x,_,rfl⟩:=Si.mp m;exact Sb _
  show Y6 _+1<=100;lia
 ·have e:Yd (.list (((z.cps.toList.filter f).map sg).map .str)) (.list [])=z.cps.toList.all λc=>!f c:=by
   have:Yd (.list (((z.cps.toList.filter f).map sg).map .str)) (.list [])=(z.cps.toList.filter f).isEmpty:=by
    cases z.cps.toList.filter f with
    | nil=>rfl
    | cons a r=>rfl
   rw[this,SR,Uu,T3,SJ];simp
  rw[e];exact h _ (l.trans (af.new g))
end
inductive Pt where
 | word (w:Str)
 | hole (k:Nat)
 deriving DecidableEq
def Pt.dat:Pt->Zb
 | .word w=>.tuple [.str "word",.str w]
 | .hole k=>.tuple [.str "hole",.str (cx k)]
def TOk (w:Str):Prop:=w.length<=10000/\Y1 w=true
def Pt.ok:Pt->Prop
 | .word w=>TOk w
 | .hole k=>k<3
def bx (ps:List Pt):Zb:=.list (ps.map Pt.dat)
def POk (ps:List Pt):Prop:=ps.length<=10000/\∀p∈ps,p.ok
def Pt.takes:Pt->Str->Bool
 | .word x,w=>decide (w=x)
 | .hole 0,w=>decide (dw w=0)
 | .hole 1,w=>decide (dw w=1)
 | .hole _,w=>dE w
def aW (ps:List Pt) (ws:List Str):Bool:=decide (ps.length=ws.length) && (ps.zip ws).all λp=>p.1.takes p.2
def Pt.within:Pt->Pt->Bool
 | .word x,q=>q.takes x
 | .hole k,q=>decide (q = .hole k) || decide (q = .hole 2)
def ic (ps qs:List Pt):Bool:=decide (ps.length=qs.length) && (ps.zip qs).all λp=>p.1.within p.2
def Pt.loose:Pt->Int
 | .word _=>0
 | .hole 0=>1
 | .hole 1=>1
 | .hole _=>2
def Pt.around:Pt->Nat
 | .word w=>dw w
 | .hole k=>k
def iO (ps:List Pt):Pt:=match ps with
 | []=>.hole 2
 | p::r=>if r.all (λq=>decide (q=p))=true then p else if r.all (λq=>decide (q.around=p.around))=true then .hole p.around else .hole 2
theorem vQ {i j:Nat} (hi:i<3) (hj:j<3) (h:cx i=cx j):i=j:=by
 have key:∀i<3,∀j<3,cx i=cx j->i=j:=by decide +kernel
 exact key i hi j hj h
theorem CZ {p q:Pt} (a:p.ok) (c:q.ok) (h:p.dat=q.dat):p=q:=by
 cases p with
 | word w=>
  cases q with
  | word b=>simp[Pt.dat]at h;rw[h]
  | hole k=>
   have:("word" : Str) ≠ "hole" :=by decide +kernel
   simp[Pt.dat]at h;exact(this h.1).elim
 | hole k=>
  cases q with
  | word b=>
   have:("hole" : Str) ≠ "word" :=by decide +kernel
   simp[Pt.dat]at h;exact(this h.1).elim
  | hole _=>
   simp[Pt.dat]at h;rw[vQ a c h]
def Jj:Sh:=.cO .str (.cO .str .rn)
theorem Ge (p:Pt):Jj.has p.dat:=by
 cases p with
 | word w=>exact⟨_,_,rfl,⟨_,rfl⟩,_,_,rfl,⟨_,rfl⟩,rfl⟩
 | hole k=>exact⟨_,_,rfl,⟨_,rfl⟩,_,_,rfl,⟨_,rfl⟩,rfl⟩
theorem LD {p q:Pt} (hp:p.ok) (hq:q.ok):Yd p.dat q.dat=decide (p=q):=by
 rw[SR,decide_eq_true_eq,(Sh.ok Jj).eqv _ _ (Ge p) (Ge q)];exact⟨CZ hp hq,λh=>by rw[h]⟩
theorem CU (pt:Pt):pt.dat.depth<=5:=by cases pt <;> simp[Pt.dat,Yy,Y6]
theorem iG (ps:List Pt):(bx ps).depth<=90:=by
 have h:Y6 (ps.map Pt.dat)<=5:=eX _ λd hd=>by
  obtain⟨pt,_,rfl⟩:=Si.mp hd;exact CU pt
 simp only[bx,Yy];lia
theorem yx {K:Vz}{H:Hp}{v:V}{x:Str} (h:Den K H v (.str x)):v = .str x/\Y1 x=true:=by
 cases h with
 | str q=>exact⟨rfl,q⟩
theorem mq {K:Vz}{H:Hp}{v:V}{x y:Str} (h:Den K H v (.tuple [.str x,.str y])):∃a,v = .ref a/\SqT K H a [.str x,.str y]/\Y1 x=true/\Y1 y=true:=by
 cases h with
 | tup c t=>
  cases t with
  | cons b t=>cases t with
   | cons e t=>
    cases t;obtain⟨rfl,f⟩:=yx b;obtain⟨rfl,d⟩:=yx e;exact⟨_,rfl,c,f,d⟩
theorem qg {K:Vz}{H:Hp}{v:V}{pt:Pt} (h:Den K H v pt.dat):∃a x y,v = .ref a/\SqT K H a [.str x,.str y]/\Y1 x=true/\Y1 y=true/\(match pt with | .word w=>x = "word" /\ y=w | .hole k=>x = "hole" /\ y=cx k):=by
 cases pt with
 | word w=>obtain⟨a,rfl,b,d,c⟩:=mq h;exact⟨a,_,_,rfl,b,d,c,rfl,rfl⟩
 | hole k=>obtain⟨a,rfl,b,d,c⟩:=mq h;exact⟨a,_,_,rfl,b,d,c,rfl,rfl⟩
theorem fc {K:Vz}{H:Hp}{v:V}{ps:List Pt} (h:Den K H v (bx ps)):∃a xs,v = .ref a/\SqL K H a xs/\aE K H xs (ps.map Pt.dat):=by
 cases h with
 | lst hq t=>exact⟨_,_,rfl,hq,t⟩
end LG
namespace L2
open PySem PySem.Spec PyProof.Rows
section
variable {X:Cx}
def d4 (K:Vz):List V->Hp->VK->Prop:=λxs H Q=>∃p ys,xs=[.ref p]/\(SqL K H p ys\/SqT K H p ys)/\Q (.int ys.length) H
theorem bh:gQ X (.builtin "len") (d4 X.K):=wI
theorem gc:bootBuiltins "isinstance" = some (.builtin "isinstance"):=by decide +kernel
theorem GH:bootBuiltins "str" = some (.type "str"):=by decide +kernel
theorem L6:bootBuiltins "int" = some (.type "int"):=by decide +kernel
theorem za:bootBuiltins "tuple" = some (.type "tuple"):=by decide +kernel
theorem K2:bootBuiltins "max" = some (.builtin "max"):=by decide +kernel
theorem E9 {K:Vz}{a:Z6}{x y:V}{σ:St}{H:Hp}{F G:St->Hp->Prop} (c:SqT K H a [x,y]) (h:F ((σ.set 0 (some x)).set 1 (some y)) H) :
  oY K 2 (cF (aN 0) (cF (aN 1) pH)) (.ref a) σ H λσ2 H2=>KR σ2 H2 λb H3=>if b=true then F σ2 H3 else G σ2 H3:=by
 refine⟨a,_,rfl,c,rfl,_,_,rfl,_,_,rfl,rfl,?_⟩;show(if true=true then F ((σ.set 0 (some x)).set 1 (some y)) H else G ((σ.set 0 (some x)).set 1 (some y)) H);rw[Zj rfl];exact h
end
theorem wO {X:Cx}{K:Vz}{o e:Expr}{es:List Expr}{to:TE}{t:TA}{name:Str}{apos dC:Pos}{T id:String}{r:V->List V->Hp->VK->Prop} (d:X.K=K) (pa:PlainAttrs T) (slot:Slot T name id) (a:typeOf (.builtin id)=pure (.type "method_descriptor")) (h:MtR X id r) (f:PE X o to) (i:PA X (e::es) t)
  (j:attributeBase o name X.env (eval o X.env)=eval o X.env:=by rfl)
  (g:((backTo dC (Ze (e::es) X.env)).all (λx=>!x.1) && (backToKw dC (keywordEach [] X.env)).all (λx=>x.1.isSome)
   && decide ((e::es).length+([]:List Keyword).length+(if ([]:List Keyword).isEmpty then 0 else 1)<30))=true:=by rfl)
  (k:(apos.endLine == dC.line)=true:=by rfl) (b:Ze (e::es) X.env=(false,eval e X.env)::Ze es X.env:=by rfl) (c:(backTo dC (Ze es X.env)).any (·.1)=false:=by rfl) :
  PE X (.Call (.Attribute o name apos) (e::es) [] dC) (tBM K T r to t):=by
 subst d;exact ee pa slot a h f i j g k b c
def Oa (sc osc:Scope):Scope:={ sc with names:=sc.names.map λ(n,k)=>if (k == .free && osc.kind == .function && osc.names.lookup n == some .cell)then(n,.cell)else(n,k) }
theorem ym {c:Cx}{d a:Scope}{b N':List Str}{n:Nat}{fi:List Nat}{s:Vx}{H:Hp}{fp:List Z6} (osc:Scope) (h:K3 d (Oa a osc) b N' n fi=true) (e:c.env.scope=osc:=by rfl):k6 (fG c a b s H fp) d N' n fi:=by
 subst e;exact aY (Oa a c.env.scope) b h rfl rfl
theorem SqT.MK {K:Vz}{H0 b H':Hp}{a:Z6}{xs:List V} (f:LL H0 b) (s:af b H') (h:SqT K b a xs):SqT K (L2.lim H0 H') a xs:=by
 have c:∀o:HO,b a=some o->(∀zs,o ≠ .lst zs)->∀zs,H0 a≠some (.lst zs):=λo d g zs e=>by
  obtain⟨i,q⟩:=f a zs e;rw[d]at q;cases q;exact g i rfl
 rcases h with(h | ⟨o,h⟩) | h
 ·exact .inl (.inl (by rw[bK (c _ h λzs z=>by cases z)];exact s _ _ h))
 ·exact .inl (.inr ⟨o,by rw[bK (c _ h λzs z=>by cases z)];exact s _ _ h⟩)
 ·exact .inr h
end L2
namespace LG
open PySem L2 PySem.Builtin PySem.Builtin.Str
def LOk (w:Str):Prop:=w.length<=10000
theorem LOk.s {w:Str} (h:LOk w):w.length<=Zc:=Sl h (by decide)
def lN (K:Vz):Sp:=λvs H Q _=>∃z y:Str,vs=[.str z,.str y]/\LOk z/\Q (.bl (dZ (λc=>y.cps.contains c) z.cps.toList)) H
def kB (K:Vz):Sp:=λvs H Q _=>∃z:Str,vs=[.str z]/\LOk z/\Q (.bl (dE z)) H
def nQ (K:Vz):Sp:=λvs H Q _=>∃z:Str,vs=[.str z]/\LOk z/\Q (.str (lW (dw z))) H
def gB (K:Vz):Sp:=λvs H Q _=>∃z:Str,vs=[.str z]/\LOk z/\∀l,H l=none->Q (.ref l) (upd H l (.lst ((Y4 z " ").map V.str)))
def fX (K:Vz):Sp:=λvs H Q _=>∃v pt,vs=[v]/\Den K H v (Pt.dat pt)/\Q (.bl (match pt with | .hole _=>true | _=>false)) H
def mY (K:Vz):Sp:=λvs H Q _=>∃(v:V) (w:Str) (p:Pt),vs=[v,.str w]/\Den K H v p.dat/\p.ok/\LOk w/\Q (.bl (p.takes w)) H
def pN (K:Vz):Sp:=λvs H Q _=>∃(a b:Z6) (xs:List V) (ps:List Pt) (ws:List Str),vs=[.ref a,.ref b]/\SqL K H a xs/\aE K H xs (ps.map Pt.dat)/\(∀p∈ps,p.ok)/\SqL K H b (ws.map V.str)/\(∀w∈ws,LOk w)/\∀H',af H H'->Q (.bl (aW ps ws)) H'
def Cv (K:Vz):Sp:=λvs H Q _=>∃(v:V) (z:Str) (ps:List Pt),vs=[v,.str z]/\Den K H v (bx ps)/\(∀p∈ps,p.ok)/\LOk z/\Y1 z=true/\∀H',af H H'->Q (.bl (aW ps (Y4 z " "))) H'
def fj (K:Vz):Sp:=λvs H Q _=>∃(v:V) (p:Pt),vs=[v]/\Den K H v p.dat/\p.ok/\Q (.str (cx p.around)) H
def gE (K:Vz):Sp:=λvs H Q _=>∃(v:V) (p:Pt),vs=[v]/\Den K H v p.dat/\p.ok/\Q (.int p.loose) H
def om (K:Vz):Sp:=λvs H Q _=>∃(v:V) (ps:List Pt),vs=[v]/\Den K H v (bx ps)/\POk ps/\∀D H',H D=none->af H H'->H' D=some (.lst (ps.map λp=>.int p.loose))->Q (.ref D) H'
def lI (K:Vz):Sp:=λvs H Q _=>∃(a:Z6) (xs:List V) (ps:List Pt),vs=[.ref a]/\SqL K H a xs/\aE K H xs (ps.map Pt.dat)/\ps≠[]/\POk ps/\∀r H',af H H'->Den K H' r (iO ps).dat->Q r H'
theorem qh {p:Pt} (h:p.ok):p.around<3:=by
 cases p with
 | word w=>exact tD _
 | hole k=>exact h
theorem tq {k:Nat}:Y1 (cx k)=true:=by
 match k with
 | 0=>decide +kernel
 | 1=>decide +kernel
 | (n+2)=>show Y1 (cx 2)=true;decide +kernel
theorem zv {k:Nat} (hk:k<3):decide (V.str (cx k)=V.str "any")=decide (k=2):=by
 match k,hk with
 | 0,_=>decide +kernel
 | 1,_=>decide +kernel
 | 2,_=>decide +kernel
theorem EI {k:Nat} (hk:k<2) (w:Str):decide (V.str (lW (dw w))=V.str (cx k))=decide (dw w=k):=by
 have h:cx k=lW k:=by
  match k,hk with
  | 0,_=>rfl
  | 1,_=>rfl
 rw[h];exact DJ (tD _) (by lia)
theorem yv (z:Str):dw z<3:=tD _
theorem zQ (m:Nat) (q:Pt):(Pt.hole m).within q=(decide (q = .hole m) || decide (q = .hole 2)):=rfl
theorem EJ (z:Str):(Txt.removeprefix z "-").length<=z.length:=by
 have h:=yE z;have b:(Txt.removeprefix z "-").length=(Txt.removeprefix z "-").cps.toList.length:=by simp[YV]
 have a:z.length=z.cps.toList.length:=by simp[YV]
 rw[b,h,a];generalize z.cps.toList=l;unfold bE
 split <;> simp
theorem DL {ps:List Pt}{ws:List Str} (h:ps.length≠ws.length):aW ps ws=false:=by unfold aW;rw[Zh h];rfl
theorem EY {α β:Type}{f:α×β->Bool}{xs:List α}{ys:List β}{i:Nat}{x:α}{y:β} (hx:xs[i]? = some x) (a:ys[i]? = some y) (h:f (x,y)=false):(xs.zip ys).all f=false:=by
 rw[SI];intro q;rw[SJ]at q;have b:(x,y)∈xs.zip ys:=by
  refine Sd (i:=i) ?_;rw[SU];exact⟨hx,a⟩
 rw[q _ b]at h;cases h
theorem C2 {α β:Type}{f:α×β->Bool}{xs:List α}{ys:List β} (h:∀(i:Nat) x y,i<min xs.length ys.length->xs[i]? = some x->ys[i]? = some y->f (x,y)=true):(xs.zip ys).all f=true:=by
 rw[SJ];intro p b;obtain⟨i,a⟩:=TJ b;rw[SU]at a;have c:=aG a.1;have d:=aG a.2;exact h i p.1 p.2 (by lia) a.1 a.2
theorem jW {K:Vz}{H:Hp}{xs:List V}{ps:List Pt}{i:Nat}{x:V} (h:aE K H xs (ps.map Pt.dat)) (hx:xs[i]? = some x):∃p,ps[i]? = some p/\Den K H x p.dat:=by
 obtain⟨d,a,b⟩:=h.get hx;rw[Se]at a;cases e:ps[i]? with
 | none=>rw[e]at a;cases a
 | some p=>rw[e]at a;cases a;exact⟨p,rfl,b⟩
theorem e9 {ws:List Str}{i:Nat}{y:V} (h:(ws.map V.str)[i]? = some y):∃w,ws[i]? = some w/\y = .str w:=by
 rw[Se]at h;cases e:ws[i]? with
 | none=>rw[e]at h;cases h
 | some w=>rw[e]at h;cases h;exact⟨w,rfl,rfl⟩
theorem Jm {K:Vz}{H0 b H':Hp} (f:LL H0 b) (s:af b H') {v:V}{pt:Pt} (h:Den K b v pt.dat):Den K (lim H0 H') v pt.dat:=by
 cases pt with
 | word w=>obtain⟨a,rfl,c,e,d⟩:=mq h;exact .tup (c.MK f s) (.cons (.str e) (.cons (.str d) .nil))
 | hole k=>obtain⟨a,rfl,c,e,d⟩:=mq h;exact .tup (c.MK f s) (.cons (.str e) (.cons (.str d) .nil))
def bu (pss:List (List Pt)) (n:Nat):List Pt:=(Y7 n).map λi=>iO (pss.map λps=>ps.getD i (.hole 2))
def vR (K:Vz):Sp:=λvs H Q _=>∃(a:Z6) (xs:List V) (pss:List (List Pt)) (n:Nat),vs=[.ref a]/\SqL K H a xs/\aE K H xs (pss.map bx)/\pss≠[]/\pss.length<=10000/\(∀ps∈pss,POk ps/\ps.length=n) /\
 ∀D acc H',H D=none->af H H'->H' D=some (.lst acc)->aE K (lim H H') acc ((bu pss n).map Pt.dat)->Q (.ref D) H'
theorem wD (pss:List (List Pt)) (n:Nat):bu pss (n+1)=bu pss n++[iO (pss.map λps=>ps.getD n (.hole 2))]:=by simp[bu,Uy]
theorem gF {K:Vz}{H:Hp}{xs:List V}{pss:List (List Pt)}{i:Nat}{x:V} (h:aE K H xs (pss.map bx)) (hx:xs[i]? = some x):∃ps,pss[i]? = some ps/\Den K H x (bx ps):=by
 obtain⟨d,a,b⟩:=h.get hx;rw[Se]at a;cases e:pss[i]? with
 | none=>rw[e]at a;cases a
 | some p=>rw[e]at a;cases a;exact⟨p,rfl,b⟩
end LG
namespace LG
open PySem L2
def Pt.key:Pt->Zb
 | .word w=>.tuple [.int 0,.int w.length,.str w]
 | .hole k=>.tuple [.int 1,.int k,.str ""]
def k5 (ps:List Pt):Zb:=.tuple [.int ps.length,.list (ps.map Pt.key)]
theorem Jz (pt:Pt):pt.key.depth<=5:=by cases pt <;> simp[Pt.key,Yy,Y6]
theorem EU (ps:List Pt):(k5 ps).depth<=100:=by
 have h:Y6 (ps.map Pt.key)<=5:=eX _ λd hd=>by
  obtain⟨pt,_,rfl⟩:=Si.mp hd;exact Jz pt
 simp only[k5,Yy,Y6];lia
def FX:Sh:=.cO .int (.cO .int (.cO .str .rn))
def E3:Sh:=.cO (.list FX) .rn
theorem Iw (pt:Pt):FX.has pt.key:=by
 cases pt with
 | word w=>exact⟨_,_,rfl,⟨_,rfl⟩,_,_,rfl,⟨_,rfl⟩,_,_,rfl,⟨_,rfl⟩,rfl⟩
 | hole k=>exact⟨_,_,rfl,⟨_,rfl⟩,_,_,rfl,⟨_,rfl⟩,_,_,rfl,⟨_,rfl⟩,rfl⟩
theorem ER (ps:List Pt):(Sh.cO .int E3).has (k5 ps):=by
 refine⟨_,_,rfl,⟨_,rfl⟩,_,_,rfl,⟨_,rfl,λx hx=>?_⟩,rfl⟩;obtain⟨pt,_,rfl⟩:=Si.mp hx;exact Iw pt
theorem map_inj {α β:Type}{f:α->β} (c:∀a b,f a=f b->a=b):∀{l l':List α},l.map f=l'.map f->l=l'
 | [],[],_=>rfl
 | [],_::_,h=>by simp at h
 | _::_,[],h=>by simp at h
 | a::r,b::r',h=>by
  rw[Sv,Sv]at h;injection h with h1 h2;rw[c a b h1,map_inj c h2]
def zf (l:List (List Pt)):Prop:=l.Pairwise λa b=>ltv (k5 b) (k5 a)=false
def sel (pss:List (List Pt)) (p:List Nat):List (List Pt):=p.map λi=>pss.getD i []
theorem Hw {pss:List (List Pt)}{p:List Nat} (b:p.Perm (Y7 pss.length)):(sel pss p).Perm pss:=by
 have a:(sel pss p).Perm ((Y7 pss.length).map λi=>pss.getD i []):=b.map _
 rwa [fh]at a
theorem Ba {pss:List (List Pt)}{p:List Nat} (c:p.Perm (Y7 pss.length)) (h:fE (pss.map k5) p):zf (sel pss p):=by
 unfold fE at h;unfold zf sel;rw[Tu]at h ⊢;refine h.imp_of_mem λ{i j} d g q=>?_;have a:i<pss.length:=S5.mp (c.mem_iff.mp d);have b:j<pss.length:=S5.mp (c.mem_iff.mp g);have f:(pss.map k5).getD i .none=k5 (pss.getD i []):=by simp[YD,R9 a]
 have e:(pss.map k5).getD j .none=k5 (pss.getD j []):=by simp[YD,R9 b]
 rw[f,e]at q;exact q
def GP (H H':Hp) (acc:List V):Prop:=∀x∈acc,∃t ys,x = .ref t/\H t=none/\H' t=some (.lst ys)/\ys.length<=10000
def lu (K:Vz):Sp:=λvs H Q _=>∃w,vs=[.str w]/\LOk w/\∀p,H p=none->Q (.ref p) (upd H p (.tup [.int w.length,.str w]))
def qy (K:Vz):Sp:=λvs H Q _=>∃v pt,vs=[v]/\Den K H v (Pt.dat pt)/\pt.ok/\∀r H',af H H'->Den K (lim H H') r pt.key->Q r H'
def lj (K:Vz):Sp:=λvs H Q _=>∃v ps,vs=[v]/\Den K H v (bx ps)/\POk ps/\∀r H',af H H'->Den K (lim H H') r (k5 ps)->Q r H'
def jZ (K:Vz):Sp:=λvs H Q _=>∃a xs pss,vs=[.ref a]/\SqL K H a xs/\xs.length<64/\aE K H xs (pss.map bx)/\(∀ps∈pss,POk ps) /\
 ∀D acc H' l,H D=none->af H H'->H' D=some (.lst acc)->l.Perm pss->zf l->GP H H' acc->(∀x∈acc,x ≠ .ref D)->aE K (lim H H') acc (l.map bx)->Q (.ref D) H'
theorem JP {K:Vz}{H:Hp}{xs:List V}{pss:List (List Pt)}{p:List Nat}{i:Nat}{x:V} (a:aE K H xs (pss.map bx)) (f:p.Perm (Y7 pss.length)) (hx:(picked xs p)[i]? = some x) :
  ∃ps,(sel pss p)[i]? = some ps/\ps∈pss/\Den K H x (bx ps):=by
 unfold picked at hx;rw[Se]at hx;cases e:p[i]? with
 | none=>rw[e]at hx;cases hx
 | some j=>
  rw[e]at hx;cases hx;have b:j<pss.length:=S5.mp (f.mem_iff.mp (Sd e));have d:=a.Hr j (by rw[R8];exact b);have c:pss[j]? = some pss[j]:=R9 b;refine⟨pss[j],?_,S7 b,?_⟩
  ·unfold sel;rw[Se,e];simp[YD,c]
  ·have g:(pss.map bx).getD j .none=bx pss[j]:=by simp[YD,c]
   rw[<-g];exact d
theorem LN {m:Nat} (a:m<3):eqV (([.str "number",.str "name",.str "any"]:List V).getD m .non) (.str (cx m))=true:=by
 match m,a with
 | 0,_=>decide +kernel
 | 1,_=>decide +kernel
 | 2,_=>decide +kernel
theorem Oz {m:Nat} (b:m<3):∀i,i<m->eqV (([.str "number",.str "name",.str "any"]:List V).getD i .non) (.str (cx m))=false:=by
 match m,b with
 | 0,_=>intro i a;lia
 | 1,_=>
  intro i a;have:i=0:=by lia
  subst this;decide +kernel
 | 2,_=>
  intro i a;have:i=0\/i=1:=by lia
  rcases this with rfl | rfl <;> decide +kernel
theorem Io:([.str "number",.str "name",.str "any"]:List V).all iB=true:=rfl
theorem Kz {K:Vz}{H H0 H':Hp} (f:af H H0) (e:af H H') {v:V}{pt:Pt} (h:Den K H v pt.dat):Den K (lim H0 H') v pt.dat:=by
 cases pt with
 | word w=>obtain⟨a,rfl,b,d,c⟩:=mq h;exact .tup (b.lim f e) (.cons (.str d) (.cons (.str c) .nil))
 | hole k=>obtain⟨a,rfl,b,d,c⟩:=mq h;exact .tup (b.lim f e) (.cons (.str d) (.cons (.str c) .nil))
theorem rL {K:Vz}{H H0 H':Hp} (b:af H H0) (a:af H H'):∀{ps:List Pt}{xs:List V},aE K H xs (ps.map Pt.dat)->aE K (lim H0 H') xs (ps.map Pt.dat)
 | [],_,h=>by cases h;exact .nil
 | pt::r,_,h=>by
  cases h with
  | cons c t=>exact .cons (Kz b a c) (rL b a t)
def looseD (ps:List Pt):Zb:=.list (ps.map λp=>.int p.loose)
theorem vo {K:Vz}{H:Hp}:∀{ps:List Pt},aE K H (ps.map λp=>V.int p.loose) (ps.map λp=>PyData.int p.loose)
 | []=>.nil
 | p::r=>.cons (.int _) vo
theorem tm (ps:List Pt):(Sh.list .int).has (looseD ps):=by
 refine⟨_,rfl,λx hx=>?_⟩;obtain⟨p,_,rfl⟩:=Si.mp hx;exact⟨_,rfl⟩
theorem DG (ps:List Pt):(looseD ps).depth<=100:=by
 have h:Y6 (ps.map λp=>PyData.int p.loose)<=0:=eX _ λd a=>by
  obtain⟨p,_,rfl⟩:=Si.mp a;exact Sb _
 simp only[looseD,Yy];lia
def An (l:List (List Pt)) (ps:List Pt):Prop:=ps∈l/\∀q∈l,ltv (looseD q) (looseD ps)=false/\(looseD q=looseD ps->ltv (k5 q) (k5 ps)=false)
theorem Hu {l:List (List Pt)} (n:l≠[]) (k:zf l):∃ps,l[cn (l.map looseD)]? = some ps/\An l ps:=by
 obtain⟨d,a,i,j⟩:=tN (Sh.ok (.list .int)) (all:=l.map looseD) (λd a=>by obtain⟨ps,_,rfl⟩:=Si.mp a;exact tm ps) (by intro z;exact n (Tp.mp z));rw[Se]at a;cases e:l[cn (l.map looseD)]? with
 | none=>rw[e]at a;cases a
 | some ps=>
  rw[e]at a;cases a;refine⟨ps,rfl,Sd e,λq o=>?_⟩;obtain⟨m,b⟩:=TJ o;have c:(l.map looseD)[m]? = some (looseD q):=by rw[Se,b];rfl
  refine⟨i m _ c,λg=>?_⟩;rcases Nat.lt_trichotomy m (cn (l.map looseD))with z | z | z
  ·have:=j m _ z c;rw[g,(Sh.ok (.list .int)).irr _ (tm ps)]at this;cases this
  ·rw[z,e]at b;cases b;exact(Sh.ok (.cO .int E3)).irr _ (ER _)
  ·have f:m<l.length:=aG b;have h:cn (l.map looseD)<l.length:=aG e;have:=Ud.mp k _ m h f z;rw[R9 f]at b;rw[R9 h]at e;cases b;cases e;exact this
def cL (z:Str) (ps:List Pt):Bool:=aW ps (Y4 z " ")
def Km (K:Vz) (H H':Hp) (l:List (List Pt)) (r:V):Prop:=(l=[]/\r = .non)\/∃(t:Z6) (ys:List V) (ps:List Pt),r = .ref t/\H t=none/\H' t=some (.lst ys)/\An l ps/\Den K (lim H H') r (bx ps)
def lH (K:Vz):Sp:=λvs H Q _=>∃(z:Str) (a:Z6) (xs:List V) (pss:List (List Pt)),vs=[.str z,.ref a]/\SqL K H a xs/\xs.length<64/\aE K H xs (pss.map bx)/\(∀ps∈pss,POk ps)/\LOk z/\Y1 z=true /\
 ∀r H',af H H'->Km K H H' (pss.filter (cL z)) r->Q r H'
end LG
namespace LG
open PySem L2 PySem.Builtin PySem.Builtin.Str
def Dk (H:Hp) (d:Z6) (n:Nat):Prop:=∃a b c:Int,H d=some (.lst [.int a,.int b,.int c])/\0<=a/\0<=b/\b<2147483579/\0<=c/\c<=n
theorem Dk.mono {H:Hp}{d:Z6}{n m:Nat} (h:Dk H d n) (hm:n<=m):Dk H d m:=by
 obtain⟨a,b,c,h1,h2,h3,h4,h5,h6⟩:=h;exact⟨a,b,c,h1,h2,h3,h4,h5,by lia⟩
theorem Dk.lst {H:Hp}{d:Z6}{n:Nat} (h:Dk H d n):∃ys,H d=some (.lst ys):=by
 obtain⟨a,b,c,h1,_⟩:=h;exact⟨_,h1⟩
theorem Dk.same {H H':Hp}{d:Z6}{n:Nat} (h:Dk H d n) (s:af H H'):Dk H' d n:=by
 obtain⟨a,b,c,h1,h2⟩:=h;exact⟨a,b,c,s _ _ h1,h2⟩
theorem Dk.upd {H:Hp}{d D:Z6}{n:Nat}{o:HO} (h:Dk H d n) (hne:d≠D):Dk (upd H D o) d n:=by
 obtain⟨a,b,c,h1,h2⟩:=h;exact⟨a,b,c,by rw[aq hne];exact h1,h2⟩
theorem Dk.ne {H:Hp}{d p:Z6}{n:Nat} (h:Dk H d n) (hp:H p=none):d≠p:=by
 obtain⟨ys,h1⟩:=h.lst;exact aw h1 hp
theorem Dk.free {H H':Hp}{d p:Z6}{n:Nat} (h:Dk H' d n) (s:af (wo d H) H') (hp:H' p=none):H p=none:=by
 have h1:(wo d H) p=none:=s.free hp
 rwa [au (h.ne hp).symm]at h1
theorem cf {H H':Hp}{d p:Z6}{o:HO} (s:af (wo d H) H') (h:H p=some o) (hne:d≠p):H' p=some o:=s p o (by rw[au (YQ hne)];exact h)
theorem yN {H H3 a:Hp}{d:Z6}{ys:List V} (h:H d=some (.lst ys)) (s:af (wo d H3) a):af (lim H H3) (lim H a):=λb o e=>by
 have c:=iY e;have f:b≠d:=λq=>by subst q;exact c _ h
 rw[bK c];exact s b o (by rw[au f];exact dA b o e)
theorem pf {l:List Str}{r:Int} (b:0<=r) (h1:r<l.length):∃x∈l,atI (l.map V.str) r=some (.str x):=by
 obtain⟨j,rfl⟩:=T1 (b:(0:Int)<=r);have a:j<l.length:=by lia
 exact⟨l[j],S7 a,cA (by rw[Se,R9 a];rfl)⟩
theorem Je {z:Str}{r:Int} (b:0<=r) (h1:r<z.length):∃(c i:Nat),atI z.cps.toList r=some c/\z.cps[i]? = some c:=by
 obtain⟨j,rfl⟩:=T1 (b:(0:Int)<=r);have a:j<z.cps.size:=by have:z.length=z.cps.size:=rfl;lia
 exact⟨z.cps[j],j,cA (by rw[S6,SY a]),SY a⟩
theorem Lw {n:Nat}{i:Int} (h0:0<=i) (h1:i<n):ixN n i=some i.toNat:=by
 unfold ixN;rw[Zj h0,Zj h1]
theorem Gg {xs:List V}{i:Int} (h:0<=i):uF xs none (some i)=xs.take i.toNat:=by
 unfold uF;have a:HT.sIx xs.length 0 none=0:=by simp[HT.sIx]
 rw[a];obtain⟨j,rfl⟩:=T1 (h:(0:Int)<=i);rw[HT.Jy,Te,Uq,Nat.sub_zero];rcases Nat.le_total j xs.length with q | q
 ·rw[Nat.min_eq_left q]
 ·rw[Nat.min_eq_right q,So (Sb _),So q]
structure WOk (w:Str):Prop where
 word:dE w=true
 len:w.length<=6
 ok:Y1 w=true
theorem F3:sgn 32=false:=by decide
theorem WOk.blank {w:Str} (h:WOk w):32∉w.cps.toList:=λq=>by
 have h1:=h.word;unfold dE dZ at h1;rw[S4,SJ]at h1;have:=h1.2 32 q;rw[F3]at this;cases this
def xp:List Str:=["get","put","a"]
def wX:List Str:=["0","7","12","-3","007"]
def xk:List Str:=["id=4","<any>","=","x1","-","A","<","none"]
def B2:List Str:=["abcdefghijklmnopqrstuvwxyz","0123456789","-09az","!\"#$&'()*+,-./:;<=>?@AZ[\\]^_{|}~"]
theorem w1:∀x∈xp,dE x=true/\x.length<=6/\Y1 x=true:=by decide +kernel
theorem w2:∀x∈wX,dE x=true/\x.length<=6/\Y1 x=true:=by decide +kernel
theorem w3:∀x∈xk,dE x=true/\x.length<=6/\Y1 x=true:=by decide +kernel
theorem w4:∀x∈B2,Y1 x=true/\x.length<=100/\0<x.length/\x.cps.toList.all sgn=true:=by decide +kernel
theorem G5 {p:Nat->Prop}{y:Str} (d:∀c∈y.cps,p c):∀(xs:List Str) (acc:Array Nat),(∀x∈xs,∀c∈x.cps,p c)->(∀c∈acc,p c)->(∀c∈xs.foldl (λacc q=>acc++y.cps++q.cps) acc,p c)/\acc.size<=(xs.foldl (λacc q=>acc++y.cps++q.cps) acc).size
 | [],acc,_,h=>⟨h,Sb _⟩
 | x::r,acc,hx,h=>by
  have b:=G5 d r (acc++y.cps++x.cps) (λz e=>hx z (Sf _ e)) λc a=>by
   rcases Uv.mp a with a | a
   ·rcases Uv.mp a with a | a
    ·exact h c a
    ·exact d c a
   ·exact hx x (Sk ..) c a
  refine⟨b.1,Sl ?_ b.2⟩;rw[Array.size_append,Array.size_append];lia
theorem Ef {l:List Str} (v:1<=l.length) (w:l.length<=4) (h:∀y∈l,Y1 y=true/\y.length<=1/\∃c,y=⟨#[c]⟩/\sgn c=true):WOk (YG "" l):=by
 have n:=Cs (y:= "") (m:=1) (by decide +kernel) (λy i=>⟨(h y i).1,(h y i).2.1⟩);have t:(("" : Str)).length=0:=rfl;rw[t]at n;refine⟨?_,by lia,n.1⟩;cases l with
 | nil=>simp at v
 | cons x r=>
  have s:=h x (Sk ..);obtain⟨c,g,j⟩:=s.2.2;have o:=G5 (p:=λc=>sgn c=true) (y:= "") (λc f=>by rw[show(Yo "").cps = #[]from rfl]at f;simp at f) r x.cps (λy i c f=>by
   obtain⟨_,rfl,u⟩:=(h y (Sf _ i)).2.2;simp at f;subst f;exact u) (λc f=>by
   subst g;simp at f;subst f;exact j)
  have e:(YG "" (x::r)).cps=r.foldl (λd q=>d++(("" : Str)).cps++q.cps) x.cps:=rfl;unfold dE dZ;rw[e,S4];constructor
  ·have k:1<=(r.foldl (λd q=>d++(("" : Str)).cps++q.cps) x.cps).size:=Sl (by subst g;simp) o.2;cases q:(r.foldl (λd q=>d++(("" : Str)).cps++q.cps) x.cps).toList with
   | nil=>rw[<-SA,q]at k;simp at k
   | cons a b=>rfl
  ·rw[SJ];intro c f;exact o.1 c (by simpa using f)
def cT (K:Vz):Sp:=λvs H Q _=>∃(d:Z6) (m:Int) (n:Nat),vs=[.ref d,.int m]/\Dk H d n/\n<1000000/\0<m/\m<1000000/\∀(r:Int) H',af (wo d H) H'->Dk H' d (n+1)->0<=r->r<m->Q (.int r) H'
def oQ (K:Vz):Sp:=λvs H Q _=>∃z:Str,vs=[.str z]/\TOk z/\∀H',af H H'->Q (.str (lW (eh z.cps.toList))) H'
def jN (K:Vz):Sp:=λvs H Q _=>∃(d:Z6) (n:Nat),vs=[.ref d]/\Dk H d n/\n<900000/\∀(x:Str) H',af (wo d H) H'->Dk H' d (n+6)->WOk x->Q (.str x) H'
structure ir (m:Nat) (x:Str) (ws:List Str):Prop where
 eq:x=YG " " ws
 pos:1<=ws.length
 le:ws.length<=m
 wd:∀w∈ws,WOk w
theorem ir.split {m:Nat}{x:Str}{ws:List Str} (h:ir m x ws):Y4 x " " = ws:=by
 rw[h.eq];exact Bl (by intro e;have:=h.pos;rw[e]at this;simp at this) λw hw=>(h.wd w hw).blank
theorem ir.ok {m:Nat}{x:Str}{ws:List Str} (h:ir m x ws) (d:m<=12):Y1 x=true/\x.length<=84:=by
 have b:=Cs (y:= " ") (m:=6) (by decide +kernel) (λy a=>⟨(h.wd y a).ok,(h.wd y a).len⟩);have c:((" " : Str)).length=1:=rfl;rw[c,<-h.eq]at b;have:=h.le;exact⟨b.1,by lia⟩
def ow (K:Vz):Sp:=λvs H Q _=>∃(d:Z6) (m:Int) (n:Nat),vs=[.ref d,.int m]/\Dk H d n/\n<800000/\0<m/\m<13/\∀(x:Str) (ws:List Str) H',af (wo d H) H'->Dk H' d (n+80)->ir m.toNat x ws->Q (.str x) H'
def Drawn (w:Str) (p:Pt):Prop:=p = .word w\/(p = .hole (eh w.cps.toList)/\eh w.cps.toList<2)\/p = .hole 2
def zC (ws:List Str) (ps:List Pt):Prop:=ps.length=ws.length/\∀(i:Nat) w p,ws[i]? = some w->ps[i]? = some p->Drawn w p
def kH (K:Vz):Sp:=λvs H Q _=>∃(d:Z6) (z:Str) (n:Nat),vs=[.ref d,.str z]/\Dk H d n/\n<800000/\z.length<=9000/\Y1 z=true /\
 ∀F H' ps,H F=none->af (wo d H) H'->Dk H' d (n+(z.length+2))->POk ps->zC (Y4 z " ") ps->(∃ys,H' F=some (.lst ys))->Den K (lim H H') (.ref F) (bx ps)->Q (.ref F) H'
end LG
namespace LG
open PySem L2
def nH (K:Vz) (H:Hp) (d:Z6) (z:Str) (F L:Z6) (n i:Nat) (σ:St) (H3:Hp):Prop:=
 (∃u1 u2 u3,σ=[some (.ref d),some (.str z),some (.ref F),u1,u2,u3])/\af (wo d H) H3/\Dk H3 d (n+i)/\H3 L=some (.lst ((Y4 z " ").map V.str)) /\
 ∃(acc:List V) (ps:List Pt),H3 F=some (.lst acc)/\ps.length=i/\(∀p∈ps,Pt.ok p)/\(∀(j:Nat) w p,(Y4 z " ")[j]? = some w->ps[j]? = some p->Drawn w p)/\aE K (lim (upd H F (.lst [])) H3) acc (ps.map Pt.dat)
theorem nH.step {K:Vz}{H H5:Hp}{d F L t:Z6}{z a b B:Str}{f:List V}{n i:Nat}{σ:St}{ps:List Pt}{pt:Pt} (k:d≠F) (y:F≠L) (hF:H F=none)
  (u:∃u1 u2 u3,σ=[some (.ref d),some (.str z),some (.ref F),u1,u2,u3]) (C:af (wo d H) H5) (g:Dk H5 d (n+(i+1))) (hL:H5 L=some (.lst ((Y4 z " ").map V.str))) (s:H5 F=some (.lst f)) (h:ps.length=i) (A:∀p∈ps,Pt.ok p)
  (r:∀(j:Nat) w p,(Y4 z " ")[j]? = some w->ps[j]? = some p->Drawn w p) (G:aE K (lim (upd H F (.lst [])) H5) f (ps.map Pt.dat)) (E:(Y4 z " ")[i]? = some B) (D:Drawn B pt) (e:pt.dat = .tuple [.str a,.str b]) (v:pt.ok) (J:Y1 a=true) (I:Y1 b=true) (l:H5 t=none) :
  nH K H d z F L n (i+1) σ (upd (upd H5 t (.tup [.str a,.str b])) F (.lst (f++[.ref t]))):=by
 have o:F≠t:=aw s l;have N:L≠t:=aw hL l;have m:af H5 (upd H5 t (.tup [.str a,.str b])):=af.new l;refine⟨u,ax (by rw[au k.symm];exact hF) (C.trans m),(g.same m).upd k,by rw[aq y.symm];exact m _ _ hL,f++[.ref t],ps++[pt],ab,by simp[h],λp c=>?_,λj w p x c=>?_,?_⟩
 ·(rcases Sz.mp c with c | c)
  ·exact A p c
  ·simp only[Sg]at c;subst c;exact v
 ·rcases Nat.lt_trichotomy j ps.length with q | q | q
  ·rw[SW q]at c;exact r j w p x c
  ·subst q;rw[S1 (Sb _)]at c;simp at c;subst c;rw[h,E]at x;cases x;exact D
  ·rw[S9 (by rw[Sj,Sw];lia)]at c;cases c
 ·rw[oV (ys:=[]) ab,Sm];refine(G.same (cZ m)).append (.cons ?_ .nil);have M:(upd H F (.lst [])) t=none:=by rw[aq o.symm];exact g.free C l
  rw[e];exact .tup (.of ((g7 M).trans ab)) (.cons (.str J) (.cons (.str I) .nil))
theorem BK (l:List Nat):eh l<3:=by
 unfold eh
 split
 ·decide
 ·split <;> decide
theorem Dw {k:Nat} (hk:k<3):decide (V.str (lW k)=V.str "other")=decide (k=2):=by
 match k,hk with
 | 0,_=>decide +kernel
 | 1,_=>decide +kernel
 | 2,_=>decide +kernel
theorem JT {k:Nat} (hk:k<2):lW k=cx k:=by
 match k,hk with
 | 0,_=>rfl
 | 1,_=>rfl
structure yw (ws:List Str):Prop where
 pos:1<=ws.length
 le:ws.length<=12
 wd:∀w∈ws,WOk w
theorem yw.line {ws:List Str} (h:yw ws):ir 12 (YG " " ws) ws:=⟨rfl,h.pos,h.le,h.wd⟩
def m3 (K:Vz):Sp:=λvs H Q _=>∃(d:Z6) (m:Int) (n:Nat),vs=[.ref d,.int m]/\Dk H d n/\n<700000/\0<=m/\m<=60 /\
 ∀D (ls:List Str) H',H D=none->af (wo d H) H'->Dk H' d (n+2000)->H' D=some (.lst (ls.map V.str))->(∀x∈ls,∃ws,ir 12 x ws)->ls.length<=m.toNat->Q (.ref D) H'
def KA (Hs:Hp) (acc:List V):Prop:=∀x∈acc,∃(s:Z6) (ws:List Str),x = .ref s/\Hs s=some (.lst (ws.map V.str))/\yw ws
theorem Jc {r:Int} (a:0<=r) (h1:r<3):∃v:Int,atI [V.int 3,V.int 6,V.int 12] r=some (.int v)/\0<v/\v<13:=by
 have:r=0\/r=1\/r=2:=by lia
 rcases this with rfl | rfl | rfl
 ·exact⟨3,rfl,by decide,by decide⟩
 ·exact⟨6,rfl,by decide,by decide⟩
 ·exact⟨12,rfl,by decide,by decide⟩
theorem yw.set {ws:List Str} (h:yw ws) {i:Nat}{x:Str} (hx:WOk x):yw (ws.set i x):=by
 refine⟨by rw[List.length_set];exact h.pos,by rw[List.length_set];exact h.le,λw a=>?_⟩;rcases List.mem_or_eq_of_mem_set a with q | q
 ·exact h.wd w q
 ·rw[q];exact hx
end LG
namespace L2
open PySem PySem.Spec PyProof.Rows
section
variable {X:Cx}
end
section
open PySem.SeqAt
open PySem.AutoSeq1 (wpAny_loadPart')
open PySem.MeetsSeq PySem.MeetsSeq2 PySem.MeetsSeq3
end
section
open PySem.SeqAt
open PySem.MeetsSeq PySem.MeetsSeq2 PySem.MeetsSeq3
variable {X:Cx}
end
section
variable {X:Cx}
def G3 (K:Vz) (neg:Bool):R2:=λx y H Q=>∃(xs:List Zb) (d:Zb),Den K H y (.list xs)/\Den K H x d/\d.depth<=100/\Q (.bl (if neg then !xs.any λe=>Yd e d else xs.any λe=>Yd e d)) H
theorem xt {k:Nat}{A:Z8} (hr:bI k A) {a b:Nat} (h:b<=100):A.units+1+min a b<cLine:=by
 have h1:=hr.un;have h2:=Nat.min_le_right a b;lia
theorem Kv {k:Nat} (i:bI k X.A):OpR X (compareOp .In) (G3 X.K false):=by
 intro _ s _ H x y v u Q I e g h;obtain⟨_,d,a,b,c,q⟩:=h;obtain⟨_,j⟩:=I.reads a g;obtain⟨_,f⟩:=I.reads b e;exact SeqAt.in_list_reads j f (by simpa[PyData.canLay0]using a.lay) b.lay (xt i c) ⟨.bl _,H,I,rfl,q⟩
theorem vB {k:Nat} (i:bI k X.A):OpR X (compareOp .NotIn) (G3 X.K true):=by
 intro _ s _ H x y v u Q I e g h;obtain⟨_,d,a,b,c,q⟩:=h;obtain⟨_,j⟩:=I.reads a g;obtain⟨_,f⟩:=I.reads b e;exact SeqAt.notIn_list_reads j f (by simpa[PyData.canLay0]using a.lay) b.lay (xt i c) ⟨.bl _,H,I,rfl,q⟩
end
end L2
namespace LG
open PySem L2
structure Rm (ws:List Str) (ps:List Pt):Prop where
 ok:POk ps
 len:ps.length=ws.length
 takes:∀(i:Nat) w p,ws[i]? = some w->ps[i]? = some p->p.takes w=true
theorem yF:∀{ps qs:List Pt},(∀p∈ps,p.ok)->(∀p∈qs,p.ok)->ps.map Pt.dat=qs.map Pt.dat->ps=qs
 | [],[],_,_,_=>rfl
 | [],_::_,_,_,h=>by simp at h
 | _::_,[],_,_,h=>by simp at h
 | p::r,q::t,hp,hq,h=>by
  rw[Sv,Sv]at h;injection h with h1 h2;rw[CZ (hp p (Sk ..)) (hq q (Sk ..)) h1,yF (λx a=>hp x (Sf _ a)) (λx a=>hq x (Sf _ a)) h2]
theorem Hv (ps:List Pt):(Sh.list Jj).has (bx ps):=by
 refine⟨_,rfl,λx hx=>?_⟩;obtain⟨pt,_,rfl⟩:=Si.mp hx;exact Ge pt
theorem wx {ps qs:List Pt} (b:∀p∈ps,p.ok) (a:∀p∈qs,p.ok):Yd (bx ps) (bx qs)=decide (ps=qs):=by
 rw[SR,decide_eq_true_eq,(Sh.ok (.list Jj)).eqv _ _ (Hv ps) (Hv qs)];constructor
 ·intro h;simp only[bx,PyData.list.injEq]at h;exact yF b a h
 ·rintro rfl;rfl
section
variable {K:Vz}{H0 H H':Hp}{d S:Z6}{ws:List Str}{n n' m:Nat}{xs:List V}{pss:List (List Pt)}
end
end LG
namespace L2
open PySem PySem.Spec PyProof.Rows PySem.MeetsSeq PySem.MeetsSeq2 PySem.MeetsSeq3
section
variable {X:Cx}
def vd (K:Vz):R2:=λx y H Q=>∃l b xs zs,x = .ref l/\y = .ref b/\SqL K H l xs/\SqL K H b zs/\xs.length+zs.length<=Zc/\∀p,H p=none->Q (.ref p) (upd H p (.lst (xs++zs)))
theorem o9:OpR X (binaryOp .Add) (vd X.K):=by
 intro _ s _ H x y v u Q I w E h;obtain⟨l,b,_,_,rfl,rfl,G,D,_,q⟩:=h;cases w;cases E;obtain⟨a,r,B,_⟩:=I.list G;obtain⟨c,m,g,_⟩:=I.list D;have L:=r.length;have J:=m.length;obtain⟨⟨_,A,_,C⟩,n,o,p,_,k⟩:=B;obtain⟨⟨_,j,_,i⟩,z,d,f,_,e⟩:=g;simp only at p k f e;subst p k f e;have t:a.toArray++c.toArray=(a++c).toArray:=by simp
 refine concat_meets ⟨_,o,rfl⟩ ⟨_,d,rfl⟩ noFill_list_add seq_list_add PySem.F.slot_list_add PySem.F.entry_list_add (PySem.F.args_list_add_2 _ _) (list_addW l b a.toArray c.toArray n z A j C i (by simp;lia)) ⟨o,d,?_⟩;rw[t];exact⟨.ref _,_,I.Q9 (t':=s.toks) (r.append m) (by rw[Sj];lia),rfl,q _ I.fresh⟩
end
end L2
namespace LG
open PySem L2
def xR (K:Vz):Sp:=λvs H Q _=>∃(a:Z6) (ns:List Int),vs=[.ref a]/\SqL K H a (ns.map V.int)/\ns.length<=63/\∀H',Q (.bl true) H'
def oD:Option (List Pt)->Zb
 | none=>.none
 | some ps=>bx ps
structure QQ (l:List (List Pt)) (o:Option (List Pt)):Prop where
 nil:o=none↔l=[]
 least:∀ps,o=some ps->An l ps
theorem GW (pss:List (List Pt)):(PyData.list (pss.map bx)).depth<=100:=by
 have h:Y6 (pss.map bx)<=90:=eX _ λd a=>by
  obtain⟨b,_,rfl⟩:=Si.mp a;exact iG b
 simp only[Yy];lia
end LG
namespace L2
open PySem PySem.Spec PyProof.Rows
section
variable {prog:Z9}{w:Za}{A:Z8}{E:Vy->Vx->Prop}{s:Vx}
end
section
variable {X:Cx}{tg:Expr}
end
section
variable {X:Cx}{elt tg iter tg2 Rr:Expr}{ifs RR:List Expr}{scope:Scope}{pos:Pos}
end
end L2
namespace L2
open PySem PySem.Spec PyProof.Rows PySem.W
section
variable {X:Cx}{pins:List (Z6×Obj)}{σ:St}{H:Hp}{s:Vx}
end
section
variable {X:Cx}
end
end L2
namespace LG
open PySem L2 PySem.Builtin PySem.Builtin.Str
def PtW:Pt->Prop
 | .word w=>dE w=true/\w.length<=500/\Y1 w=true
 | .hole k=>k<3
def PW (ps:List Pt):Prop:=∀p∈ps,PtW p
def Words (ws:List Str):Prop:=∀w∈ws,dE w=true
def vb (pss:List (List Pt)) (ws:List Str):Bool:=pss.any λps=>aW ps ws
def tY (ps:List Pt) (oss:List (List Pt)):Bool:=oss.any λos=>ic ps os
theorem PtW.ok {p:Pt} (h:PtW p):p.ok:=by
 cases p with
 | word w=>exact⟨Sl h.2.1 (by decide),h.2.2⟩
 | hole k=>exact h
def HH (w:Str):List Pt->Bool
 | []=>false
 | p::_=>p.takes w
def mv (oss:List (List Pt)) (w:Str):List (List Pt):=(oss.filter (HH w)).map List.tail
def wkD (w:Str):Zb:=.tuple [.int w.length,.str w]
def QT:Sh:=.cO .int (.cO .str .rn)
theorem Of (w:Str):QT.has (wkD w):=⟨_,_,rfl,⟨_,rfl⟩,_,_,rfl,⟨_,rfl⟩,rfl⟩
def lkD (ws:List Str):Zb:=.tuple [.int ws.length,.list (ws.map wkD)]
theorem LM (w:Str):(wkD w).depth<=5:=by simp[wkD,Yy,Y6]
def wlt (a b:Str):Bool:=ltv (wkD a) (wkD b)
def Bd (w:Str):Prop:=w.length<=500/\Y1 w=true
structure LW (k:Nat) (named:List Str) (x:Str):Prop where
 wd:dE x=true
 kd:dw x=k
 no:x∉named
 le:∀y,dE y=true->dw y=k->y∉named->wlt y x=false
 bd:Bd x
def named:List Pt->List Str
 | []=>[]
 | .word w::r=>w::named r
 | .hole _::r=>named r
structure FW (p:Pt) (ps:List Pt) (oss:List (List Pt)) (w:Str):Prop where
 tk:p.takes w=true
 nd:tY ps (mv oss w)=false
 le:∀y,p.takes y=true->tY ps (mv oss y)=false->wlt y w=false
 bd:Bd w
structure LP (ps:List Pt) (oss:List (List Pt)) (ws:List Str):Prop where
 tk:aW ps ws=true
 kn:vb oss ws=false
 le:∀vs,aW ps vs=true->vb oss vs=false->aS (vs.map wkD) (ws.map wkD)=false
 bd:∀w∈ws,Bd w
structure PLn (pss qss:List (List Pt)) (ws:List Str):Prop where
 pa:vb pss ws≠vb qss ws
 wd:Words ws
 bd:∀w∈ws,Bd w
 ne:ws≠[]
 ln:ws.length<=12
 le:∀vs,vb pss vs≠vb qss vs->ltv (lkD vs) (lkD ws)=false
structure O5 (pss qss:List (List Pt)) (L:List (List Str)):Prop where
 of:∀ws∈L,∃ps∈pss,LP ps qss ws
 all:∀ps∈pss,tY ps qss=true\/∃ws∈L,LP ps qss ws
def pQ (pss:List (List Pt)):Prop:=∀ps∈pss,PW ps/\ps≠[]/\ps.length<=12
def lnV (ws:List Str):V:=.str (YG " " ws)
def oS:Option (List Str)->V
 | none=>.non
 | some ws=>lnV ws
def HN (p q:Pt):Option Pt:=if p.within q=true then some p else if q.within p=true then some q else none
def nu (ps qs:List Pt):Option (List Pt):=if ps.length=qs.length/\((ps.zip qs).all λx=>(HN x.1 x.2).isSome)=true then some ((ps.zip qs).map λx=>(HN x.1 x.2).getD (.hole 2))else none
theorem Ai {p:Pt} (h:PtW p):p.within p=true:=by
 cases p with
 | word x=>exact Zg rfl
 | hole m=>rw[zQ,Zg rfl];rfl
theorem Dt {ps qs:List Pt} (b:ps.length=qs.length) (h:∀(i:Nat) p q,ps[i]? = some p->qs[i]? = some q->p.within q=true):ic ps qs=true:=by
 unfold ic;rw[Zg b,TX];exact C2 λi p q _ a c=>h i p q a c
theorem at_of {α:Type}{l:List α}{i:Nat} (h:i<l.length):∃x,l[i]? = some x:=⟨l[i],R9 h⟩
end LG
namespace LG
open PySem L2
theorem dJ {C:St->Prop}{σ:St}{f:Option V->St} (h:∃u0,σ=f u0) (k:∀u0,C (f u0)):C σ:=by
 obtain⟨u0,rfl⟩:=h;exact k _
theorem wH {C:St->Prop}{σ:St}{f:Option V->Option V->St} (h:∃u0 u1,σ=f u0 u1) (k:∀u0 u1,C (f u0 u1)):C σ:=by
 obtain⟨u0,u1,rfl⟩:=h;exact k _ _
theorem Jd {C:St->Prop}{σ:St}{f:Option V->Option V->Option V->St} (h:∃u0 u1 u2,σ=f u0 u1 u2) (k:∀u0 u1 u2,C (f u0 u1 u2)):C σ:=by
 obtain⟨u0,u1,u2,rfl⟩:=h;exact k _ _ _
theorem Fk {C:St->Prop}{σ:St}{f:Option V->Option V->Option V->Option V->Option V->Option V->Option V->Option V->Option V->Option V->St} (h:∃u0 u1 u2 u3 u4 u5 u6 u7 u8 u9,σ=f u0 u1 u2 u3 u4 u5 u6 u7 u8 u9) (k:∀u0 u1 u2 u3 u4 u5 u6 u7 u8 u9,C (f u0 u1 u2 u3 u4 u5 u6 u7 u8 u9)):C σ:=by
 obtain⟨u0,u1,u2,u3,u4,u5,u6,u7,u8,u9,rfl⟩:=h;exact k _ _ _ _ _ _ _ _ _ _
end LG
namespace LG
open PySem L2 PySem.Builtin PySem.Builtin.Str
end LG
namespace LG
open PySem L2
def Pt.place:Pt->Zb
 | .word w=>.tuple [.int 0,.int w.length,.str w]
 | .hole k=>.tuple [.int (k+1),.int 0,.str ""]
end LG
namespace L2
open PySem PySem.Spec PyProof.Rows PySem.W
theorem Kk {P:Z9}{w:Za}{k:Key}{u:Vy} (h:(aX P w).is k u=true):RelV (kV k) u:=by
 rcases bY (show rS k u=true from h)with⟨i,t,rfl,rfl⟩ | ⟨x,t,rfl,rfl⟩
 ·exact⟨t,rfl⟩
 ·exact⟨t,rfl⟩
section
variable {X:Cx}{tg:Expr}
end
section
variable {X:Cx}{pins:List (Z6×Obj)}{σ:St}{H:Hp}{s:Vx}
theorem tP:∀{ns:List Int}{us:List Vy},aR (ns.map V.int) us->∀v∈us,∃i t,v=Value.int i t
 | [],_,r,v,hv=>by rw[Tw]at r;cases r;cases hv
 | n::ns,_,r,v,hv=>by
  rw[Sv]at r;cases r with
  | cons h t=>
   obtain⟨a,rfl⟩:=h;rcases Su.mp hv with e | e
   ·exact⟨n,a,e⟩
   ·exact tP t v e
theorem BA {P:Z9}{w:Za}{A:Z8}{ns:List Int}{us:List Vy} (f:aR (ns.map V.int) us) (s':Vx) (G:Array Nat->Vx->Prop) (h2:2<=us.length)
  (h:∀p:Array Nat,p.toList.Perm (Y7 us.length)->(∀i j,i<=j->j<us.length->ltv ((ns.map PyData.int).getD (p.getD j 0) .none) ((ns.map PyData.int).getD (p.getD i 0) .none)=false)->G p s') :
  Zd (model P w) A (keyKind' us.toArray) (λκ s''=>(kas_sort us.length).kasWp (kas_ask P w A κ us) G s'') (λ_ _=>False) s':=by
 refine kas_kind (T:=.type "int") h2 (λv u=>?_) (by decide) (by decide) ?_
 ·obtain⟨i,t,rfl⟩:=tP f v u;exact .of_pure rfl
 have E:us.length=ns.length:=by rw[<-f.length,R8]
 have o:=Sh.ok .int;have g:∀i,i<us.length->(ns.map PyData.int).getD i .none = .int (ns.getD i 0):=λi b=>by
  have c:i<ns.length:=by lia
  simp[Sr,c]
 have a:∀i,i<us.length->Sh.int.has ((ns.map PyData.int).getD i .none):=λi b=>⟨_,g i b⟩;refine ya (n:=us.length) (lt:=λi j=>ltv ((ns.map PyData.int).getD i .none) ((ns.map PyData.int).getD j .none)) (P:=λs''=>s'' = s') ⟨λi b=>o.irr _ (a i b),λi j k b d z q=>o.neg (a i b) (a j d) (a k z) q,λi j b d q=>o.asymm (a i b) (a j d) q⟩
  (λi j C s'' b d e q=>?_) (by lia) rfl λp s'' e D B=>by subst e;exact h p D B
 subst e;show Zd (model P w) A (keyLt' oneType' (us.getD i .none) (us.getD j .none)) C (λ_ _=>False) s'';have r:=fV f i;have l:=fV f j;have s:=q s'' rfl;rw[g i b,g j d]at s;have m:∀i,i<us.length->(ns.map V.int).getD i .non = .int (ns.getD i 0):=λi b=>by
  have c:i<ns.length:=by lia
  simp[Sr,c]
 rw[m i b]at r;rw[m j d]at l;obtain⟨_,y⟩:=r;obtain⟨_,x⟩:=l;rw[y,x,keyLt'_oneType];exact oneLt_int s
theorem vt:∀{kvs:List (Key×V)}{vs:List (Key×Vy)}{us:List Vy}{P:Z9}{w:Za},KV kvs vs->us.length=kvs.length->(∀(j:Nat) (v:Vy),us[j]? = some v->∃k x,vs[j]? = some (k,x)/\(aX P w).is k v=true)->aR (kvs.map λkv=>kV kv.1) us
 | _,_,[],_,_,.nil,_,_=>.nil
 | _,_,_::_,_,_,.nil,h,_=>by simp at h
 | _,_,[],_,_,.cons _ _,h,_=>by simp at h
 | _,_,u::us,_,_,.cons r t,h,k=>by
  obtain⟨_,_,d,c⟩:=k 0 u rfl;have a:=Ye d;have b:=r.1;rw[a]at b;refine .cons ?_ (vt t (by simpa using h) λj v e=>k (j+1) v e);show RelV (kV _) u;rw[b];exact Kk c
theorem HW {ns:List Int}{p:List Nat} (h:p.Perm (Y7 ns.length)):(p.map λi=>ns.getD i 0).Perm ns:=by
 have e:=fh ns 0;exact(h.map λi=>ns.getD i 0).trans (by rw[e])
end
end L2
namespace L2
open PySem PySem.Spec PyProof.Rows
section
variable {X:Cx}
end
def Qz:Zb->Str
 | .str x=>x
 | d=>d.shown
structure Ru (d:Zb):Prop where
 RN:d.showable=true
 nod:d.hasDict=false
 dep:d.depth<=100
 len:(∀x,d ≠ .str x)->d.shown.length<=Zc
section
variable {X:Cx}
end
section
variable {X:Cx}
structure PAj (X:Cx) (es:List Expr) (t:TA):Prop where
 go:PA X es t
structure PSj (X:Cx) (st:Stmt) (t:TS):Prop where
 go:PS X st t
structure RJ (X:Cx) (st:List Stmt) (t:TS):Prop where
 go:PSs X st t
end
theorem vP {x:V}:∀{xs:List V}{us:List Vy},aR xs us->xs.all iB=true->us.countP (eqU x)=xs.countP λy=>eqV y x
 | _,_,.nil,_=>rfl
 | y::xs,u::us,.cons r t,f=>by
  rw[Uj,S4]at f;rw[Ti,Ti,BI r f.1,vP t f.2]
def E2 (K:Vz):V->List V->Hp->VK->Prop:=λx vs H Q=>∃p xs y,x = .ref p/\vs=[y]/\SqL K H p xs/\iB y=true/\xs.all iB=true/\Q (.int (xs.countP λz=>eqV z y:Nat)) H
theorem F0 {X:Cx}:MtR X "list.count" (E2 X.K):=by
 intro _ s _ H x _ v _ Q I e g h;obtain⟨p,_,y,rfl,rfl,m,t,b,q⟩:=h;cases e;obtain⟨u,rfl,i⟩:=g.one;obtain⟨a,r,j,_⟩:=I.list m;obtain⟨o,n,c,l,d,k⟩:=j;cases o;cases l;cases d;cases k;refine call_meets YK ⟨_,c,rfl⟩ PySem.F.entry_list_count (PySem.F.args_list_count_2 _ _) (SeqAt.list_countAt p a.toArray n _ _ u (eqU y)) ⟨c,λw f=>oB i t r b w (by simpa using f),?_⟩;refine⟨.int _,H,I.tok _,⟨_,rfl⟩,?_⟩;rw[show a.toArray.toList=a from rfl,vP r b];exact q
section
variable {X:Cx}{pins:List (Z6×Obj)}{σ:St}{H:Hp}{s:Vx}{a:Z6}{kvs:List (Key×V)}{k:Key}{x:V}{u r:Vy}{A:Z8}{E:Vy->Vx->Prop}
theorem G7 {Q:Vy->Vx->Prop} (I:Inv X pins σ H s) (e:H a=some (.dK kvs)) (j:RelV (kV k) u) (n:RelV x r) (t:kvs.length<Zc)
  (h1:∀v,eY kvs k=some v->∀w' s',Inv X pins σ H s'->RelV v w'->Q w' s') (h2:eY kvs k=none->∀s',Inv X pins σ (upd H a (.dK (putK kvs k x))) s'->Q r s') :
  Zd (model X.prog X.w) A (call (.builtin "dict.setdefault") [.ref a,u,r]) Q E s:=by
 obtain⟨z,f,p,c,g⟩:=Kh I.hok e;have b:=c.val k;refine call_meetsIn PySem.F.slot_dict_setdefault g.typeIs PySem.F.entry_dict_setdefault (PySem.F.args_dict_setdefault_3 _ _ _) (kt_meets_setdefault (aX X.prog X.w) a (Af j) f r)
  ⟨p,g,by rw[<-c.length];exact z,λw' o=>?_,λm h d i=>?_⟩
 ·rw[o]at b;cases q:eY kvs k with
  | none=>rw[q]at b;exact absurd b (by simp[jm])
  | some v=>rw[q]at b;exact h1 v q _ _ (I.tok _) b
 ·rw[m]at b;cases q:eY kvs k with
  | some v=>rw[q]at b;exact absurd b (by simp[jm])
  | none=>
   have l:∃q,h.get? a=some q:=let ⟨q,_,_,hq,_⟩:=d;⟨q,hq⟩;exact h2 q _ (xC I (by rw[e];exact True.intro) i l (GB (by have:=lK kvs k x;lia) f (c.put k n) d))
end
def MM (td ty tx:TE):TE:=λσ H Q=>td σ H λx H1=>∃a,x = .ref a/\IsD H1 a/\ty σ H1 λy H2=>tx σ H2 λz H3=>∃kvs k,H3 a=some (.dK kvs)/\y=kV k/\kvs.length<Zc /\
 (∀v,eY kvs k=some v->Q v H3)/\(eY kvs k=none->Q z (upd H3 a (.dK (putK kvs k z))))
section
variable {X:Cx}{o e f:Expr}{apos dC:Pos}{td ty tx:TE}
theorem IK (K:PE X o td) (B:PE X e ty) (D:PE X f tx) (m:M2 X o "setdefault" apos e f dC):PE X (.Call (.Attribute o "setdefault" apos) [e,f] [] dC) (MM td ty tx):=by
 intro b s g H Q I h;refine wpAny_Call_method m.base m.few m.line PySem.F.plainAttrs_dict PySem.F.slot_dict_setdefault PySem.F.type_dict_setdefault (thn (K b s g H _ I h) λu U ⟨x,E,l,A,a,R,d,P⟩=>?_);subst R;obtain rfl:u=Value.ref a:=A;obtain⟨T,S,_⟩:=Bz l d;refine⟨T,S,?_⟩;rw[m.GQ];refine Calls.callWith_builtin rfl (Calls.evalArgs_plain (YC (thn (B b U g E _ l P) λ_ q ⟨y,C,W,L,V⟩=>
  YC (thn (D b q g C _ W V) λ_ _ ⟨z,J,O,j,_,k,t,w,M,n,r⟩=>YT ?_))))
 subst w;exact G7 O t L j M (λv G _ p c i=>⟨v,J,c,i,n v G⟩) λN p c=>⟨z,_,c,j,r N⟩
end
theorem KV.vals {kvs:List (Key×V)}{vs:List (Key×Vy)} (r:KV kvs vs):aR (kvs.map (·.2)) (vs.map (·.2)):=by
 induction r with
 | nil=>exact .nil
 | cons h _ ih=>exact .cons h.2 ih
def tLV (td:TE):TE:=λσ H Q=>td σ H λx H1=>∃a kvs,x = .ref a/\Rd H1 a (.dK kvs)/\∀p,H1 p=none->Q (.ref p) (upd H1 p (.lst (kvs.map (·.2))))
section
variable {X:Cx}{x:Str}{p apos dC pos:Pos}{o:Expr}{td:TE}
theorem E1 (C:X.calm=true) (E:Gl X x) (D:X.mg x=none) (N:bootBuiltins x=some (.type "list")) (P:PE X o td)
  (S:x ≠ "__name__" :=by decide) (k:(x == ("__debug__" : Str))=false:=by decide) (L:attributeBase o "values" X.env (eval o X.env)=eval o X.env:=by rfl) (J:(apos.endLine == dC.line)=true:=by rfl)
  (r:Ze [Expr.Call (.Attribute o "values" apos) [] [] dC] X.env=(false,eval (Expr.Call (.Attribute o "values" apos) [] [] dC) X.env)::Ze [] X.env:=by rfl) :
  PE X (.Call (.Name x p) [.Call (.Attribute o "values" apos) [] [] dC] [] pos) (tLV td):=by
 intro b s O H Q I h;refine wpAny_Call_Name_kw (eN I E D N ?_ S k);refine Ym ?_ r rfl;rw[r];refine YC (wpAny_Call_method0_late L J (thn (P b s O H _ I h) λu t ⟨y,_,e,R,a,kvs,G,d,U⟩=>?_));subst G;obtain rfl:u=Value.ref a:=R;obtain⟨Y,V,_⟩:=Bz e (.inl ⟨kvs,d⟩);obtain⟨z,B,l,c,g⟩:=tL e.hok d;refine⟨"dict","dict.values",PySem.F.plainAttrs_dict,PySem.F.slot_dict_values,PySem.F.type_dict_values,Y,V,Calls.callWith_builtin rfl (PySem.evalArgs_none ?_)⟩;refine call_meetsIn PySem.F.slot_dict_values g.typeIs PySem.F.entry_dict_values (PySem.F.args_dict_values_1 _) (meets_dict_values (aX X.prog X.w) a B) ⟨⟨l,g⟩,YT ?_⟩;obtain⟨ep,i⟩:=(g.push { cls:=.type "dict_values",data:=.fields #[.ref a] }).dictAt;have A:=e.kept (t':=t.toks) (h':=t.heap.push { cls:=.type "dict_values",data:=.fields #[.ref a] }) λ_ _ q=>Vu _ q;have Z:=c.length;refine PySem.W.kdl_call (PySem.W.kdl_values (knd:=aX X.prog X.w) (kvs:=l) (ep:=ep)) (e.ok.hd C) ⟨⟨_,Y2 _ rfl,rfl,rfl⟩,i⟩ (by lia) λh' _ m K M hS n=>?_;have f:m.toList=l.map (·.2):=PySem.W.kdl_vals_eq m.toList (by rw[SA];exact n.1) λj v T=>n.2 j v (by rw[<-S6];exact T)
 refine⟨.ref _,_,A.laid (o:=.lst (kvs.map (·.2))) M (Sb _) ⟨by rw[R8];exact z,m.toList,K,by rw[f];exact c.vals,by rw[Array.toArray_toList];exact hS⟩,rfl,U _ (A.hok.fresh (Sb _))⟩
end
section
open SetTable
def way (t:Zf) (h:Int):Nat->Probe
 | 0=>t.probeStart h
 | n+1=>t.advance (way t h n)
end
section
open SetTable
variable {mask:Nat}
end
section
variable {P:Z9}{w:Za}{A:Z8}{E:Vy->Vx->Prop}{s:Vx}
abbrev tK (P:Z9) (w:Za):=tupleKind (aX P w)
variable {kf:Z6->Int×Str}{a x:Z6}{o:Obj}{es:Array (Int×Vy)}{ep:Nat}{t:Zf}
def hK (P:Z9) (w:Za) (k:Int×Str):Int:=(tK P w).hash [.inl k.1,.inr k.2]
end
def vX:Vy->Str
 | .str x _=>x
 | _=>Yh
theorem JI (t:Zf) (es:Array (Int×Vy)) (h:Int) (x:Vy):(layNew t es h x).2.1.led=t.led:=by
 unfold layNew
 split
 ·simp only[SetTable.put,SetTable.orStandIn,SetTable.standIn]
  repeat (first | rfl | split)
 ·rfl
theorem vO (t:Zf) (es:Array (Int×Vy)) (n:Nat):(relayAll t es n).2.1.led=t.led/\(t.plain=false->(relayAll t es n).2.1.plain=false):=by
 unfold relayAll
 split
 ·rename_i t' order e;simp only[SetTable.relaid,SetTable.laid]at e;have:t'.led=t.led/\t'.plain=t.plain:=by
   cases h:SetTable.layClean (SetTable.sizeAbove n - 1) (es.map (·.1))with
   | none=>rw[h]at e;cases e
   | some o=>
    rw[h]at e;cases e;exact⟨rfl,rfl⟩
  dsimp only
  split
  ·exact⟨this.1,λz=>by rw[this.2];exact z⟩
  ·exact⟨rfl,λ_=>rfl⟩
 ·exact⟨rfl,λ_=>rfl⟩
section
variable {P:Z9}{w:Za}
def kN (P:Z9) (w:Za) (byT:Bool) (h:Heap) (a:Z6) (us:List Str):Prop:=∃o es ep t,h.get? a=some o/\o.ExactSet/\o.data = .set es ep t/\ElemsOf (aX P w) es.toList/\es.size<scanBound/\t.fits es.size=true/\t.led=(!byT)/\(us≠[]->t.plain=false)/\(∀e∈es.toList,∃x tk,e.2 = .str x tk)/\(es.toList.map λe=>vX e.2).Perm us
theorem kN.keep {byT:Bool}{h h':Heap}{a:Z6}{us:List Str} (x:kN P w byT h a us) (k:∀o,h.get? a=some o->h'.get? a=some o):kN P w byT h' a us:=by
 obtain⟨o,d,b,t,c,r⟩:=x;exact⟨o,d,b,t,k o c,r⟩
theorem AQ {byT:Bool}{h:Heap}{a:Z6} (c:h.get? a=some { cls:=.type "set",dict:=none,data:=.set #[] 0 (.fresh 0 0 (!byT)) }):kN P w byT h a []:=
 ⟨_,#[],0,_,c,⟨rfl,rfl,rfl⟩,rfl,(λe b=>by simp at b),by decide,by rfl,rfl,λz=>(z rfl).elim,(λe b=>by simp at b),by simp⟩
theorem jO {byT:Bool}{h:Heap}{a:Z6}{o:Obj}{es b:Array (Int×Vy)}{ep:Nat}{t t':Zf}{us:List Str} (i:h.get? a=some o) (d:o.ExactSet) (f:o.data = .set es ep t)
  (c:ElemsOf (aX P w) b.toList) (n:b.size<scanBound) (m:t'.fits b.size=true) (l:t'.led = !byT) (j:us≠[]->t'.plain=false) (g:∀e∈b.toList,∃x tk,e.2 = .str x tk) (k:(b.toList.map λe=>vX e.2).Perm us) :
  (h.update a (Obj.putSet b t')).get? a=some { o with data:=.set b (ep+1) t' }/\kN P w byT (h.update a (Obj.putSet b t')) a us:=by
 have q:=Heap.get?_update_self (Obj.putSet b t') i (by rw[putSet_of b t' f];rfl);rw[putSet_of b t' f]at q;exact⟨q,_,b,ep+1,t',q,d,rfl,c,n,m,l,j,g,k⟩
variable {s:Vx}{A:Z8}{E:Vy->Vx->Prop}
theorem Fm {byT:Bool}{h:Heap}{a:Z6}{us:List Str}{x:Str}{es:Array (Int×Vy)} (f:∀e∈es.toList,∃x tk,e.2 = .str x tk) (g:(es.toList.map λe=>vX e.2).Perm us):(∃e∈es.toList,(aX P w).is (.inr x) e.2=true)↔x∈us:=by
 rw[<-g.mem_iff,Si];constructor
 ·rintro⟨e,d,c⟩;obtain⟨tk,b⟩:=Kk c;exact⟨e,d,by rw[b];rfl⟩
 ·rintro⟨e,d,c⟩;obtain⟨y,tk,b⟩:=f e d;rw[b]at c;have:y=x:=c;refine⟨e,d,?_⟩;rw[b,this];exact iL P w x tk
theorem Fw {byT:Bool}{a:Z6}{us:List Str}{x:Str}{tk:Tok}{Q:Bool->Vx->Prop} (hS:kN P w byT s.heap a us) (N3:us.length+1<scanBound)
  (h:∀h' b,YE a s.heap h'->kN P w byT h' a (if x∈us then us else us++[x])->Q b { s with heap:=h' }) :
  Zd (model P w) A (setAddHashed a (.str x tk) ((aX P w).hash (.inr x))) Q E s:=by
 obtain⟨o,u,_,t,K,r,I,C,hb,hf,hl,_,hs,W⟩:=id hS;have HQ:(aX P w).is (.inr x) (.str x tk)=true:=iL P w x tk;have v:(Value.str x tk).scannable=true:=rfl;have hn:u.size=us.length:=by
  have:=W.length_eq;rw[R8,SA]at this;exact this
 have V:u.size+1<scanBound:=hn ▸ N3;have f:=byScan_of v hb C;unfold setAddHashed;refine Vs ?_;unfold setAddHashedIn;refine Vw (wpAny_setState_of K I hf ?_);dsimp only;rw[f,Zj rfl];unfold setAddByScan;refine Vw (Vw (wpAny_rule (Vw (wpAny_setScan_of HQ K I hf C ?_))));have MQ:=Fm (P:=P) (w:=w) (byT:=byT) (h:=s.heap) (a:=a) (x:=x) hs W;cases hr:List.findIdx? (λe=>(aX P w).is (.inr x) e.2) u.toList with
 | some j=>
  dsimp only;obtain⟨hj,Y,_⟩:=List.findIdx?_eq_some_iff_getElem.mp hr;have y:x∈us:=MQ.mp ⟨u.toList[j],S7 hj,Y⟩;have O:=h s.heap false (Heap.SameBut.refl a s.heap) (by rw[Zj y];exact hS);exact Vv (Vv O)
 | none=>
  dsimp only;have y:x∉us:=λz=>by
   obtain⟨e,B,hk⟩:=MQ.mpr z;have:=List.findIdx?_eq_none_iff.mp hr e B;rw[hk]at this;cases this
  have D:∀(b:Bool) {s₁:Vx}{Q':Unit->Vx->Prop},Q' () s₁->Zd (model P w) A (match b with | true=>rule "set.scan.the-table-gave-way" | false=>pure ()) Q' E s₁:=
   λb _ _ q=>match b with
    | true=>wpAny_rule q
    | false=>Vv q
  have F:=layNew_perm t u ((aX P w).hash (.inr x)) (.str x tk);have U:=layNew_fits t u ((aX P w).hash (.inr x)) (.str x tk);have S:=JI t u ((aX P w).hash (.inr x)) (.str x tk);generalize layNew t u ((aX P w).hash (.inr x)) (.str x tk)=L at F U S ⊢;obtain⟨es1,m,_,_⟩:=L;dsimp only at F U S ⊢;rw[Array.toList_push]at F;have T:ElemsOf (aX P w) es1.toList:=(C.push HQ v).perm F;have n:∀e∈es1.toList,∃x tk,e.2 = .str x tk:=λe B=>by
   rcases Sz.mp (F.mem_iff.mp B)with z | z
   ·exact hs e z
   ·rw[Sg.mp z];exact⟨x,tk,rfl⟩
  have p:(es1.toList.map λe=>vX e.2).Perm (us++[x]):=by
   refine(F.map _).trans ?_;rw[Sm];exact W.append_right _
  have J:es1.size<scanBound:=by rw[<-SA,F.length_eq,Sj,SA];simpa using V
  refine Vw (D _ ?_);have R:∀h',YE a s.heap h'->kN P w byT h' a (us++[x])->Q true { s with heap:=h' }:=λh' sb hx=>h h' true sb (by rw[Zk y];exact hx);have pk:plainKind (.str x tk)=false:=rfl;have ft:({ m with plain:=false }:Zf).fits es1.size=true/\({ m with plain:=false }:Zf).led=(!byT)/\({ m with plain:=false }:Zf).plain=false:=⟨SetTable.fits_plain_off U,S.trans hl,rfl⟩;have X:m.plain=false->m.fits es1.size=true/\m.led=(!byT)/\m.plain=false:=λz=>⟨U,S.trans hl,z⟩;cases hpl:m.plain
  ·have c:=X hpl;clear X ft;rw[Zk (by decide)];refine Vw (Vv ?_);simp only[if_true];generalize m=t2 at c ⊢;obtain⟨d,H⟩:=jO (P:=P) (w:=w) (us:=us++[x]) K r I T J c.1 c.2.1 (λ_=>c.2.2) n p;have i:=Yi s.heap a (Obj.putSet es1 t2);refine Vw (wpAny_storeSet_of K I ?_ (fits_of_scanBound J));refine wpAny_ite_split (λ_=>?_) λ_=>Vv (Vv (R _ i H));obtain⟨l,N⟩:=And.intro (relayAll_perm t2 es1 (YP es1.size)) (relayAll_fits t2 es1 (YP es1.size));obtain⟨g,k⟩:=vO t2 es1 (YP es1.size);generalize relayAll t2 es1 (YP es1.size)=Z at l N g k ⊢;have M:Z.1.size<scanBound:=by
    have e:=l.length_eq;rw[SA,SA]at e;rw[e];exact J
   obtain⟨_,G⟩:=jO (P:=P) (w:=w) (us:=us++[x]) d r rfl (T.perm l) M N (g.trans c.2.1) (λ_=>k c.2.2) (λe B=>n e (l.mem_iff.mp B)) ((l.map _).trans p);refine Vw (D _ (Vw (wpAny_storeSet_of d rfl ?_ (fits_of_scanBound M))));exact Vv (Vv (R _ (i.trans (Yi _ a _)) G))
  ·have c:=ft;clear X ft;rw[Zj rfl,hashByValue_scannable 8 v];refine Vw (Vv ?_);simp only[pk,SQ,if_false];generalize({ m with plain:=false }:Zf)=t2 at c ⊢;obtain⟨d,H⟩:=jO (P:=P) (w:=w) (us:=us++[x]) K r I T J c.1 c.2.1 (λ_=>c.2.2) n p;have i:=Yi s.heap a (Obj.putSet es1 t2);refine Vw (wpAny_storeSet_of K I ?_ (fits_of_scanBound J));refine wpAny_ite_split (λ_=>?_) λ_=>Vv (Vv (R _ i H));obtain⟨l,N⟩:=And.intro (relayAll_perm t2 es1 (YP es1.size)) (relayAll_fits t2 es1 (YP es1.size));obtain⟨g,k⟩:=vO t2 es1 (YP es1.size);generalize relayAll t2 es1 (YP es1.size)=Z at l N g k ⊢;have M:Z.1.size<scanBound:=by
    have e:=l.length_eq;rw[SA,SA]at e;rw[e];exact J
   obtain⟨_,G⟩:=jO (P:=P) (w:=w) (us:=us++[x]) d r rfl (T.perm l) M N (g.trans c.2.1) (λ_=>k c.2.2) (λe B=>n e (l.mem_iff.mp B)) ((l.map _).trans p);refine Vw (D _ (Vw (wpAny_storeSet_of d rfl ?_ (fits_of_scanBound M))));exact Vv (Vv (R _ (i.trans (Yi _ a _)) G))
def fP:List Str->List Str->List Str
 | us,[]=>us
 | us,x::r=>fP (if x∈us then us else us++[x]) r
theorem Cw:∀(zs us:List Str),(fP us zs).length<=us.length+zs.length
 | [],us=>Sb _
 | x::r,us=>by
  have:=Cw r (if x∈us then us else us++[x]);unfold fP
  split at this
  ·rw[if_pos ‹_›];simp at *;lia
  ·rw[if_neg ‹_›];simp at *;lia
theorem ml:∀(zs us:List Str),us.Nodup->(fP us zs).Nodup
 | [],us,h=>h
 | y::r,us,h=>by
  unfold fP;refine ml r _ ?_
  split
  ·exact h
  ·rename_i hn;exact Tv.mpr ⟨h,by simp,λa c b d e=>hn (by rw[Sg.mp d]at e;rw[<-e];exact c)⟩
theorem DK {byT:Bool}{R:Result->Vx->Prop}{I:Z6}{fp wr:List Z6}{G:Array GenState->Array GenState->Prop}{n:Nat}{J:Nat->Vy->Prop}{St:Nat->Vx->Prop} (W:WalksS P w A.in1 I fp wr G n J St) (S:Z6) (g:S∉fp)
  (zs:List Str) (hz:zs.length=n) (M:∀i v,J i v->∃x t,zs[i]? = some x/\v = .str x t) (q:n+1<scanBound) :
  ∀(r:List Str) (i:Nat) (s:Vx) (us:List Str),r=zs.drop i->i<=n->us.length<=i->St i s->kN P w byT s.heap S us ->
   (∀s',Moved (S::wr) G s s'->kN P w byT s'.heap S (fP us r)->R (.ok (.ret .none)) s') ->
   codeAny (model P w) A (.builtin "set.update.loop" ⟨[.ref S,.ref I],[]⟩) R s:=by
 have d:S∉wr:=mt (W.sub S) g;have L:=λb (z:b∈wr)=>Sf S z;intro r
 induction r with
 | nil=>
  intro i s us c N C a hS E;have u:i=n:=by
   have:=Ux.mp c.symm;lia
  subst u;refine codeAny_builtin PyProof.Rows.F.entry_set_update_loop ?_;rw[Yg YM _];refine Vw (m:=pyNext (.ref I)) (W.done s _ _ a λs' f=>?_);exact Vv (E s' (f.mono L) (hS.keep λo e=>f.heap S _ d e))
 | cons x r V=>
  intro i s us c N C a hS E;have p:i<zs.length:=by
   rcases Tc i zs.length with z | z
   ·exact z
   ·rw[Tz z]at c;cases c
  have j:zs[i]? = some x/\r=zs.drop (i+1):=by
   rw[SX p]at c;injection c with e1 e2;exact⟨by rw[R9 p,<-e1],e2⟩
  refine codeAny_builtin PyProof.Rows.F.entry_set_update_loop ?_;rw[Yg YM _];refine Vw (m:=pyNext (.ref I)) (W.item i s _ _ (by lia) a λv s' O T f=>?_);obtain⟨_,t,l,rfl⟩:=M i v O;rw[j.1]at l;cases l;have B:kN P w byT s'.heap S us:=hS.keep λo e=>f.heap S _ d e;show Zd _ A.in1 (holding [Value.str x t] (setAdd S (.str x t)) >>= _) _ _ s';refine Vw (Vs ?_);unfold setAdd;refine Vs ?_;refine Vw ((aX P w).pyHash (k:=.inr x) (iL P w x t) ?_);refine Fw (s:={ s' with toks:=s'.toks+1 }) B (by lia) λh' b K H=>?_;refine Vv ⟨plainId_quiet YM _,V (i+1) _ _ j.2 (by lia) ?_ (W.frame _ s' _ _ T (TB _) λb q o e=>?_) H λy Q U=>?_⟩
  ·split
   ·lia
   ·simp;lia
  ·rw[K.2 b (λh:b=S=>g (by rw[<-h];exact q))];exact e
  ·have first:=f.mono L
   have D:=first.then_heap (TB s'.toks) (h':=h') λb o q e=>(K.2 b λz=>q (z ▸ Sk)).trans e;exact E y (Moved.trans W.gtrans D Q) U
def i6 (w:Za):Bool:=w.params.followText "set-order"
def DV (w:Za):Obj:={ cls:=.type "set",dict:=none,data:=.set #[] 0 (.fresh 0 0 (!i6 w)) }
theorem Jf (a:Vy) {Q₁:Vy->Vx->Prop} (h:Q₁ (.ref s.heap.objs.size) { s with heap:=s.heap.push (DV w) }) :
  codeAny (model P w) A (.call (.builtin "set.__new__") ⟨[.type "set",a],[]⟩) (wants Q₁ E) s:=by
 have c:∀b,b=(!i6 w)->Q₁ (.ref s.heap.objs.size) { s with heap:=s.heap.push { cls:=.type "set",dict:=none,data:=.set #[] 0 (.fresh 0 0 b) } }:=λb e=>by subst e;exact h
 refine codeAny_of_tree (Vw (m:=checkBuiltinCall "set.__new__" ⟨[.type "set",a],[]⟩) (wpAny_of_eq (PySem.F.newCall_set_1 a) (Vv ⟨plainId_quiet PySem.F.plain_set_new _,codeAny_builtin PySem.F.entry_set_new ?_⟩)));rw[Yg PySem.F.plain_set_new _];unfold Builtin.«set.__new__» Builtin.Frozenset.newClass;have f:=sub_set_self;clear h;obtain⟨_,g,d,_,_⟩:=s;dsimp only at c ⊢
 wp_walk
 refine wpAny_askSetting (Vv ?_);dsimp only;simp only[newObj];exact Vw (wpAny_alloc (Vv (Vv (c _ rfl))))
theorem Gu {l a:Z6}{items:Array Vy}{zs:List Str}{Q:PySem.Fin->Vx->Prop} (L:A.handled=none) (y:s.heap.IsList l items) (hi:aR (zs.map V.str) items.toList) (r:items.size+1<scanBound) (B:s.heap.get? a=some (DV w)) (C:l≠a)
  (h:∀(h':Heap) (tk:Nat),kN P w (i6 w) h' a (fP [] zs)->(∀b o,b≠a->s.heap.get? b=some o->h'.get? b=some o)->Q (.done (.ret .none)) { s with heap:=h',toks:=tk }) :
  Zd (model P w) A (Builtin.«set.__init__» ⟨[.ref a,.ref l],[]⟩) Q E s:=by
 have hT:s.TypeIs (.ref a) "set" :=⟨_,B,rfl⟩;obtain⟨T,n,f,_,g⟩:=id y;obtain⟨_,_,_,_⟩:=T;simp only at f g;subst f g;have W:=PySem.F.sub_list_set;have U:=PySem.F.sub_list_frozenset;have M:(Value.type "list" == Value.type "dict")=false:=by decide
 have D:s.heap.get? a=some { cls:=.type "set",dict:=none,data:=.set #[] 0 (.fresh 0 0 (!i6 w)) }:=B;unfold Builtin.«set.__init__» noKeywords Builtin.Frozenset.updateFrom;generalize hPI:pyIter=PI
 wp_walk
 subst hPI;refine wpAny_pyIter_list y (Vw (wpAny_runValue ?_));have q:l<s.heap.objs.size:=Y3 n;have H:a<s.heap.objs.size:=Y3 B;have c:zs.length=items.size:=by have:=hi.length;rw[R8,SA]at this;exact this
 refine DK (byT:=i6 w) ((Walks.list (show A.in1.handled=none from L) s.heap.objs.size l (SD q) items).toS) a (by simp only[Su,Ts,or_false,not_or];exact⟨SD H,C.symm⟩) zs c (λi v O=>?_) r zs 0 _ [] rfl (Sy _) (Sb _)
  ⟨⟨_,Y2 _ rfl,rfl,rfl⟩,y.push _⟩ (AQ (Vu _ D)) λK j p=>?_
 ·have d:items.toList[i]? = some v:=by rw[S6];exact O
  have k:i<zs.length:=by rw[c];rw[S6]at d;exact(Array.getElem?_eq_some_iff.mp d).1
  obtain⟨x,J⟩:∃x,zs[i]? = some x:=⟨zs[i],R9 k⟩;obtain⟨u,I,N⟩:=hi.get (i:=i) (x:=.str x) (by rw[Se,J];rfl);rw[d]at I;cases I;obtain⟨t,rfl⟩:=N;exact⟨x,t,J,rfl⟩
 ·obtain⟨h',R,S,G,m⟩:=K;obtain rfl:R = s.gens:=j.gens;obtain rfl:S = s.drawn:=j.drawn;obtain rfl:m = s.os:=j.os;refine Vv (Vv (h h' G p λb o r e=>j.heap b o (λz=>?_) (Vu _ e)));rcases Su.mp z with z | z
  ·exact r z
  ·exact absurd (Y3 e) (by rw[Sg.mp z];exact Tf _)
theorem uV {l:Z6}{items:Array Vy}{zs:List Str}{Q:Vy->Vx->Prop} (q:A.handled=none) (n:s.heap.IsList l items) (hi:aR (zs.map V.str) items.toList) (x:items.size+1<scanBound)
  (h:∀(h':Heap) (tk:Nat),kN P w (i6 w) h' s.heap.objs.size (fP [] zs)->(∀b o,s.heap.get? b=some o->h'.get? b=some o)->Q (.ref s.heap.objs.size) { s with heap:=h',toks:=tk }) :
  Zd (model P w) A (call (.type "set") [.ref l]) Q E s:=by
 obtain⟨c,_,_⟩:=PySem.F.called_set.mro;have G:=PySem.F.called_set.made;have D:=PySem.F.called_set.sub;have B:=PySem.F.called_set.notType;have C:=PySem.F.called_set.canCreate;have z:=PySem.F.typeCall_set_1 (.ref l);refine wpAny_call (codeAny_of_tree (show Zd _ _ (callAny (.type "set") _) _ _ _ from Vv ⟨Code.quiet_builtin _ (by decide +kernel),codeAny_builtin PySem.F.entry_type_call ?_⟩));rw[Around.under_plain (weight_type_call_type "set" [.ref l] []) rfl]
 repeat any_goals (first | assumption | wp_step)
 refine codeAny_mono (Jf (P:=P) (w:=w) (.ref l) (E:=E) (Q₁:=λi d=>i = .ref s.heap.objs.size/\d={ s with heap:=s.heap.push (DV w) }) ⟨rfl,rfl⟩) λr d m=>?_;cases r with
 | error e=>exact m
 | ok v=>
  cases v with
  | ret i=>
   obtain⟨rfl,rfl⟩:=m;have hS:(s.heap.push (DV w)).get? s.heap.objs.size=some (DV w):=Y2 _ rfl;have hT:Shared.TypeIs { s with heap:=s.heap.push (DV w) } (.ref s.heap.objs.size) "set" :=⟨_,hS,rfl⟩;have y:=PySem.F.called_set.init.lookup;have p:=PySem.F.called_set.init.bind (.ref s.heap.objs.size)
   repeat any_goals (first | assumption | wp_step)
   refine codeAny_mono (codeAny_call_builtin (R:=wants (λr f=>r = .none/\Q (.ref s.heap.objs.size) f) E) PySem.F.called_set.init.plain PySem.F.entry_set_init (check_set_init_1 hT ?_)) λj f a=>?_
   ·have k:l<s.heap.objs.size:=by obtain⟨_,e,_⟩:=n;exact Y3 e
    refine Gu (A:=A.in1.in1) q (n.push _) hi x hS (SD k) λh' tk t u=>?_;exact⟨rfl,h h' tk t λb o e=>u b o (SD (Y3 e)) (Vu _ e)⟩
   ·cases j with
    | error e=>exact a
    | ok g=>
     cases g with
     | ret r=>
      obtain⟨rfl,_⟩:=a
      repeat any_goals (first | assumption | wp_step)
     | _=>exact a.elim
  | _=>exact m.elim
end
end L2
namespace L2
open PySem PySem.Spec PyProof.Rows PySem.W
namespace SF
theorem slot_next:Slot "set_iterator" "__next__" "set_iterator.__next__" :=
 .of (owner:= "set_iterator") (n:= "__next__") (by rw[typeLookup_type,builtinLookup_eq_fast];kernel_rfl) (by decide +kernel) (by decide +kernel) (by decide +kernel) (by first | exact .inl (by decide +kernel) | exact .inr (by decide +kernel)) (by rw[isSubtype_type];kernel_rfl)
theorem vJ:Slot "set_iterator" "__iter__" "set_iterator.__iter__" :=
 .of (owner:= "set_iterator") (n:= "__iter__") (by rw[typeLookup_type,builtinLookup_eq_fast];kernel_rfl) (by decide +kernel) (by decide +kernel) (by decide +kernel) (by first | exact .inl (by decide +kernel) | exact .inr (by decide +kernel)) (by rw[isSubtype_type];kernel_rfl)
theorem entry_next:entryFor table "set_iterator.__next__" = some Builtin.«set_iterator.__next__»:=entryFor_of_tree (by kernel_rfl)
theorem args_next (a:Vy):argsOk "set_iterator.__next__" ⟨[a],[]⟩:=by unfold argsOk;kernel_rfl
theorem Dy (a:Vy):argsOk "set_iterator.__iter__" ⟨[a],[]⟩:=by unfold argsOk;kernel_rfl
theorem rZ:entryFor table "set.__iter__" = some Builtin.«frozenset.__iter__»:=entryFor_alias (id':= "frozenset.__iter__") (by kernel_rfl) rfl (by decide +kernel) (by kernel_rfl)
theorem BC:entryFor table "set_iterator.__iter__" = some Builtin.«dict_keyiterator.__iter__»:=entryFor_alias (id':= "dict_keyiterator.__iter__") (by kernel_rfl) rfl (by decide +kernel) (by kernel_rfl)
end SF
section
variable {P:Z9}{w:Za}{A:Z8}{E:Vy->Vx->Prop}{s:Vx}
theorem xl {M:Model}{a:Source}{n:Nat}{Q:Nat->Vx->Prop} (b:n≠0) (h:∀i d,i<n->Q i { s with drawn:=d }):Zd M A (choose a n) Q E s:=λc p hc=>by
 unfold choose;rw[Sem.wp_choose];exact⟨b,h _ _ (Nat.mod_lt _ (Nat.pos_of_ne_zero b))⟩
theorem nU {α:Type}:∀(l:List α) (i:Nat) (h:i<l.length),(l[i]::l.eraseIdx i).Perm l
 | [],_,h=>by cases h
 | x::r,0,_=>Z4 _
 | x::r,i+1,h=>by
  have a:=nU r i (by simpa using h);exact(List.Perm.swap _ _ _).trans (List.Perm.cons _ a)
theorem kJ {M:Model}{α:Type}:∀(n:Nat) (xs:List α) (s:Vx) {Q:List α->Vx->Prop},xs.length=n->(∀ys d,ys.Perm xs->Q ys { s with drawn:=d })->Zd M A (drawOrder n xs) Q E s
 | 0,xs,s,Q,hn,h=>by
  have:xs=[]:=TZ.mp hn;subst this;exact Vv (h [] s.drawn (Z4 _))
 | n+1,[],s,Q,hn,h=>by cases hn
 | n+1,x::xs,s,Q,hn,h=>by
  unfold drawOrder;refine Vw (xl (by simp) λi d a=>?_);rw[R9 a];dsimp only;refine Vw (kJ n _ _ (by rw[UE a];simpa using hn) λys c b=>Vv (h _ c ?_));exact(List.Perm.cons _ b).trans (nU _ i a)
def lD (first:Vy) (i:Nat) (a:Z6) (n ep:Nat):Obj:={ cls:=.type "set_iterator",data:=.fields #[first,.int i 0,.ref a,.int n 0,.int ep 0] }
structure SAt (h:Heap) (a:Z6) (es:Array (Int×Vy)) (ep:Nat) (t:Zf):Prop where
 ob:∃o,h.get? a=some o/\o.ExactSet/\o.data = .set es ep t
 ft:t.fits es.size=true
theorem eB {a:Z6}{es:Array (Int×Vy)}{ep:Nat}{tb:Zf}{Q:Array (Int×Vy)->Vx->Prop} (b:SAt s.heap a es ep tb) (h:Q es s):Zd (model P w) A (setEntries a) Q E s:=by
 obtain⟨o,c,_,d⟩:=b.ob;exact Vw (wpAny_setState_of c d b.ft (Vv h))
theorem me (n:Nat):¬ (((n:Int) != (n:Int))=true):=by simp
theorem zT {M:Model}{α:Type}{R:α->Vx->Prop} (a:A.handled=none) (h:∀h' e o,(∀b o,s.heap.get? b=some o->h'.get? b=some o)->h'.get? e=some o->o.cls = .type "StopIteration" -> E (.ref e) { s with heap:=h' }):Zd M A (newExc (.type "StopIteration") [] >>= λe=>(raiseNew e:Sem α)) R E s:=by
 refine Vw ?_;unfold newExc newTuple;refine Vw (wpAny_newObj_type ?_ (by size_fits));have c:(firstArgMember (.type "StopIteration") []:Sem Vy)=pure Value.none:=by first | rfl | (unfold firstArgMember;rfl)
 rw[c];refine Vw (Vv (wpAny_newObj_type ?_ (by size_fits)));unfold raiseNew;refine Vw (wpAny_handled ?_);rw[a];exact Vw (Vv (wpAny_throw (h _ _ _ (λb o e=>Vu _ (Vu _ e)) (Y2 _ rfl) rfl)))
theorem oW {it a:Z6}{first:Vy}{i n ep:Nat}{Q:Option Vy->Vx->Prop} (d:s.heap.get? it=some (lD first i a n ep))
  (h:Zd (model P w) A.in1 (Builtin.«set_iterator.__next__» ⟨[.ref it],[]⟩) (λf s'=>∃v,f = .done (.ret v)/\Q (some v) s') (λe s'=>∃b o,e = .ref b/\s'.heap.get? b=some o/\o.cls = .type "StopIteration" /\ Q none s') s) :
  Zd (model P w) A (pyNext (.ref it)) Q E s:=by
 have c:s.TypeIs (.ref it) "set_iterator" :=⟨_,d,rfl⟩;unfold pyNext;refine Vw (wpAny_attempt (wpAny_callSpecial?_slot (name:=Yo "__next__") c SF.slot_next (wpAny_call_entry SF.slot_next c SF.entry_next ?_ (SF.args_next _))));refine Vt h (λf s' ⟨v,e,q⟩=>?_) λe s' ⟨b,o,k,g,j,q⟩=>?_
 ·exact⟨v,e,Vv q⟩
 ·subst k;exact Vw (wpAny_isInstance (T:= "StopIteration") (b:=true) ⟨o,g,j⟩ isSubtype_stop (Vv q))
theorem l9 {it a:Z6}{first x:Vy}{i n ep k:Nat}{vs:Array Vy}{Q:Unit->Vx->Prop} (b:s.heap.get? it=some { cls:=.type "set_iterator",data:=.fields vs }) (d:k<vs.size)
  (h:∀h',YE it s.heap h'->h'.get? it=some { cls:=.type "set_iterator",data:=.fields (vs.setIfInBounds k x) }->Q () { s with heap:=h' }):Zd (model P w) A (setField (.ref it) k x) Q E s:=
 wpAny_setField_rec b d λh' e c=>h h' c e
theorem zl {it a:Z6}{slot i ep nx:Nat}{x:Vy}{es:Array (Int×Vy)}{tb:Zf}{Q:Option Vy->Vx->Prop} (b:s.heap.get? it=some (lD (.int slot 0) i a es.size ep)) (e:SAt s.heap a es ep tb)
  (g:∀(A:Z8) (E:Vy->Vx->Prop) (R:Option (Vy×Nat)->Vx->Prop),R (some (x,nx)) s->Zd (model P w) A (setNext a slot i ep) R E s)
  (h:∀h',YE it s.heap h'->h'.get? it=some (lD (.int nx 0) (i+1:Nat) a es.size ep)->Q (some x) { s with heap:=h' }):Zd (model P w) A (pyNext (.ref it)) Q E s:=by
 refine oW b ?_;unfold Builtin.«set_iterator.__next__»;refine Vw (Vv ?_);refine Vw (wpAny_fieldsOf b rfl ?_);show Zd _ _ (setEntries a >>= _) _ _ _;refine Vw (eB e ?_);rw[Zk (me es.size)];show Zd _ _ (setNext a slot i ep >>= _) _ _ _;refine Vw (g _ _ _ ?_);dsimp only;refine Vw (l9 (a:=a) (first:=x) (i:=i) (n:=0) (ep:=ep) b (by simp) λ_ c j=>?_);refine Vw (l9 (a:=a) (first:=x) (i:=i) (n:=0) (ep:=ep) j (by simp) λk d f=>?_);exact Vv ⟨x,rfl,h k (c.trans d) f⟩
theorem yT {it a:Z6}{slot i ep:Nat}{es:Array (Int×Vy)}{tb:Zf}{Q:Option Vy->Vx->Prop} (k:A.handled=none) (c:s.heap.get? it=some (lD (.int slot 0) i a es.size ep)) (f:SAt s.heap a es ep tb)
  (r:∀(A:Z8) (E:Vy->Vx->Prop) (R:Option (Vy×Nat)->Vx->Prop),R none s->Zd (model P w) A (setNext a slot i ep) R E s)
  (h:∀h',(∀b o,b≠it->s.heap.get? b=some o->h'.get? b=some o)->Q none { s with heap:=h' }):Zd (model P w) A (pyNext (.ref it)) Q E s:=by
 refine oW c ?_;unfold Builtin.«set_iterator.__next__»;refine Vw (Vv ?_);refine Vw (wpAny_fieldsOf c rfl ?_);show Zd _ _ (setEntries a >>= _) _ _ _;refine Vw (eB f ?_);rw[Zk (me es.size)];show Zd _ _ (setNext a slot i ep >>= _) _ _ _;refine Vw (r _ _ _ ?_);dsimp only;refine Vw (l9 (a:=a) (first:=.none) (i:=i) (n:=0) (ep:=ep) c (by simp) λl d _=>?_);refine zT (s:={ s with heap:=l }) (show A.in1.handled=none from k) λh' e o p g j=>⟨e,o,rfl,g,j,h h' λb m t q=>p b m ((d.2 b t).trans q)⟩
theorem El {it a T:Z6}{i ep k:Nat}{hx:Int}{x:Vy}{ps:List Nat}{es:Array (Int×Vy)}{tb:Zf}{oT:Obj}{p:Nat}{Q:Option Vy->Vx->Prop} (b:s.heap.get? it=some (lD (.ref T) i a es.size ep)) (c:SAt s.heap a es ep tb)
  (hT:s.heap.get? T=some oT) (g:oT.data = .seq (ps.map λ(j:Nat)=>rawInt j).toArray p) (m:ps[i]? = some k) (q:es[k]? = some (hx,x)) (h:∀h',YE it s.heap h'->h'.get? it=some (lD (.ref T) (i+1:Nat) a es.size ep)->Q (some x) { s with heap:=h' }) :
  Zd (model P w) A (pyNext (.ref it)) Q E s:=by
 refine oW b ?_;unfold Builtin.«set_iterator.__next__»;refine Vw (Vv ?_);refine Vw (wpAny_fieldsOf b rfl ?_);show Zd _ _ (setEntries a >>= _) _ _ _;refine Vw (eB c ?_);rw[Zk (me es.size)];show Zd _ _ (seqItems? (.ref T) >>= _) _ _ _;refine Vw (wpAny_seqItems hT g ?_);have r:(ps.map λ(j:Nat)=>rawInt j).toArray[(i:Int).toNat]? = some (.int k 0):=by
  rw[Te,T6,Se,m];rfl
 dsimp only;rw[r];dsimp only;refine Vw ?_;unfold setNextDrawn;obtain⟨o,e,_,f⟩:=c.ob;refine Vw (wpAny_setState_of e f c.ft ?_);dsimp only;rw[Zk (by simp)];refine Vw (Vv ?_);rw[Te,q];refine Vv ?_;refine Vw (l9 (a:=a) (first:=x) (i:=i) (n:=0) (ep:=ep) b (by simp) λl d t=>?_);exact Vv ⟨x,rfl,h l d t⟩
theorem Dl {it a T:Z6}{i ep:Nat}{ps:List Nat}{es:Array (Int×Vy)}{tb:Zf}{oT:Obj}{k:Nat}{Q:Option Vy->Vx->Prop} (g:A.handled=none) (c:s.heap.get? it=some (lD (.ref T) i a es.size ep)) (u:SAt s.heap a es ep tb)
  (hT:s.heap.get? T=some oT) (y:oT.data = .seq (ps.map λ(j:Nat)=>rawInt j).toArray k) (B:ps[i]? = none) (h:∀h',(∀b o,b≠it->s.heap.get? b=some o->h'.get? b=some o)->Q none { s with heap:=h' }) :
  Zd (model P w) A (pyNext (.ref it)) Q E s:=by
 refine oW c ?_;unfold Builtin.«set_iterator.__next__»;refine Vw (Vv ?_);refine Vw (wpAny_fieldsOf c rfl ?_);show Zd _ _ (setEntries a >>= _) _ _ _;refine Vw (eB u ?_);rw[Zk (me es.size)];show Zd _ _ (seqItems? (.ref T) >>= _) _ _ _;refine Vw (wpAny_seqItems hT y ?_);have m:(ps.map λ(j:Nat)=>rawInt j).toArray[(i:Int).toNat]? = none:=by
  rw[Te,T6,Se,B];rfl
 dsimp only;rw[m];dsimp only;refine Vw (l9 (a:=a) (first:=.none) (i:=i) (n:=0) (ep:=ep) c (by simp) λ_ f p=>?_);refine Vw (l9 (a:=a) (first:=.none) (i:=i) (n:=0) (ep:=ep) p (by simp) λt d _=>?_);refine zT (s:={ s with heap:=t }) (show A.in1.handled=none from g) λh' e o q v x=>⟨e,o,rfl,v,x,h h' λb z r l=>q b z (((f.trans d).2 b r).trans l)⟩
theorem mG {α:Type} (next:Nat->Nat):∀(n k:Nat) (l:List α) (out:Array α),l.length=n->((pickOrder.go next n k l out).toList).Perm (out.toList++l)
 | 0,k,l,out,hn=>by
  have:l=[]:=TZ.mp hn;subst this;unfold pickOrder.go;simp
 | n+1,k,l,out,hn=>by
  unfold pickOrder.go;have a:next k % l.length<l.length:=Nat.mod_lt _ (by lia);rw[R9 a];dsimp only;refine(mG next n (k+1) _ _ (by rw[UE a];lia)).trans ?_;rw[Array.toList_push,UK];exact List.Perm.append_left _ (nU l _ a)
theorem pM {a:Z6}{slot i ep:Nat}{es:Array (Int×Vy)}{tb:Zf}{R:Option (Vy×Nat)->Vx->Prop} (f:i6 w=true) (b:SAt s.heap a es ep tb)
  (h:R (((pickOrder (w.params.setOrder a ep) es)[i]?).map λe=>(e.2,slot)) s):Zd (model P w) A (setNext a slot i ep) R E s:=by
 obtain⟨o,c,_,d⟩:=b.ob;unfold setNext setsByText;refine Vw (wpAny_setState_of c d b.ft ?_);dsimp only;refine Vw (Vw (wpAny_askSetting (Vv ?_)));show Zd _ _ (if i6 w=true then _ else _) _ _ _;rw[Zj f,Zk (by simp)];refine Vw ?_;unfold setWalk setsByText;refine Vw (wpAny_setState_of c d b.ft ?_);dsimp only;refine Vw (Vw (wpAny_askSetting (Vv ?_)));show Zd _ _ (if i6 w=true then _ else _) _ _ _;rw[Zj f];exact Vw (wpAny_askSetting (Vv (Vv h)))
theorem qB {a:Z6}{slot i ep:Nat}{es:Array (Int×Vy)}{tb:Zf}{R:Option (Vy×Nat)->Vx->Prop} (f:i6 w=false) (e:tb.led=true) (h1:es.size<=1) (b:SAt s.heap a es ep tb)
  (h:R (match es[Z5 tb.place slot]?,tb.place[Z5 tb.place slot]? with | some (_,x),some j=>some (x,j+1) | _,_=>none) s):Zd (model P w) A (setNext a slot i ep) R E s:=by
 obtain⟨o,c,_,d⟩:=b.ob;unfold setNext setsByText;refine Vw (wpAny_setState_of c d b.ft ?_);dsimp only;refine Vw (Vw (wpAny_askSetting (Vv ?_)));show Zd _ _ (if i6 w=true then _ else _) _ _ _;rw[Zk (by rw[f];decide)];refine Vw (Vv ?_);show Zd _ _ (if (!tb.plain && decide (es.size > 1))=true then _ else _) _ _ _;rw[Zk (by simp;lia)];refine Vw ?_;show Zd _ _ (if (!tb.led && !es.isEmpty)=true then _ else _) _ _ _;rw[Zk (by simp[e])];exact Vv (Vv h)
theorem sj (xs:Array Nat) (h:xs.size<=1):Z5 xs 0=0:=by
 unfold Z5;have:xs.size=0\/xs.size=1:=by lia
 rcases this with e | e
 ·rw[e];rfl
 ·rw[e];show YU xs 0 1 0 1=0;unfold YU;simp[YU]
theorem Bg (j:Nat):Z5 #[j] (j+1)=1:=by
 unfold Z5;show YU #[j] (j+1) 1 0 1=1;unfold YU;simp[YU]
structure Handed (es:Array (Int×Vy)) (vs:List Vy):Prop where
 perm:vs.Perm (es.toList.map (·.2))
theorem eE {h h':Heap}{a:Z6}{es:Array (Int×Vy)}{ep:Nat}{t:Zf} (x:SAt h a es ep t) (k:∀o,h.get? a=some o->h'.get? a=some o):SAt h' a es ep t:=by
 obtain⟨o,e,r⟩:=x.ob;exact⟨⟨o,k o e,r⟩,x.ft⟩
theorem t8 {it a:Z6}{first:Vy}{i n ep:Nat}{Q:Vy->Vx->Prop} (c:s.heap.get? it=some (lD first i a n ep)) (h:Q (.ref it) s):Zd (model P w) A (pyIter (.ref it)) Q E s:=by
 have b:s.TypeIs (.ref it) "set_iterator" :=⟨_,c,rfl⟩;refine wpAny_pyIter_slot b SF.vJ (wpAny_call_entry SF.vJ b SF.BC ?_ (SF.Dy _));exact Vv ⟨_,rfl,"set_iterator",_,b,SF.slot_next.lookup,h⟩
theorem Er {it a:Z6}{ep:Nat}{es:Array (Int×Vy)}{tb:Zf} (q:A.handled=none) (m:a≠it) (d:i6 w=true) :
  Walks P w A it [it,a] [it] es.size (λi v=>((pickOrder (w.params.setOrder a ep) es).toList.map (·.2))[i]? = some v) (λi h=>h.get? it=some (lD (.int 0 0) i a es.size ep)/\SAt h a es ep tb) where
 sub:=λb d=>by rw[Sg.mp d];exact .head _
 frame:=λi h g c k=>⟨k it (by simp) _ c.1,eE c.2 λo e=>k a (by simp) o e⟩
 item:=λi s Q E _ c j=>by
  have r:(pickOrder (w.params.setOrder a ep) es).size=es.size:=by
   have:=(mG (w.params.setOrder a ep) es.size 0 es.toList #[] (by simp)).length_eq;unfold pickOrder;simpa using this
  have f:i<(pickOrder (w.params.setOrder a ep) es).size:=by lia
  refine zl (slot:=0) (nx:=0) (x:=(pickOrder (w.params.setOrder a ep) es)[i].2) c.1 c.2 (λA E R n=>pM d c.2 (by rw[SY f];exact n)) λg p l=>?_;refine j _ g s.toks ?_ ⟨l,eE c.2 λo e=>(p.2 a m).trans e⟩ λb o d e=>(p.2 b (by simpa using d)).trans e;rw[Se,S6,SY f];rfl
 done:=λs Q E c j=>by
  have r:(pickOrder (w.params.setOrder a ep) es).size=es.size:=by
   have:=(mG (w.params.setOrder a ep) es.size 0 es.toList #[] (by simp)).length_eq;unfold pickOrder;simpa using this
  refine yT (slot:=0) q c.1 c.2 (λA E R n=>pM d c.2 (by rw[TN (by lia)];exact n)) λg k=>j g s.toks λb o d e=>k b o (by simpa using d) e
 self:=λi s Q E c h=>t8 c.1 h
theorem BD {it a T:Z6}{ep z:Nat}{oT:Obj}{ps:List Nat}{es:Array (Int×Vy)}{tb:Zf} (y:A.handled=none) (n:a≠it) (p:T≠it) (r:ps.Perm (Y7 es.size)) (u:oT.data = .seq (ps.map λ(j:Nat)=>rawInt j).toArray z) :
  Walks P w A it [it,a,T] [it] es.size (λi v=>(ps.map λk=>(es.getD k (0,.none)).2)[i]? = some v) (λi h=>h.get? it=some (lD (.ref T) i a es.size ep)/\SAt h a es ep tb/\h.get? T=some oT) where
 sub:=λb f=>by rw[Sg.mp f];exact .head _
 frame:=λi h g c k=>⟨k it (by simp) _ c.1,eE c.2.1 λo e=>k a (by simp) o e,k T (by simp) _ c.2.2⟩
 item:=λi s Q E _ c l=>by
  have B:ps.length=es.size:=by rw[r.length_eq];simp
  have d:i<ps.length:=by lia
  have t:ps[i]<es.size:=by have:=r.mem_iff.mp (S7 d);simpa using this
  refine El (hx:=es[ps[i]].1) (x:=es[ps[i]].2) c.1 c.2.1 c.2.2 u (R9 d) (SY t) λg q m=>?_;refine l _ g s.toks ?_ ⟨m,eE c.2.1 λo e=>(q.2 a n).trans e,(q.2 T p).trans c.2.2⟩ λb o f e=>(q.2 b (by simpa using f)).trans e;rw[Se,R9 d,Option.map_some];simp[Z0,t]
 done:=λs Q E c l=>by
  have B:ps.length=es.size:=by rw[r.length_eq];simp
  refine Dl y c.1 c.2.1 c.2.2 u (S9 (by lia)) λg k=>l g s.toks λb o f e=>k b o (by simpa using f) e
 self:=λi s Q E c h=>t8 c.1 h
theorem Gx {it a:Z6}{ep:Nat}{es:Array (Int×Vy)}{tb:Zf} (B:A.handled=none) (r:a≠it) (d:i6 w=false) (y:tb.led=true) (h1:es.size<=1) (g:tb.fits es.size=true) :
  Walks P w A it [it,a] [it] es.size (λi v=>(es.toList.map (·.2))[i]? = some v) (λi h=>h.get? it=some (lD (.int (if i=0 then 0 else tb.place.getD 0 0+1:Nat) 0) i a es.size ep)/\SAt h a es ep tb) where
 sub:=λb d=>by rw[Sg.mp d];exact .head _
 frame:=λi h l c k=>⟨k it (by simp) _ c.1,eE c.2 λo e=>k a (by simp) o e⟩
 item:=λi s Q E t c p=>by
  obtain rfl:i=0:=by lia
  have n:tb.place.size=es.size:=by simp only[SetTable.fits,S4,beq_iff_eq]at g;exact g.1
  have D:=sj tb.place (by lia);have f:0<tb.place.size:=by lia
  refine zl (slot:=0) (nx:=tb.place[0]+1) (x:=es[0].2) c.1 c.2 (λA E R m=>qB d y h1 c.2 (by rw[D,SY t,SY f];exact m)) λl u q=>?_;refine p _ l s.toks ?_ ⟨?_,eE c.2 λo e=>(u.2 a r).trans e⟩ λb o d e=>(u.2 b (by simpa using d)).trans e
  ·rw[Se,S6,SY t];rfl
  ·rw[q];simp[Z0,f]
 done:=λs Q E c p=>by
  have n:tb.place.size=es.size:=by simp only[SetTable.fits,S4,beq_iff_eq]at g;exact g.1
  refine yT B c.1 c.2 (λA E R m=>qB d y h1 c.2 ?_) λl k=>p l s.toks λb o d e=>k b o (by simpa using d) e;rcases Tc 0 es.size with z | z
  ·have F:es.size=1:=by lia
   obtain⟨j,C⟩:∃j,tb.place = #[j]:=by
    match hq:tb.place,(show tb.place.size=1 by lia)with
    | ⟨[j]⟩,_=>exact⟨j,rfl⟩
   rw[Zk (by lia),C];have:(#[j]:Array Nat).getD 0 0=j:=rfl;rw[this,Bg,TN (by lia)];exact m
  ·rw[Zj (by lia),sj tb.place (by lia),TN z];exact m
 self:=λi s Q E c h=>t8 c.1 h
theorem Ae {a:Z6}{es:Array (Int×Vy)}{ep:Nat}{tb:Zf}{Q:Bool->Vx->Prop} (b:SAt s.heap a es ep tb) (h:Q (!i6 w && (!tb.plain && decide (es.size > 1))) s):Zd (model P w) A (setDrawn a) Q E s:=by
 obtain⟨o,c,_,d⟩:=b.ob;unfold setDrawn setsByText;refine Vw (wpAny_setState_of c d b.ft ?_);dsimp only;exact Vw (Vw (wpAny_askSetting (Vv (Vv h))))
theorem Bx {es:Array (Int×Vy)}{ps:List Nat} (b:ps.Perm (Y7 es.size)):(ps.map λk=>(es.getD k (0,.none)).2).Perm (es.toList.map (·.2)):=by
 refine(b.map _).trans ?_;have e:(Y7 es.size).map (λk=>(es.getD k (0,.none)).2)=es.toList.map (·.2):=by
  apply List.ext_getElem?;intro i;rw[Se,Se];by_cases a:i<es.size
  ·rw[List.getElem?_range a];simp[Z0,a]
  ·rw[S9 (by simp;lia),S9 (by simp;lia)];rfl
 rw[e]
theorem Fu {a:Z6}{us:List Str}{Q:Vy->Vx->Prop} (R:A.handled=none) (hS:kN P w (i6 w) s.heap a us)
  (h:∀(I:Z6) (vs:List Vy) (h':Heap) (d:Drawn) (fp:List Z6) (St:Nat->Heap->Prop),(∀b o,s.heap.get? b=some o->h'.get? b=some o)->(∀b∈fp,b=a\/s.heap.objs.size<=b)->s.heap.objs.size<=I->vs.length=us.length->(∃us':List Str,us'.Perm us/\aR (us'.map V.str) vs) ->
   Walks P w A I fp [I] vs.length (λi v=>vs[i]? = some v) St->St 0 h'->Q (.ref I) { s with heap:=h',drawn:=d }) :
  Zd (model P w) A (pyIter (.ref a)) Q E s:=by
 obtain⟨o,es,ep,t,H,L,O,_,u,N,hl,hp,hs,hm⟩:=id hS;have g:SAt s.heap a es ep t:=⟨⟨o,H,L,O⟩,N⟩;have hT:s.TypeIs (.ref a) "set" :=⟨o,H,L.1⟩;have Y:es.size=us.length:=by
  have:=hm.length_eq;rw[R8,SA]at this;exact this
 have j:∀vs:List Vy,vs.Perm (es.toList.map (·.2))->vs.length=us.length/\∃us':List Str,us'.Perm us/\aR (us'.map V.str) vs:=λvs y=>by
  refine⟨by rw[y.length_eq,R8,SA,Y],vs.map vX,((y.map vX).trans (by rw[SS];exact hm)),?_⟩;have Z:∀v∈vs,∃x tk,v = .str x tk:=λv X=>by
   obtain⟨e,he,rfl⟩:=Si.mp (y.mem_iff.mp X);exact hs e he
  clear y
  induction vs with
  | nil=>exact .nil
  | cons v r ih=>
   obtain⟨x,tk,rfl⟩:=Z v (.head _);exact .cons ⟨tk,rfl⟩ (ih λv y=>Z v (.tail _ y))
 refine wpAny_pyIter_slot hT PySem.F.slot_set_iter (wpAny_call_entry PySem.F.slot_set_iter hT SF.rZ ?_ (PySem.F.args_set_iter_1 _));unfold Builtin.«frozenset.__iter__»;refine Vw (Vv ?_);refine Vw (m:=Builtin.Frozenset.sizeOf a) (Vw (eB g (Vv ?_)));refine Vw (Ae g ?_);dsimp only;have q:a<s.heap.objs.size:=Y3 H;by_cases l:(!i6 w && (!t.plain && decide (es.size > 1)))=true
 ·rw[Zj l];refine Vw (kJ es.size _ s (by simp) λK d n=>?_);refine Vw (wpAny_newTuple ?_ (by rw[R8,n.length_eq,TK,sizeLine_eq];unfold scanBound at u;lia));have B:(s.heap.push { cls:=.type "tuple",data:=.seq (K.map λ(i:Nat)=>rawInt i).toArray }).get? s.heap.objs.size=some { cls:=.type "tuple",data:=.seq (K.map λ(i:Nat)=>rawInt i).toArray }:=Y2 _ rfl;generalize hh1:s.heap.push { cls:=.type "tuple",data:=.seq (K.map λ(i:Nat)=>rawInt i).toArray }=h1 at B ⊢;have U:∀b o,s.heap.get? b=some o->h1.get? b=some o:=λb o e=>by rw[<-hh1];exact Vu _ e
  have QI:SAt h1 a es ep t:=eE g (U a);have M:h1.objs.size=s.heap.objs.size+1:=by rw[<-hh1,YX]
  refine Vw (wpAny_setEpoch_of (s:={ s with heap:=h1,drawn:=d }) (U a o H) O N ?_);refine Vw (wpAny_newObj_type ?_ (by size_fits));have f:(h1.push (lD (.ref s.heap.objs.size) (0:Nat) a es.size ep)).get? h1.objs.size=some (lD (.ref s.heap.objs.size) (0:Nat) a es.size ep):=Y2 _ rfl;have p:∀b o,h1.get? b=some o->(h1.push (lD (.ref s.heap.objs.size) (0:Nat) a es.size ep)).get? b=some o:=λb o e=>Vu _ e;obtain⟨C,G⟩:=j _ (Bx n);have c:(K.map λk=>(es.getD k (0,Value.none)).2).length=es.size:=by rw[R8,n.length_eq,TK]
  have W:=BD (P:=P) (w:=w) (A:=A) (it:=h1.objs.size) (a:=a) (T:=s.heap.objs.size) (ep:=ep) (tb:=t) R (SD (by rw[M];exact UJ q)) (SD (by rw[M];exact Ub _)) n (oT:={ cls:=.type "tuple",data:=.seq (K.map λ(i:Nat)=>rawInt i).toArray }) rfl;rw[<-c]at W;refine Vv ⟨_,rfl,"set_iterator",_,⟨_,f,rfl⟩,SF.slot_next.lookup,?_⟩;refine h h1.objs.size _ _ d [h1.objs.size,a,s.heap.objs.size] _ (λb o e=>p b o (U b o e)) (λb u=>?_) (by rw[M];exact TB _) C G W ⟨?_,eE QI (p a),p _ _ B⟩
  ·simp only[Su,Ts,or_false]at u;rcases u with e | e | e
   ·exact .inr (by rw[e,M];exact TB _)
   ·exact .inl e
   ·exact .inr (by rw[e];exact Sb _)
  ·rw[c];exact f
 ·rw[Zk l];refine Vw (Vv ?_);refine Vw (wpAny_setEpoch_of H O N ?_);refine Vw (wpAny_newObj_type ?_ (by size_fits));have f:(s.heap.push (lD (.int (0:Nat) 0) (0:Nat) a es.size ep)).get? s.heap.objs.size=some (lD (.int (0:Nat) 0) (0:Nat) a es.size ep):=Y2 _ rfl;have p:∀b o,s.heap.get? b=some o->(s.heap.push (lD (.int (0:Nat) 0) (0:Nat) a es.size ep)).get? b=some o:=λb o e=>Vu _ e;refine Vv ⟨_,rfl,"set_iterator",_,⟨_,f,rfl⟩,SF.slot_next.lookup,?_⟩;have D:∀b∈[s.heap.objs.size,a],b=a\/s.heap.objs.size<=b:=λb u=>by
   simp only[Su,Ts,or_false]at u;rcases u with e | e
   ·exact .inr (by rw[e];exact Sb _)
   ·exact .inl e
  cases hbt:i6 w with
  | true=>
   have J:(pickOrder (w.params.setOrder a ep) es).toList.Perm es.toList:=by
    have:=mG (w.params.setOrder a ep) es.size 0 es.toList #[] (by simp);unfold pickOrder;simpa using this
   obtain⟨C,G⟩:=j _ (J.map (·.2))
   have c:((pickOrder (w.params.setOrder a ep) es).toList.map (·.2)).length=es.size:=by rw[R8,J.length_eq,SA]
   have W:=Er (P:=P) (w:=w) (A:=A) (it:=s.heap.objs.size) (a:=a) (ep:=ep) (es:=es) (tb:=t) R (SD q) hbt;rw[<-c]at W;refine h s.heap.objs.size _ _ s.drawn [s.heap.objs.size,a] _ p D (Sb _) C G W ⟨?_,eE g (p a)⟩;rw[c];exact f
  | false=>
   have h1:es.size<=1:=by
    rcases Tc 1 es.size with z | z
    ·have S:us≠[]:=λe=>by rw[e]at Y;rw[Y]at z;exact absurd z (by decide)
     rw[hbt,hp S]at l;simp at l;lia
    ·exact z
   obtain⟨C,G⟩:=j _ (Z4 _);have c:(es.toList.map (·.2)).length=es.size:=by rw[R8,SA]
   have W:=Gx (P:=P) (w:=w) (A:=A) (it:=s.heap.objs.size) (a:=a) (ep:=ep) (es:=es) (tb:=t) R (SD q) hbt (by rw[hl,hbt];rfl) h1 N;rw[<-c]at W;refine h s.heap.objs.size _ _ s.drawn [s.heap.objs.size,a] _ p D (Sb _) C G W ⟨?_,eE g (p a)⟩;rw[c];exact f
theorem FF {r:Z6}{Q:Bool->Vx->Prop} (hT:s.TypeIs (.ref r) "set") (h:Q false s):Zd (model P w) A (Builtin.List.listLengthHint (.ref r)) Q E s:=by
 unfold Builtin.List.listLengthHint;refine Vw (wpAny_specialOf hT PySem.F.slot_set_len.lookup ?_);generalize hid:("set.__len__" : String)=id0
 wp_delta
 have a:splitId id0=some ("set","__len__"):=by subst hid;decide +kernel
 rw[a];subst hid;refine Vw (wpAny_isInstance (T:= "set") (b:=true) hT (by rw[isSubtype_type];kernel_rfl) ?_);refine wpAny_ite_split (λz=>absurd z (by decide)) λ_=>?_;refine wpAny_ite_split (λ_=>?_) λz=>absurd (by decide +kernel) z;exact Vw (wpAny_typeOf hT (Vv h))
theorem yU {a:Z6}{us:List Str}{R:List Vy->Vx->Prop} (hh:A.handled=none) (hS:kN P w (i6 w) s.heap a us) (hn:us.length<=Zc)
  (h:∀(h':Heap) (tk:Nat) (d:Drawn) (vs:List Vy) (us':List Str),(∀b o,s.heap.get? b=some o->h'.get? b=some o)->us'.Perm us->aR (us'.map V.str) vs->R vs { s with heap:=h',toks:=tk,drawn:=d }) :
  Zd (model P w) A (collect (.ref a)) R E s:=by
 obtain⟨o,_,_,_,Q,u,_⟩:=id hS;have r:a<s.heap.objs.size:=Y3 Q;unfold collect;refine Vw (wpAny_runValue (codeAny_builtin entry_proto_collect' ?_));rw[Yg PySem.F.plain_proto_collect _];refine Vw (m:=newList []) (wpAny_newList ?_ (Sy _));have oS:(s.heap.push (seqObj "list" #[] 0)).get? s.heap.objs.size=some (seqObj "list" #[] 0):=Y2 _ rfl;have p:∀b o,s.heap.get? b=some o->(s.heap.push (seqObj "list" #[] 0)).get? b=some o:=λb o e=>Vu _ e;have x:(s.heap.push (seqObj "list" #[] 0)).objs.size=s.heap.objs.size+1:=YX _ _;refine Vv ⟨plainId_quiet PySem.F.plain_list_iadd _,codeAny_builtin entry_list_iadd' ?_⟩;rw[Yg PySem.F.plain_list_iadd _];show Zd _ _ (Yx (.ref s.heap.objs.size) (.ref a) (.ref s.heap.objs.size)) _ _ { s with heap:=s.heap.push (seqObj "list" #[] 0) };generalize s.heap.push (seqObj "list" #[] 0)=h1 at oS p x ⊢;have X:kN P w (i6 w) h1 a us:=hS.keep (p a);have H:Shared.TypeIs { s with heap:=h1 } (.ref a) "set" :=⟨o,p a o Q,u.1⟩;generalize hd1:s.heap.objs.size=S at oS x r ⊢;have n:S≠a:=T9 r;unfold Yx;refine Vw (wpAny_typeOf H ?_);have e1:YW (.ref S) (.ref a)=false:=by simp[YW,n]
 have e2:(Value.type "set" == Value.type "list")=false:=by decide
 have e3:(Value.type "set" == Value.type "tuple")=false:=by decide
 simp only[e1,e2,e3,UO,SQ,if_false];refine Vw (Fu (s:={ s with heap:=h1 }) (show A.in1.handled=none from hh) X λI vs M d fp St Y T hI C D W st=>?_);obtain⟨us',N,L⟩:=D;have J:S<I:=by rw[x]at hI;exact hI
 have l:S∉fp:=λz=>(T S z).elim n λz=>absurd z (by rw[x];exact Nat.not_succ_le_self _);have t:=Y S _ oS;have K:∀(k:Heap) (c tk:Nat),St 0 k->(∀b o,b≠S->M.get? b=some o->k.get? b=some o)->k.get? S=some (seqObj "list" #[] c) ->
   codeAny (model P w) A (.builtin "list.extend.loop" ⟨[.ref S,.ref I,.ref S],[]⟩) (λq j=>∃(h':Heap) (tk:Nat) (acc:Array Vy) (c':Nat),q = .ok (.ret (.ref S))/\j = { s with heap:=h',toks:=tk,drawn:=d }/\(∀b o,s.heap.get? b=some o->h'.get? b=some o)/\h'.get? S=some (seqObj "list" acc c')/\acc.toList=vs) { s with heap:=k,toks:=tk,drawn:=d }:=λk c tk G B o3=>by
  refine codeAny_extend_loopS W.toS (by rw[C];exact hn) S l (.ref S) vs.length 0 _ #[] c rfl (Sy _) G o3 (ItemsOf.nil _) λj acc c' hm U Z=>?_;rw[Moved.eq_with hm];refine⟨j.heap,j.toks,acc,c',rfl,rfl,λb o e=>?_,U,?_⟩
  ·have f:b<S:=by rw[<-hd1];exact Y3 e
   refine hm.heap b o (λz=>?_) (B b o (SD f) (Y b o (p b o e)));rcases Su.mp z with z | z
   ·exact absurd z (SD f)
   ·exact absurd (Sg.mp z) (SD (Ua f J))
  ·apply List.ext_getElem?;intro i;rw[S6];cases q:acc[i]? with
   | none=>
    have:=Array.getElem?_eq_none_iff.mp q;rw[Z.1]at this;exact(S9 this).symm
   | some v=>exact(Z.2 i v q).symm
 refine Vw (Vs (FF ⟨o,Y a o (p a o Q),u.1⟩ ?_));rw[Zj (by decide)];refine Vw (wpAny_rule ?_);have u1:=get?_update_seq t λ(g:Array Vy)=>g.push Value.none;have u2:=get?_update_seq u1 λ(g:Array Vy)=>g.pop;refine Vw (m:=Builtin.List.listTouch _) ?_;unfold Builtin.List.listTouch;refine Vw (listUpdate_at t rfl ?_ (Sy _) (by show 1<=_;rw[sizeLine_eq];lia));refine listUpdate_at u1 rfl ?_ (by show 1<=_;rw[sizeLine_eq];lia) (Sy _);have B:∀b o,b≠S->M.get? b=some o->((M.update S (Y8 λg=>g.push Value.none)).update S (Y8 λg=>g.pop)).get? b=some o:=λb o y e=>(Yu _ _ (YQ y)).trans ((Yu _ _ (YQ y)).trans e);refine Vv ⟨plainId_quiet PySem.F.plain_extend_loop _,codeAny_mono (K _ _ s.toks (W.frame 0 _ _ st λb y o e=>B b o (λz=>l (z ▸ y)) e) B u2) λq j hq=>?_⟩;obtain⟨h',tk,acc,c',rfl,rfl,hk,O,hv⟩:=hq;refine Vw (wpAny_load O (Vv ?_));subst hv;exact h h' tk d acc.toList us' hk N L
end
def UpS (ms:List Str):Prop:=ms.Pairwise λx y=>ltv (.str y) (.str x)=false
def F5 (X:Cx) (f:Vy) (r:List Str->Hp->VK->Prop):Prop:=
 ∀(pins:List (Z6×Obj)) (s:Vx) (σ:St) (H:Hp) (D:Z6) (us:List Str) (Q:VK),Inv X pins σ H s->kN X.prog X.w (i6 X.w) s.heap D us->r us H Q->Zd (model X.prog X.w) X.A (call f [.ref D]) (EP X pins σ Q) X.xe s
def tFS (r:List Str->Hp->VK->Prop) (t:TA):TE:=λσ H Q=>t σ H λvs H1=>∃a zs,vs=[.ref a]/\Rd H1 a (.lst (zs.map V.str))/\zs.length<4000/\r (fP [] zs) H1 Q
section
variable {X:Cx}{x y:Str}{p q pos uJ:Pos}{e:Expr}{t:TA}{id:String}{r:List Str->Hp->VK->Prop}
theorem Inv.Lr {pins:List (Z6×Obj)}{σ:St}{H:Hp}{s:Vx}{h':Heap}{tk:Nat}{d:Drawn} (I:Inv X pins σ H s) (k:∀b o,s.heap.get? b=some o->h'.get? b=some o):Inv X pins σ H { s with heap:=h',toks:=tk,drawn:=d }:=by
 have J:=I.kept (t':=tk) k;exact⟨J.ok,J.os,J.bare,J.base,J.loc,J.cell,J.free,J.kG,J.pin,J.hok,J.len⟩
theorem wF (N:F5 X (.builtin id) r) (E:X.calm=true) (G:Gl X x) (F:X.mg x=none) (L:bootBuiltins x=some (.builtin id)) (z:Gl X y) (g:X.mg y=none) (j:bootBuiltins y=some (.type "set")) (O:PA X [e] t)
  (P:x ≠ "__name__" :=by decide) (o:(x == ("__debug__" : Str))=false:=by decide) (i:y ≠ "__name__" :=by decide) (R:(y == ("__debug__" : Str))=false:=by decide)
  (A:Ze [Expr.Call (.Name y q) [e] [] uJ] X.env=(false,eval (Expr.Call (.Name y q) [e] [] uJ) X.env)::Ze [] X.env:=by rfl) (l:Ze [e] X.env=(false,eval e X.env)::Ze [] X.env:=by rfl) :
  PE X (.Call (.Name x p) [.Call (.Name y q) [e] [] uJ] [] pos) (tFS r t):=by
 intro b s m H Q I h;refine wpAny_Call_Name_kw (eN I G F L ?_ P o);refine PyProof.Rows.callWith_builtin1 ?_ A rfl;rw[A];refine YC (thn (Q:=λv f=>∃D us H1,v = .ref D/\Inv X b m H1 f/\kN X.prog X.w (i6 X.w) f.heap D us/\r us H1 Q) ?_ λv f ⟨D,us,H1,C,c,hS,d⟩=>?_)
 ·refine wpAny_Call_Name_kw (eN I z g j ?_ i R);refine Ym (thn (O uJ b s m H _ I h) λus _ ⟨_,H1,c,T,d⟩=>?_) l rfl;obtain⟨a,_,rfl,S,_,d⟩:=d;obtain⟨u,rfl,K⟩:=T.one;cases K;obtain⟨_,_,n,B,M⟩:=S.ok c.hok;have J:=B.length;rw[R8]at J;refine uV (c.ok.hd E) ⟨_,M,rfl,n,rfl⟩ B (by rw[Sn];unfold scanBound;lia) λ_ _ hS k=>?_;exact⟨_,_,H1,rfl,c.Lr k,hS,d⟩
 ·subst C;exact YT (N b f m H1 D us Q c hS d)
end
theorem tQ:∀{ns:List Str}{us:List Vy},aR (ns.map V.str) us->∀v∈us,∃i t,v=Value.str i t
 | [],_,r,v,hv=>by rw[Tw]at r;cases r;cases hv
 | n::ns,_,r,v,hv=>by
  rw[Sv]at r;cases r with
  | cons h t=>
   obtain⟨a,rfl⟩:=h;rcases Su.mp hv with e | e
   ·exact⟨n,a,e⟩
   ·exact tQ t v e
theorem BH {P:Z9}{w:Za}{A:Z8}{ns:List Str}{us:List Vy} (f:aR (ns.map V.str) us) (s':Vx) (G:Array Nat->Vx->Prop) (h2:2<=us.length)
  (h:∀p:Array Nat,p.toList.Perm (Y7 us.length)->(∀i j,i<=j->j<us.length->ltv ((ns.map PyData.str).getD (p.getD j 0) .none) ((ns.map PyData.str).getD (p.getD i 0) .none)=false)->G p s') :
  Zd (model P w) A (keyKind' us.toArray) (λκ s''=>(kas_sort us.length).kasWp (kas_ask P w A κ us) G s'') (λ_ _=>False) s':=by
 refine kas_kind (T:=.type "str") h2 (λv u=>?_) (by decide) (by decide) ?_
 ·obtain⟨i,t,rfl⟩:=tQ f v u;exact .of_pure rfl
 have E:us.length=ns.length:=by rw[<-f.length,R8]
 have o:=Sh.ok .str;have g:∀i,i<us.length->(ns.map PyData.str).getD i .none = .str (ns.getD i Yh):=λi b=>by
  have c:i<ns.length:=by lia
  simp[Sr,c]
 have a:∀i,i<us.length->Sh.str.has ((ns.map PyData.str).getD i .none):=λi b=>⟨_,g i b⟩;refine ya (n:=us.length) (lt:=λi j=>ltv ((ns.map PyData.str).getD i .none) ((ns.map PyData.str).getD j .none)) (P:=λs''=>s'' = s') ⟨λi b=>o.irr _ (a i b),λi j k b d z q=>o.neg (a i b) (a j d) (a k z) q,λi j b d q=>o.asymm (a i b) (a j d) q⟩
  (λi j C s'' b d e q=>?_) (by lia) rfl λp s'' e D B=>by subst e;exact h p D B
 subst e;show Zd (model P w) A (keyLt' oneType' (us.getD i .none) (us.getD j .none)) C (λ_ _=>False) s'';have r:=fV f i;have l:=fV f j;have s:=q s'' rfl;rw[g i b,g j d]at s;have m:∀i,i<us.length->(ns.map V.str).getD i .non = .str (ns.getD i Yh):=λi b=>by
  have c:i<ns.length:=by lia
  simp[Sr,c]
 rw[m i b]at r;rw[m j d]at l;obtain⟨_,y⟩:=r;obtain⟨_,x⟩:=l;rw[y,x,keyLt'_oneType];exact oneLt_str s
theorem Gd {ns:List Str}{p:List Nat} (h:p.Perm (Y7 ns.length)):(p.map λi=>ns.getD i Yh).Perm ns:=by
 have e:=fh ns Yh;exact(h.map λi=>ns.getD i Yh).trans (by rw[e])
def Ol:List Str->Hp->VK->Prop:=λus H Q=>us.length<64/\∀(D:Z6) (ms:List Str),H D=none->ms.Perm us->UpS ms->Q (.ref D) (upd H D (.lst (ms.map V.str)))
section
variable {X:Cx}
theorem og {k:Nat} (N:X.calm=true) (R:bI k X.A):F5 X (.builtin "sorted") Ol:=by
 intro c s E H S us Q I hS h;obtain⟨_,q⟩:=h
 (refine Calls.call_function_entry kind_sorted plain_sorted entry_sorted (args_sorted1 _) ?_)
 unfold Builtin.«sorted»
 (refine Vw (m:=checkCount "sorted" 1 1 _) (Vv ?_))
 refine Vw (yU (A:=X.A.in1) (show X.A.in1.handled=none from I.ok.hd N) hS (by rw[sizeLine_eq];lia) λh1 t d a us' C F u=>?_);have w:us'.length=us.length:=F.length_eq;have v:a.length=us'.length:=by rw[<-u.length,R8]
 (refine Vw (wpAny_newList ?_ (by rw[v,w,sizeLine_eq];lia)))
 have B:Inv X c E H { s with heap:=h1,toks:=t,drawn:=d }:=I.Lr C;have f:(h1.push (seqObj "list" a.toArray 0)).get? h1.objs.size=some (seqObj "list" a.toArray 0):=Y2 _ rfl;have g:∀b o,s.heap.get? b=some o->(h1.push (seqObj "list" a.toArray 0)).get? b=some o:=λb o e=>Vu _ (C b o e);show Zd _ _ (_ >>= λ_=>_) _ _ { s with heap:=h1.push (seqObj "list" a.toArray 0),toks:=t,drawn:=d };generalize h1.push (seqObj "list" a.toArray 0)=h2 at f g ⊢;have P:Inv X c E H { s with heap:=h2,toks:=t,drawn:=d }:=I.Lr g;have l:H h1.objs.size=none:=B.hok.fresh (Sb _);have z:b6 X c H h1.objs.size:=B.o8 (Sb _) l;generalize h1.objs.size=D at f l z ⊢
 (refine Vw (Vs (wpAny_call_entry slot_list_sort ⟨_,f,rfl⟩ entry_list_sort ?body (args_list_sort _))))
 case body=>
  refine yX (s:={ s with heap:=h2,toks:=t,drawn:=d }) (ds:=us'.map PyData.str) P f z u (λJ G _ h2 K=>BH u J G h2 K) (by lia) λp _ j x y=>?_;refine⟨_,rfl,Vv ⟨_,rfl,?_⟩⟩;rw[R8]at j;have r:∀i∈p,i<us'.length:=λi n=>by have:=j.mem_iff.mp n;simpa using this
  have L:picked (us'.map V.str) p=(p.map λi=>us'.getD i Yh).map V.str:=by
   unfold picked;rw[SS];refine SK λi n=>?_;simp[Sr,r i n]
  have O:(p.map λi=>(us'.map PyData.str).getD i .none)=(p.map λi=>us'.getD i Yh).map PyData.str:=by
   rw[SS];refine SK λi n=>?_;simp[Sr,r i n]
  have M:UpS (p.map λi=>us'.getD i Yh):=by
   unfold fE at x;rw[O,Tu]at x;exact x
  rw[L]at y;exact⟨.ref _,_,y,rfl,q _ _ l ((Gd j).trans F) M⟩
def Nn:List Str->Hp->VK->Prop:=λus H Q=>Q (.int us.length) H
theorem D6:F5 X (.builtin "len") Nn:=by
 intro _ s _ H S d Q I hS h;obtain⟨o,_,_,t,i,a,b,_,g,f,_,_,_,c⟩:=id hS;have e:=c.length_eq;rw[R8,SA]at e;exact call_len_set i a b f (by unfold scanBound at g;lia) ⟨.int d.length,H,I.tok _,⟨_,by rw[e]⟩,h⟩
end
end L2
namespace L2
open PySem PySem.Spec PyProof.Rows
section
variable {P:Z9}{w:Za}{A:Z8}{E:Vy->Vx->Prop}{s:Vx}{kf:Z6->Int×Str}
end
end L2
namespace L2
open PySem PySem.Spec PyProof.Rows PySem.W
section
variable {P:Z9}{w:Za}{A:Z8}{E:Vy->Vx->Prop}{s:Vx}
end
end L2
namespace L2
open PySem PySem.Spec PyProof.Rows
section
variable {X:Cx}{x y:Str}{p q pos uJ:Pos}{e:Expr}{t:TA}
end
end L2
namespace LG
open PySem L2 PySem.Builtin PySem.Builtin.Str
structure Mx (P N:List (List Pt)):Prop where
 nd:N.Nodup
 ko:zf N
 mem:∀p,p∈N↔p∈P/\∀q∈P,ic p q=true->q=p
def J4 (pss:List (List Pt)):Zb:=.list (pss.map bx)
def kyD (n:Nat) (one other:List (List Pt)):Zb:=.list [.int n,J4 one,J4 other]
structure Rj (P Q:List (List Pt)) (l:List Str):Prop where
 wd:∀x∈l,dE x=true/\Bd x
 up:l.Pairwise λa b=>wlt b a=false
 all:∀y,dE y=true->∃x∈l,wlt y x=false/\mv P x=mv P y/\mv Q x=mv Q y
def dr (n:Nat) (P:List (List Pt)):List (List Pt):=P.map (List.drop n)
def at_ (n:Nat) (w:Str) (P:List (List Pt)):List (List Pt):=P.filter λps=>(ps.getD n (.hole 2)).takes w
def ng (c:Nat):Str:=⟨#[45,c]⟩
def ky (n:Nat) (P Q:List (List Pt)):Key:=.inr (Qz (kyD n P Q))
structure Base (m:Nat) (P0 Q0:List (List Pt)):Prop where
 m12:m<=12
 p:∀ps∈P0,PW ps/\ps.length=m
 q:∀ps∈Q0,PW ps/\ps.length=m
 lp:P0.length<=7
 lq:Q0.length<=8
structure KnK (P0 Q0:List (List Pt)) (kvs:List (Key×V)):Prop where
 nd:(kvs.map (·.1)).Nodup
 of:∀k∈kvs.map (·.1),∃n P Q,n<13/\P.Sublist P0/\Q.Sublist Q0/\k=ky n P Q
end LG
namespace LG
open PySem L2
section
variable {K:Vz}
def ptV:Pt->List V
 | .word w=>[.str "word",.str w]
 | .hole k=>[.str "hole",.str (cx k)]
def K1 (H:Hp) (v:V) (p:Pt):Prop:=∃t,v = .ref t/\H t=some (.tup (ptV p))
def NL (o:HO):Prop:=∀xs,o ≠ .lst xs
def tO (H:Hp):Hp:=λa=>match H a with
 | some (.lst _)=>none
 | o=>o
theorem CB {H:Hp}{a:Z6}{o:HO} (h:tO H a=some o):NL o/\H a=some o:=by
 unfold tO at h
 split at h
 ·cases h
 ·rename_i n;exact⟨λxs e=>n xs (by rw[h,e]),h⟩
theorem E4 {H:Hp}{a:Z6}{o:HO} (h:H a=some o) (n:NL o):tO H a=some o:=by
 unfold tO
 split
 ·rename_i xs e;rw[h]at e;cases e;exact(n xs rfl).elim
 ·exact h
theorem Cq {H H':Hp} (k:∀a o,NL o->H a=some o->H' a=some o):af (tO H) (tO H'):=λa o h=>by
 obtain⟨n,e⟩:=CB h;exact E4 (k a o n e) n
theorem FV {xs:List V}:NL (.tup xs):=λys e=>by cases e
inductive PL (K:Vz) (H:Hp):List Z6->List (List Pt)->Prop
 | nil:PL K H [] []
 | cons {a:Z6}{ys:List V}{as:List Z6}{ps:List Pt}{pss:List (List Pt)} (h1:H a=some (.lst ys)) (h2:aE K (tO H) ys (ps.map Pt.dat)) (h3:a∉as) (t:PL K H as pss):PL K H (a::as) (ps::pss)
theorem K1.den {H:Hp}{v:V}{p:Pt} (h:K1 H v p) (a:PtW p):Den K (tO H) v p.dat:=by
 obtain⟨t,rfl,h⟩:=h;cases p with
 | word w=>exact .tup (.of (E4 h FV)) (.cons (.str (by decide +kernel)) (.cons (.str a.2.2) .nil))
 | hole k=>exact .tup (.of (E4 h FV)) (.cons (.str (by decide +kernel)) (.cons (.str tq) .nil))
theorem Ob {H H':Hp} (s:af H H'):af (tO H) (tO H'):=Cq λa o _ h=>s a _ h
theorem Ma {H:Hp}{a:Z6}{xs ys:List V} (h:H a=some (.lst xs)):af (tO H) (tO (upd H a (.lst ys))):=Cq λc o n hc=>by
 have:c≠a:=λz=>by rw[z,h]at hc;cases hc;exact n _ rfl
 rw[aq this];exact hc
theorem GF {ws:List Str}{ps:List Pt} (f:∀w∈ws,WOk w) (h:zC ws ps):PW ps:=λp c=>by
 obtain⟨i,b⟩:=TJ c;have d:=aG b;obtain⟨w,e⟩:=at_of (l:=ws) (i:=i) (by rw[<-h.1];exact d);have a:=f w (Sd e);rcases h.2 i w p e b with rfl | ⟨rfl,_⟩ | rfl
 ·exact⟨a.word,Sl a.len (by decide),a.ok⟩
 ·show eh w.cps.toList<3;lia
 ·exact(by decide:2<3)
end
end LG
namespace L2
open PySem PySem.Spec PyProof.Rows PySem.W
abbrev KZ (X:Cx) (qual:Str) (scope:Scope) (q:Z6) (cd:Vy) (L:Z6):Env:=envX qual scope L q cd (gJ X.env.cells scope.names [])
def Cy (X:Cx) (N':List Str) (qual:Str) (scope:Scope) (q:Z6) (cd:Vy) (s:Vx) (H:Hp):Cx where
 prog:=X.prog
 w:=X.w
 K:=X.K
 mg:=X.mg
 base:=X.base
 A:=X.A.in1.deeper (KZ X qual scope q cd s.heap.objs.size)
 N:=N'
 s₀:=s
 H₀:=H
 env:=KZ X qual scope q cd s.heap.objs.size
 outer:=X.stack
 stack:=KZ X qual scope q cd s.heap.objs.size::X.stack
 ex:=[]
 calm:=true
 fn:=λ_=>false
 pn:=[]
 xe:=λ_ _=>False
structure wC (X:Cx) (scope:Scope) (N':List Str) (y:Str) (fi:List Nat):Prop where
 kind:scope.kind = .function
 co:scope.isCoroutine=false
 gen:scope.isGenerator=false
 F7:∀x∈scope.names,x.2 ≠ .cell
 par:scope.names.lookup y=some .local
 free:∀z∈scope.names,z.2 = .free->X.env.kindOf z.1=some .cell\/X.env.kindOf z.1=some .free
 hd:N'[0]? = some y
 len:N'.length=fi.length+1
 at':∀(j:Nat) (k:Nat),fi[j]? = some k->∃x,N'[j+1]? = some x/\X.N[k]? = some x/\scope.names.lookup x=some .free
def Ji (v:V) (fi:List Nat) (σ:St):St:=some v::fi.map λk=>(σ[k]?).join
theorem l8 {x:Str}:∀{l:List (Str×NameKind)},l.lookup x=some .free->(x,NameKind.free)∈l
 | [],e=>by cases e
 | (n',q)::r,e=>by
  rw[Th]at e;cases hb:x == n' with
  | true=>rw[hb]at e;cases e;rw[beq_iff_eq.mp hb];exact Sk
  | false=>rw[hb]at e;exact Sf _ (l8 e)
section
variable {X:Cx}{pins:List (Z6×Obj)}{σ:St}{H:Hp}{s:Vx}{scope:Scope}{N':List Str}{y:Str}{fi:List Nat}{h':Heap}{qual:Str}{q:Z6}{cd:Vy}{v:V}{u:Vy}{tk:Tok}
theorem Jp (I:Inv X pins σ H s) (T:X.calm=true) (S:wC X scope N' y fi) (N:RelV v u) (D:h'.Ns s.heap.objs.size (λx=>[(y,u)].reverse.lookup x)) (t:∀b o,s.heap.get? b=some o->h'.get? b=some o) :
  Inv (Cy X N' qual scope q cd s H) [] (Ji v fi σ) H { s with heap:=h',toks:=tk }:=by
 have g:=I.F2.in1;have sub:∀{x:Str}{c:Z6},(gJ X.env.cells scope.names []).lookup x=some c->X.env.cells.lookup x=some c:=λ{x c} h=>pE _ _ (λ_ _ z=>by cases z) h;have n:∀{x:Str},(x,NameKind.free)∈scope.names->∃d,(gJ X.env.cells scope.names []).lookup x=some d:=λ{x} m=>oG _ _ (.inr ⟨m,I.ok.has _ (S.free _ m rfl)⟩);have l:∀b:Z6,b∉(Cy X N' qual scope q cd s H).ex:=λb z=>absurd (show b∈([]:List Z6)from z) (by simp);refine⟨⟨g.mod,S.kind,rfl,rfl,Sb _,λx z c r A=>?_,λx e=>?_,λx c e _=>?_,λ_=>I.ok.hd T,Around.frames_deeper g.frames,.inr ⟨rfl,rfl⟩,λb z=>absurd z (l b),g.bs,g.bsz,λb _ _=>l b,λb z=>absurd z (l b),g.ot,g.frf⟩,
  rfl,g.bare,Un.kept t,⟨_,D,λi x w r A _=>?_⟩,λx c h=>?_,g.hok.fresh (Sb _),λx c h=>?_,λp W=>absurd (show p∈([]:List (Z6×Obj))from W) (by simp),g.hok.kept t,?_⟩
 ·exact I.ok.inj x z c (sub r) (sub A)
 ·have e:scope.names.lookup x=some .cell\/scope.names.lookup x=some .free:=e;rcases e with e | e
  ·exact absurd rfl (S.F7 _ (Yq e))
  ·exact n (l8 e)
 ·have e:false=true:=e;cases e
 ·cases i with
  | zero=>
   have f:N'[0]? = some x:=r;rw[S.hd]at f;cases f;have a:some (some v)=some (some w):=A;cases a;exact⟨u,N,.inl ⟨S.par,by simp⟩⟩
  | succ j=>
   have a:(fi.map λk=>(σ[k]?).join)[j]? = some (some w):=A;rw[Se]at a;cases ek:fi[j]? with
   | none=>rw[ek]at a;cases a
   | some k=>
    rw[ek]at a;have B:(σ[k]?).join=some w:=Ye a;have F:σ[k]? = some (some w):=by
     cases z:σ[k]? with
     | none=>rw[z]at B;cases B
     | some _=>rw[z]at B;exact congrArg some B
    obtain⟨_,L,U,K⟩:=S.at' j k ek;have f:N'[j+1]? = some x:=r;rw[L]at f;cases f;have m:=l8 K;have J:=S.free _ m rfl;have E:Vis X.env.scope x:=J.elim (λz=>.inr (.inl z)) λz=>.inr (.inr z);obtain⟨_,_,C⟩:=I.loc;obtain⟨Y,O,P⟩:=C k x w U F E;refine⟨Y,O,.inr ⟨.inr K,?_⟩⟩;rcases P with⟨Q,_⟩ | ⟨_,c,R,V⟩
    ·rcases J with z | z <;> (rw[show X.env.kindOf x=_ from Q]at z;cases z)
    ·obtain⟨d,G⟩:=n m;have:=sub G;rw[R]at this;cases this;exact⟨c,G,V.keeps t⟩
 ·obtain⟨z,M⟩:=I.cell x c (sub h);exact⟨z,M.keeps t⟩
 ·exact I.kG x c (sub h)
 ·show(Ji v fi σ).length=N'.length;rw[S.len];simp[Ji]
def qt (c:Z6) (qual:Str):HO:=.ext λh=>h.CodeRec (.ref c) qual
def FD (te:TE) (fi:List Nat) (σ:St) (c:Z6) (qual:Str):Sp:=λvs H Q _=>∃v,vs=[v]/\H c=some (qt c qual)/\te (Ji v fi σ) H Q
theorem En {k:Nat}{name:Str}{a:Arguments}{c:Expr}{r f:Vy}{g:Z6}{te:TE} (K:X.calm=true) (M:bI (k+1) X.A) (S:wC X scope N' y fi)
  (L:(q,kla_obj name qual a c scope (gJ X.env.cells scope.names []) r g f)∈pins)
  (G:∀w,bindArgs (kla_fn name qual a c scope (gJ X.env.cells scope.names []) r (.ref g) f) ⟨[w],[]⟩=pure [(y,w)])
  (D:∀s H,PE (Cy X N' qual scope q (.ref g) s H) c te):va X pins σ q (FD te fi σ g qual):=by
 intro i H s x u Q I E h;obtain⟨v,e,l,h⟩:=h;cases e;have B:=λp N=>(I.pin p (SO _ (TV _ N))).1;refine kla_callFunE M.in1.depth (B _ L) rfl S.co S.gen rfl (I.hok _ _ l).1 ?_;show Zd _ _ (bindArgs (kla_fn name qual a c scope (gJ X.env.cells scope.names []) r (.ref g) f) ⟨[u],[]⟩) _ _ _;rw[G];refine Vv (wpAny_newFunctionEnv S.F7 (λz F=>by rw[Sg.mp F];exact S.par) (λj n m=>?_) S.kind);have d:∀b o,s.heap.get? b=some o->j.get? b=some o:=λb o e=>m.extBut b o (SD (Y3 e)) (Vu _ e);refine⟨I.nolimit.keeps d,?_⟩;refine kla_codeExpr (Vt (D s H [] _ _ H Q (Jp (pins:=pins++i) (σ:=σ) I K S E n d) h) (λ_ _ z=>?_) λ_ _ z=>z.elim);obtain⟨w,C,J,t,qw⟩:=z;exact⟨w,C,J.os,J.bare,J.base,J.hok,t,qw⟩
theorem Hi {P:Z9}{w:Za}{H:Hp}{h:Heap}{c:Z6} (x:h.CodeRec (.ref c) qual):bW P w H h c (qt c qual):=by
 refine⟨x,?_,λ_ _ a k=>?_⟩
 ·obtain⟨d,o,b,t,e,g,r⟩:=x;cases e;exact⟨o,g⟩
 ·obtain⟨d,o,b,t,e,g,r⟩:=a;cases e;exact⟨c,o,b,t,rfl,k _ g,r⟩
theorem Inv.grown {P c':Z6}{ps a:Array Vy}{t':Tok} (I:Inv X pins σ H s) (f:H P=some (.tbl ps)) (i:Heap.ExtBut P s.heap h') (w:s.heap.objs.size<=c') (v:h'.get? P=some (tabObj (ps++a))) (C:h'.CodeRec (.ref c') qual) :
  Inv X pins σ (upd (upd H P (.tbl (ps++a))) c' (qt c' qual)) { s with heap:=h',toks:=t' }:=by
 have h:H c' = none:=I.hok.fresh w;have p:P≠c':=aw f h;have k:P≠X.env.locals:=aw f I.free;have at_:∀b,b≠P->b≠c'->upd (upd H P (.tbl (ps++a))) c' (qt c' qual) b=H b:=λb d B=>by rw[aq B,aq d]
 have y:∀{b:Z6}{o:Obj},s.heap.get? b=some o->b≠c':=λ{b o} e z=>by
  have:=Y3 e;rw[z]at this;exact absurd (SN this w) (Tf _)
 have j:∀{b:Z6},H b=none->b≠P:=λ{b} e z=>by rw[z,f]at e;cases e
 refine I.step (g':=s.gens) (d':=s.drawn) (ch:=[]) (λb z=>absurd z (by simp)) (λb o _ _ _ e n=>i b o (j n) e) (λb o _ _ _ e n=>⟨o.slots,i b o (j n) e⟩) (λb o _ e n=>?_) (λb o _ e=>?_) (λb D e=>?_) (λb o u e=>?_) (λb _ e=>?_) (λm A=>?_) ?_ I.bare
 ·rw[at_ b (j n) (y e)];exact n
 ·by_cases g:b=P
  ·exact⟨_,by rw[g];exact v⟩
  ·exact⟨o,i b o g e⟩
 ·have d:b≠P:=λz=>by rw[z,f]at e;cases e
  rw[at_ b d (aw e h)];exact e
 ·have d:b≠P:=λz=>by rw[z,f]at e;cases e
  rw[at_ b d (aw e h)];exact e
 ·by_cases g:b=P
  ·subst g;rw[f]at e;cases e;exact⟨a,by rw[aq p,ab]⟩
  ·exact⟨#[],by rw[at_ b g (aw e h),e];simp⟩
 ·obtain⟨o,E,x,e,r⟩:=A;exact⟨o,E,x,i _ _ (YQ k) e,r⟩
 ·intro b u e;by_cases g:b=c'
  ·subst g;rw[ab]at e;cases e;exact Hi C
  ·rw[aq g]at e;by_cases t:b=P
   ·subst t;rw[ab]at e;cases e;exact v
   ·rw[aq t]at e;refine(I.hok b u e).wK (λc o l q=>i c o ?_ q) (λc q=>?_) λc D q=>?_
    ·rintro rfl;rcases l with z | z
     ·exact t z.symm
     ·rw[f]at z;cases z
    ·have d:c≠P:=λz=>by rw[z,f]at q;cases q
     rw[at_ c d (aw q h)];exact q
    ·have d:c≠P:=λz=>by rw[z,f]at q;cases q
     rw[at_ c d (aw q h)];exact q
end
def gU (P:Z6) (pos:Pos) (qual:Str) (H:Hp):Prop:=∃ps,H P=some (.tbl ps)/\TriplesOk ps.toList/\(codeAmong pos ps.toList=none\/∃c,codeAmong pos ps.toList=some (.ref c)/\H c=some (qt c qual))
def Oj (K:Vz) (P:Z6) (uH:Pos) (qual:Str) (te:TE) (fi:List Nat) (ta:TA):TE:=λσ H Q=>ta σ H λvs H1=>∃x,vs=[x]/\gU P uH qual H1 /\
 ∀c H2,(H2=H1\/∃ps,H1 P=some (.tbl ps)/\H1 c=none/\H2=upd (upd H1 P (.tbl (ps ++ #[rawInt uH.line,rawInt uH.col,.ref c]))) c (qt c qual))->gU P uH qual H2->H2 c=some (qt c qual)->vW K (FD te fi σ c qual) x H2 Q
section
variable {X:Cx}
def Qs (X:Cx):Prop:=∃bm o,X.mg "__builtins__" = some (.ref bm)/\bm≠builtinsNs/\bm≠mainGlobals/\X.K.lookup bm=some o/\o.cls = .type "module" /\ o.dict=some builtinsNs/\o.data = .plain
theorem oh {a b:Int}{c:Vy}:∀{l:List Vy},TriplesOk l->TriplesOk (l++[.int a 0,.int b 0,c])
 | [],_=>trivial
 | .int _ _ :: .int _ _::_::r,h=>oh (l:=r) h
 | .int _ _ :: .int _ _::[],h=>h.elim
 | .int _ _::[],h=>h.elim
theorem IA {k:Nat}{c P:Z6}{y:Str}{e:Expr}{ta:TA}{te:TE}{N:Nat}{p F pos W E l:Pos}{a:Arguments}{d:Expr}{scope:Scope}{N':List Str}{fi:List Nat} (hc:X.calm=true) (hr:bI (k+1) X.A) (S:wC X scope N' y fi)
  (Kc:X.env.code = .ref c) (hC:∀h:Heap,X.K.In h->CodeHd h c P) (hB:Qs X)
  (jC:∀q c' s H,PE (Cy X N' (X.env.qual ++ "<lambda>") scope q (.ref c') s H) d te)
  (hg:Gl X "min") (hm:X.mg "min" = none) (ha:PA X [e] ta)
  (hb:∀cl pm c' ctv w,bindArgs (kla_fn "<lambda>" (X.env.qual ++ "<lambda>") a d scope cl pm (.ref c') ctv) ⟨[w],[]⟩=pure [(y,w)]:=by intros;rfl) (Pz:defaultsOf a X.env=([],[]):=by rfl)
  (he:backTo pos (Ze [e] X.env)=(false,eval e X.env)::backTo pos (Ze [] X.env):=by rfl) (ig:(backTo pos (Ze [e] X.env)).any (·.1)=false:=by rfl)
  (fC:(backToKw pos (keywordEach [⟨some "key",.Lambda a d scope F,W⟩,⟨some "default",.Constant .none N E,l⟩] X.env)).all (·.1.isSome)=true:=by rfl) (Z:(backToKw pos (keywordEach [⟨some "key",.Lambda a d scope F,W⟩,⟨some "default",.Constant .none N E,l⟩] X.env)).any (·.1.isNone)=false:=by rfl) :
  PE X (.Call (.Name "min" p) [e] [⟨some "key",.Lambda a d scope F,W⟩,⟨some "default",.Constant .none N E,l⟩] pos) (Oj X.K P F (X.env.qual ++ "<lambda>") te fi ta):=by
 intro f s r H Q I h;refine wpAny_Call_Name_kw (eN I hg hm EM ?_);refine callWith_kw (thn (ha pos f s r H _ I h) λ_ m ⟨_,H1,g,r1,q1⟩=>?_) he ig fC Z;obtain⟨x,rfl,la,q⟩:=q1;obtain⟨u,rfl,ru⟩:=r1.one;obtain⟨ps,B,V,a6⟩:=id la;have R:m.heap.get? P=some (tabObj ps):=g.hok P _ B;have C:closureFor scope X.env=pure (gJ X.env.cells scope.names []):=sO λz hz D=>g.ok.has _ (S.free z hz D);have L:m.heap.Ns mainGlobals X.mg:=g.mod.glob.keeps g.bk;have gN:H1 mainGlobals=none:=by
  obtain⟨o,_,_,e',_⟩:=g.mod.glob;exact(g.bs _ _ e').2
 have a4:mainGlobals≠P:=λz=>by rw[z,B]at gN;cases gN
 have M:m.heap.BuiltinsAt X.mg P:=by
  obtain⟨bm,o,b1,b2,b3,b4,b5⟩:=hB;have O:=g.mod.kin bm o b4;have:=(g.bs _ _ O).2;exact⟨bm,o,b1,b2,b3,(λz=>by rw[z,B]at this;cases this),(g.bs _ _ O).1,b5⟩
 have T:∀(c':Z6) (ctv:Vy) (j:Heap) (i:Tok) (t:Hp),Inv X f r t { m with heap:=j,toks:=i }->vW X.K (FD te fi r c' (X.env.qual ++ "<lambda>")) x t Q ->
   Zd (model X.prog X.w) X.A (evalAll ((backToKw pos (keywordEach [⟨some "default",.Constant .none N E,l⟩] X.env)).map (·.2))) (λY G=>Zd (model X.prog X.w) X.A (call (.builtin "min") [u] (((backToKw pos (keywordEach [⟨some "key",.Lambda a d scope F,W⟩,⟨some "default",.Constant .none N E,l⟩] X.env)).filterMap (·.1)).zip (.ref j.objs.size::Y))) (EP X f r Q) X.xe G) X.xe
    { m with heap:=j.push (kla_obj "<lambda>" (X.env.qual ++ "<lambda>") a d scope (gJ X.env.cells scope.names []) ((X.mg "__name__").getD .none) c' ctv),toks:=i }:=λc' ctv j i t n q2=>by
  refine kws_cons (Constant_none (kws_nil ?_));have U:t j.objs.size=none:=n.hok.fresh (Sb _);have I3:Inv X f r t { m with heap:=j.push (kla_obj "<lambda>" (X.env.qual ++ "<lambda>") a d scope (gJ X.env.cells scope.names []) ((X.mg "__name__").getD .none) c' ctv),toks:=i }:=n.kept (s:={ m with heap:=j,toks:=i }) (t':=i) λb o e=>Vu _ e;have I4:Inv X (f++[(j.objs.size,kla_obj "<lambda>" (X.env.qual ++ "<lambda>") a d scope (gJ X.env.cells scope.names []) ((X.mg "__name__").getD .none) c' ctv)]) r t { m with heap:=j.push (kla_obj "<lambda>" (X.env.qual ++ "<lambda>") a d scope (gJ X.env.cells scope.names []) ((X.mg "__name__").getD .none) c' ctv),toks:=i }:=I3.oF λz hz=>by
   rcases Sz.mp hz with w | w
   ·exact I3.pin z (SO _ w)
   ·rw[Sg.mp w];exact⟨Y2 _ rfl,U,T9 n.lt,n.M5 (Sb _),λv z=>by cases z⟩
  exact thn (sE (En (k:=k) hc hr S (SO _ (Sg.mpr rfl)) (hb _ _ _ _) (jC _ _)) hr hc I4 ru q2) λv _ ⟨w,H',J,a0,qw⟩=>⟨w,H',J.il,a0,qw⟩
 refine kws_cons (kla_eval Pz ?_);rcases a6 with hnf | ⟨c',hf,a5⟩
 ·refine kla_makeFunction C g.ok.glob L Kc (hC _ g.kIn) R V hnf a4 M λc' ctv j i D h1 h2 h3 h4=>?_;have U:H1 c' = none:=g.hok.fresh h1;have a3:P≠c':=aw B U;have n:=g.grown (t':=i) B D h1 h4 h3;refine T c' ctv j i _ n (q c' _ (.inr ⟨ps,B,U,rfl⟩) ⟨_,by rw[aq a3,ab],?_,.inr ⟨c',?_,ab⟩⟩ ab)
  ·rw[Ui];exact oh V
  ·rw[Ui];exact codeAmong_snoc _ V hnf
 ·refine kla_makeFunctionHit C g.ok.glob L Kc (hC _ g.kIn) R V hf M λctv j i D h1=>?_;have n:Inv X f r H1 { m with heap:=j,toks:=i }:=g.kept (t':=i) D;exact T c' ctv j i _ n (q c' _ (.inl rfl) la a5)
end
def Nw (sc osc:Scope) (N N':List Str) (y:Str) (fi:List Nat):Bool:=
 decide (sc.kind = .function) && decide (sc.isCoroutine=false) && decide (sc.isGenerator=false) && decide (∀x∈sc.names,x.2 ≠ .cell) && decide (sc.names.lookup y=some .local)
 && decide (∀z∈sc.names,z.2 = .free->osc.names.lookup z.1=some .cell\/osc.names.lookup z.1=some .free)
 && decide (N'[0]? = some y) && decide (N'.length=fi.length+1)
 && (Y7 fi.length).all λj=>match fi[j]? with
  | some k=>match N'[j+1]? with
   | some x=>decide (N[k]? = some x) && decide (sc.names.lookup x=some .free)
   | none=>false
  | none=>false
theorem Lj {X:Cx}{c:Scope}{N':List Str}{y:Str}{fi:List Nat} (osc:Scope) (N:List Str) (h:Nw c osc N N' y fi=true) (i:X.env.scope=osc:=by rfl) (p:X.N=N:=by rfl):wC X c N' y fi:=by
 subst i p;simp only[Nw,S4,decide_eq_true_eq]at h;obtain⟨⟨⟨⟨⟨⟨⟨⟨f,o⟩,d⟩,n⟩,m⟩,s⟩,r⟩,t⟩,l⟩:=h;refine⟨f,o,d,n,m,s,r,t,λj k a=>?_⟩;have b:j<fi.length:=by
  rcases Tc j fi.length with q | q
  ·exact q
  ·rw[S9 q]at a;cases a
 have g:=SJ.mp l j (S5.mpr b);rw[a]at g;dsimp only at g;cases e:N'[j+1]? with
 | none=>rw[e]at g;cases g
 | some x=>
  rw[e]at g;simp only[S4,decide_eq_true_eq]at g;exact⟨x,rfl,g.1,g.2⟩
structure LQ (K:Vz) (mg:Str->Option Vy) (fd:Z7) (c P:Z6):Prop where
 code:fd.code = .ref c
 hd:∀h:Heap,K.In h->CodeHd h c P
 bm:∃bm o,mg "__builtins__" = some (.ref bm)/\bm≠builtinsNs/\bm≠mainGlobals/\K.lookup bm=some o/\o.cls = .type "module" /\ o.dict=some builtinsNs/\o.data = .plain
structure JO (K:Vz) (x qual:Str) (st:Stmt) (f:Z6) (fd:Z7):Prop where
 ex:∃(oc:Vy) (od:Option Z6) (dV kV doc pm:Vy) (an:Option Z6) (cdv ct:Vy) (osl:Array (Option Vy)),
  fd=YB x qual (cB st) (bT st) (ag st) dV kV doc pm an cdv ct/\K.lookup f=some ⟨oc,od,.func fd,osl⟩/\YO K cdv qual=true
 kp:YF K (.ref f)=true
structure GU (K:Vz) (mg:Str->Option Vy) (x:Str) (st:Stmt) (ps:List Str) (f:Z6) (fd:Z7):Prop where
 fn:JO K x x st f fd
 bd:Binds K fd ps []
 mg:mg x=some (.ref f)
section
variable {P:Z9}{w:Za}{K:Vz}{mg:Str->Option Vy}{base:Heap}
theorem Fun.okC {x qual:Str}{st:Stmt}{f c:Z6}{fd:Z7}{N ps:List Str}{k:Nat}{sp:Sp} (F:Fun K x qual st f fd) (d:fd.code = .ref c) (S:aD N ps (ag st)) (e:∀vs H Q E,sp vs H Q E->vs.length=ps.length)
  (i:∀(A:Z8) (outer:List Env) (s:Vx) (H:Hp) (vs:List V) (Q:VK) (E:XK),bI k (A.deeper (envOfC qual (ag st) s.heap.objs.size f (.ref c)))->sp vs H Q E ->
   ∃t,PSs (zG CX0 P w K mg base N qual (ag st) f (.ref c) A outer s H E).nox (bT st) t/\t { nx:=λ_ H'=>Q .non H',rt:=Q } (start N vs) H):aA P w K mg base CX0 (k+1) f fd ps sp:=by
 obtain⟨_,_,kV,_,_,_,g,_,_,rfl,j,a⟩:=F.ex;obtain rfl:g = .ref c:=d;refine FG j a S e λA outer s H vs Q E l b=>?_;obtain⟨t,h,q⟩:=i A outer s H vs Q E l b;exact⟨t,h.nox,q⟩
theorem JO.ok {x qual:Str}{st:Stmt}{f:Z6}{fd:Z7}{N ps:List Str}{k:Nat}{sp:Sp} (F:JO K x qual st f fd) (S:aD N ps (ag st)) (c:∀vs H Q E,sp vs H Q E->vs.length=ps.length)
  (d:∀(cdv:Vy) (A:Z8) (outer:List Env) (s:Vx) (H:Hp) (vs:List V) (Q:VK) (E:XK),bI k (A.deeper (envOfC qual (ag st) s.heap.objs.size f cdv))->sp vs H Q E ->
   ∃t,PSs (zG CX0 P w K mg base N qual (ag st) f cdv A outer s H E).nox (bT st) t/\t { nx:=λ_ H'=>Q .non H',rt:=Q } (start N vs) H):aA P w K mg base CX0 (k+1) f fd ps sp:=by
 obtain⟨_,_,_,kV,_,_,_,cdv,_,_,rfl,e,a⟩:=F.ex;refine FG e a S c λA outer s H vs Q E g b=>?_;obtain⟨t,h,q⟩:=d cdv A outer s H vs Q E g b;exact⟨t,h.nox,q⟩
end
end L2
namespace LG
open PySem L2
def bL {α:Type} (st:List (Key×List α)) (k:Key) (x:α):List (Key×List α):=
 if (st.any λp=>decide (p.1=k))=true then st.map (λp=>if p.1=k then(p.1,p.2++[x])else p)else st++[(k,[x])]
def b7 {α:Type} (l:List (Key×α)):List (Key×List α):=l.foldl (λst p=>bL st p.1 p.2) []
def grp {α:Type} (ks:List Key) (xs:List α):List (List α):=(b7 (ks.zip xs)).map (·.2)
theorem zd {α:Type}{l:List (Key×α)}{i:Nat}{p:Key×α} (h:l[i]? = some p):b7 (l.take (i+1))=bL (b7 (l.take i)) p.1 p.2:=by
 unfold b7;rw[SG,h,Up];rfl
inductive gC {α β:Type} (R:α->β->Prop):List α->List β->Prop
 | nil:gC R [] []
 | cons {a:α}{b:β}{l:List α}{m:List β} (h:R a b) (t:gC R l m):gC R (a::l) (b::m)
theorem gC.len {α β:Type}{R:α->β->Prop}{l:List α}{m:List β} (h:gC R l m):l.length=m.length:=by
 induction h with
 | nil=>rfl
 | cons _ _ ih=>rw[SE,SE,ih]
theorem gC.mono {α β:Type}{R S:α->β->Prop} (f:∀a b,R a b->S a b) {l:List α}{m:List β} (h:gC R l m):gC S l m:=by
 induction h with
 | nil=>exact .nil
 | cons h _ ih=>exact .cons (f _ _ h) ih
theorem gC.snoc {α β:Type}{R:α->β->Prop}{l:List α}{m:List β}{a:α}{b:β} (h:gC R l m) (r:R a b):gC R (l++[a]) (m++[b]):=by
 induction h with
 | nil=>exact .cons r .nil
 | cons h _ ih=>exact .cons h ih
theorem gC.at {α β:Type}{R:α->β->Prop}{l:List α}{m:List β} (h:gC R l m):∀{i:Nat}{a:α},l[i]? = some a->∃b,m[i]? = some b/\R a b:=by
 induction h with
 | nil=>intro i a e;cases e
 | cons h _ c=>
  intro i a e;cases i with
  | zero=>cases e;exact⟨_,rfl,h⟩
  | succ i=>exact c e
def GV {α β:Type} (R:α->β->Prop) (p:Key×List α) (q:Key×List β):Prop:=p.1=q.1/\gC R p.2 q.2
theorem Ic {α β:Type}{R:α->β->Prop}{st:List (Key×List α)}{tt:List (Key×List β)}{k:Key}{x:α}{y:β} (h:gC (GV R) st tt) (r:R x y):gC (GV R) (bL st k x) (bL tt k y):=by
 have d:(st.any λp=>decide (p.1=k))=(tt.any λp=>decide (p.1=k)):=by
  induction h with
  | nil=>rfl
  | cons h _ c=>rw[Td,Td,c,h.1]
 unfold bL;rw[d]
 split
 ·rename_i hh;clear d hh
  induction h with
  | nil=>exact .nil
  | @cons a b l m h _ c=>
   refine .cons ?_ c;show GV R (if a.1=k then(a.1,a.2++[x])else a) (if b.1=k then(b.1,b.2++[y])else b);rw[h.1]
   split
   ·exact⟨rfl,h.2.snoc r⟩
   ·exact h
 ·exact h.snoc ⟨rfl,.cons r .nil⟩
theorem CP {α β:Type}{R:α->β->Prop}{xs:List α}{ys:List β} (h:gC R xs ys) (ks:List Key):gC (gC R) (grp ks xs) (grp ks ys):=by
 have f:∀(ks:List Key) {xs:List α}{ys:List β}{st:List (Key×List α)}{tt:List (Key×List β)},gC R xs ys->gC (GV R) st tt->gC (GV R) ((ks.zip xs).foldl (λst p=>bL st p.1 p.2) st) ((ks.zip ys).foldl (λst p=>bL st p.1 p.2) tt):=λks=>by
  induction ks with
  | nil=>intro xs ys st tt _ h;simpa using h
  | cons k ks c=>
   intro xs ys st tt e d;cases e with
   | nil=>simpa using d
   | cons r t=>exact c t (Ic d r)
 have z:=f ks h (st:=[]) (tt:=[]) .nil;unfold grp b7;generalize(ks.zip xs).foldl (λst p=>bL st p.1 p.2) []=a at z;generalize(ks.zip ys).foldl (λst p=>bL st p.1 p.2) []=b at z
 induction z with
 | nil=>exact .nil
 | cons h _ c=>exact .cons h.2 c
inductive GL (H0 H:Hp) (D:Z6):List Z6->List (Key×V)->List (Key×List V)->Prop
 | nil:GL H0 H D [] [] []
 | cons {a:Z6}{k:Key}{g:List V}{as:List Z6}{kvs:List (Key×V)}{st:List (Key×List V)} (h:H a=some (.lst g)) (hn:H0 a=none) (hD:a≠D) (ha:a∉as) (hk:k∉kvs.map (·.1)) (hs:st.map (·.1)=kvs.map (·.1)) (t:GL H0 H D as kvs st):GL H0 H D (a::as) ((k,.ref a)::kvs) ((k,g)::st)
theorem GL.keys {H0 H:Hp}{D:Z6}{b:List Z6}{kvs:List (Key×V)}{st:List (Key×List V)} (h:GL H0 H D b kvs st):st.map (·.1)=kvs.map (·.1):=by
 cases h with
 | nil=>rfl
 | cons _ _ _ _ _ a _=>simp[a]
theorem GL.vals {H0 H:Hp}{D:Z6}{a:List Z6}{kvs:List (Key×V)}{st:List (Key×List V)} (h:GL H0 H D a kvs st):kvs.map (·.2)=a.map V.ref:=by
 induction h with
 | nil=>rfl
 | cons _ _ _ _ _ _ _ b=>simp[b]
theorem GL.lists {H0 H:Hp}{D:Z6}{b:List Z6}{kvs:List (Key×V)}{st:List (Key×List V)} (h:GL H0 H D b kvs st):gC (λa g=>H a=some (.lst g)) b (st.map (·.2)):=by
 induction h with
 | nil=>exact .nil
 | cons h _ _ _ _ _ _ c=>exact .cons h c
theorem GL.mem {H0 H:Hp}{D:Z6}{c:List Z6}{kvs:List (Key×V)}{st:List (Key×List V)} (h:GL H0 H D c kvs st):∀a∈c,(∃g,H a=some (.lst g))/\H0 a=none/\a≠D:=by
 induction h with
 | nil=>intro a b;cases b
 | cons h i f _ _ _ _ d=>
  intro a b;rcases Su.mp b with e | b
  ·rw[e];exact⟨⟨_,h⟩,i,f⟩
  ·exact d a b
theorem GL.keep {H0 H H':Hp}{D:Z6}{b:List Z6}{kvs:List (Key×V)}{st:List (Key×List V)} (h:GL H0 H D b kvs st) (k:∀a∈b,H' a=H a):GL H0 H' D b kvs st:=by
 induction h with
 | nil=>exact .nil
 | cons h i e f g c t d=>exact .cons ((k _ (.head _)).trans h) i e f g c (d λa z=>k a (.tail _ z))
theorem GL.snoc {H0 H:Hp}{D L:Z6}{k:Key}{g:List V}{b:List Z6}{kvs:List (Key×V)}{st:List (Key×List V)} (h:GL H0 H D b kvs st) (hL:H L=some (.lst g)) (f:H0 L=none) (e:L≠D) (c:L∉b) (d:k∉kvs.map (·.1)) :
  GL H0 H D (b++[L]) (kvs++[(k,.ref L)]) (st++[(k,g)]):=by
 induction h with
 | nil=>exact .cons hL f e (by simp) (by simp) rfl .nil
 | @cons a k' g' b kvs st h hn' hD' ha' hk' hs t ih=>
  rw[Su,not_or]at c;simp only[Sv,Su,not_or]at d;refine .cons h hn' hD' ?_ ?_ (by simp[hs]) (ih c.2 d.2)
  ·show a∉b++[L];rw[Sz,not_or];exact⟨ha',λz=>c.1 (Sg.mp z).symm⟩
  ·show k'∉(kvs++[(k,V.ref L)]).map (·.1)
   rw[Sm,Sz,not_or];exact⟨hk',λz=>d.1 (Sg.mp z).symm⟩
theorem Fg {kvs:List (Key×V)}{k:Key} (h:eY kvs k=none):k∉kvs.map (·.1)/\(kvs.any λkv=>decide (kv.1=k))=false:=by
 induction kvs with
 | nil=>exact⟨by simp,rfl⟩
 | cons p r b=>
  by_cases e:p.1=k
  ·rw[js e]at h;cases h
  ·have a:eY r k=none:=by
    unfold eY at h ⊢;rw[Tg,Zh e]at h;exact h
   obtain⟨c,d⟩:=b a;refine⟨λz=>?_,by rw[Td,Zh e,d];rfl⟩;rcases Su.mp z with w | w
   ·exact e w.symm
   ·exact c w
theorem any_keys {α β:Type}{st:List (Key×α)}{kvs:List (Key×β)} (h:st.map (·.1)=kvs.map (·.1)) (k:Key):(st.any λp=>decide (p.1=k))=(kvs.any λp=>decide (p.1=k)):=by
 have a:∀{γ:Type} (l:List (Key×γ)),(l.any λp=>decide (p.1=k))=(l.map (·.1)).any λx=>decide (x=k):=λl=>by
  rw[List.any_map];rfl
 rw[a,a,h]
theorem GL.grow {H0 H:Hp}{D:Z6}{c:List Z6}{kvs:List (Key×V)}{st:List (Key×List V)}{k:Key}{v x:V} (h:GL H0 H D c kvs st):eY kvs k=some v->∃a g,v = .ref a/\a∈c/\H a=some (.lst g)/\g∈st.map (·.2)/\GL H0 (upd H a (.lst (g++[x]))) D c kvs (bL st k x):=by
 have n:∀{c kvs st},GL H0 H D c kvs st->eY kvs k=some v->∃a g,v = .ref a/\a∈c/\H a=some (.lst g)/\g∈st.map (·.2)/\(st.any λp=>decide (p.1=k))=true/\GL H0 (upd H a (.lst (g++[x]))) D c kvs (st.map λp=>if p.1=k then(p.1,p.2++[x])else p):=λ{c kvs st} h=>by
  induction h with
  | nil=>intro e;cases e
  | @cons a k' g c kvs st h hn hD ha hk hs t ih=>
   intro e;by_cases d:k' = k
   ·rw[js d]at e;cases e;refine⟨a,g,rfl,.head _,h,by simp,by rw[Td,Zg d];rfl,?_⟩;have r:(st.map λp=>if p.1=k then(p.1,p.2++[x])else p)=st:=by
     have f:∀p∈st,(if p.1=k then(p.1,p.2++[x])else p)=p:=λp w=>Zk λz=>hk (by rw[<-hs,d,<-z];exact TY w);exact(SK f).trans (List.map_id' st)
    rw[Sv,Zj d,r];exact .cons ab hn hD ha hk hs (t.keep λb s=>aq λ(z:b=a)=>ha (z ▸ s))
   ·have u:eY kvs k=some v:=by
     unfold eY at e ⊢;rw[Tg,Zh d]at e;exact e
    obtain⟨b,y,f,i,o,l,j,m⟩:=ih u;refine⟨b,y,f,.tail _ i,o,Sf _ l,by rw[Td,j,Bool.or_true],?_⟩;rw[Sv,Zk d];have q:a≠b:=λz=>ha (z ▸ i);refine .cons (by rw[aq q];exact h) hn hD ha hk ?_ m;rw[SS,<-hs];exact SK λp _=>by show(if p.1=k then(p.1,p.2++[x])else p).1=p.1;split <;> rfl
 intro e;obtain⟨a,g,f,i,o,l,j,m⟩:=n h e;refine⟨a,g,f,i,o,l,?_⟩;unfold bL;rw[Zj j];exact m
theorem GL.more {H0 H:Hp}{D L:Z6}{a:List Z6}{kvs:List (Key×V)}{st:List (Key×List V)}{k:Key}{x:V} (h:GL H0 H D a kvs st) (e:eY kvs k=none) (hL:H L=some (.lst [x])) (g:H0 L=none) (c:L≠D) (f:L∉a) :
  putK kvs k (.ref L)=kvs++[(k,.ref L)]/\GL H0 H D (a++[L]) (kvs++[(k,.ref L)]) (bL st k x):=by
 obtain⟨d,b⟩:=Fg e;refine⟨by unfold putK;rw[b];rfl,?_⟩;unfold bL;rw[any_keys h.keys k,b];exact h.snoc hL g c f d
end LG
namespace L2
open PySem PySem.Spec PyProof.Rows
section
variable {fs:List Z6}{g h h1 h2 h':Heap}{e T:Z6}{cls tb fl:Vy}
end
section
variable {M:Model}{A:Z8}{E:Vy->Vx->Prop}{s:Vx}{base g:Heap}{env:Env}{outer:List Env}{L e:Z6}{cls tb:Vy}{Q:Unit->Vx->Prop}
end
section
variable {P:Z9}{w:Za}{H H':Hp}{g h:Heap}{e C a:Z6}{o:HO}{tb:Vy}{fs:List Z6}
end
section
variable {X:Cx}{E:XK}{C:Z6}{x:Str}{np dC pos:Pos}{a:Expr}{ta:TA}{bmB:List Vy}
end
section
variable {X:Cx}{pins:List (Z6×Obj)}{σ:St}{H H':Hp}{s s':Vx}
end
section
variable {X:Cx}{CX:CXT}{k:Nat}{f:Z6}{fd:Z7}{ps:List Str}{sp:Sp}{E:St->XK}{x:Str}{p pos:Pos}{e:Expr}{es:List Expr}{t:TA}
end
def mroIn (K:Vz) (C D:Z6):Bool:=match K.lookup C with
 | some ⟨_,_,.cls cd,_⟩=>cd.mro.contains (.ref D)
 | _=>false
section
variable {X:Cx}{D:Z6}{i:Nat}{n x:Str}{ts:Z6->Z6->TS}
end
def Ig (A:Z8) (h:Heap) (ea:Z6):Prop:=A.handled=some (.ref ea)/\∃oe vs,h.get? ea=some oe/\oe.data = .fields vs/\vs[2]? = some Value.none
section
variable {prog:Z9}{w:Za}{A:Z8}{E:Vy->Vx->Prop}{s:Vx}{ea:Z6}
end
def Hd (X:Cx) (ea:Z6):Prop:=∀pins σ H s,Inv X pins σ H s->Ig X.A s.heap ea/\H ea=none
structure Rk (ea:Z6) (P:Z9) (w:Za) (K:Vz) (tg:Expr) (J:It) (fp:List Z6) (it:Z6) (tn:Nat->Heap->Prop):Prop where
 mem:it∈fp
 obj:∀i h,tn i h->∀b∈fp,∃o,h.get? b=some o/\∀v,o.data ≠ .cell v
 keep:∀i h h',tn i h->(∀b∈fp,∀o,h.get? b=some o->h'.get? b=some o)->tn i h'
 item:∀(X:Cx),X.prog=P->X.w=w->X.K=K->Hd X ea->∀(i:Nat) (pins:List (Z6×Obj)) (s:Vx) (σ:St) (H:Hp) (E:Vy->Vx->Prop),Inv X pins σ H s->(∀b∈fp,b6 X pins H b)->tn i s.heap->J.go i H ->
  Zd (model P w) X.A (pyNext (.ref it)) (λr s1=>∃u,r=some u /\
   Zd (model P w) X.A (letOwnedTupleGo tg (.ref it) u) (λ_ s2=>∃x H',Inv X pins σ H' s2/\RelV x u/\J.yld i H x H'/\tn (i+1) s2.heap/\∀b∈fp,H' b=none) E s1) E s
 done:∀(X:Cx),X.prog=P->X.w=w->X.K=K->Hd X ea->∀(i:Nat) (pins:List (Z6×Obj)) (s:Vx) (σ:St) (H:Hp) (E:Vy->Vx->Prop),Inv X pins σ H s->(∀b∈fp,b6 X pins H b)->tn i s.heap->J.stop i H ->
  Zd (model P w) X.A (pyNext (.ref it)) (λr s1=>r=none/\Inv X pins σ H s1) E s
 self:∀(A:Z8) (i:Nat) (s:Vx) (Q:Vy->Vx->Prop) (E:Vy->Vx->Prop),tn i s.heap->Q (.ref it) s->Zd (model P w) A (pyIter (.ref it)) Q E s
section
variable {X:Cx}
end
section
variable {X:Cx}{elt tg iter:Expr}{ifs:List Expr}{scope:Scope}{pos:Pos}
end
section
variable {X:Cx}{pos:Pos}
end
structure RL (K:Vz) (C:Z6):Prop where
 ga:Yp K (.ref C) "__getattribute__" = some (some (.builtin "BaseException.__getattribute__"))
 nh:Yp K (.ref C) "__getattr__" = some none
 fo:PySem.W.findObj K C none "__class__" = some (.bind (.builtin "getset_descriptor.__get__") (.builtin "object.__class__"))
 mo:PySem.W.mroIn K C (.type "object")=some true
 mb:PySem.W.mroIn K C (.type "BaseException")=some true
 is:(PySem.W.clsIn K C).isSome=true
section
variable {prog:Z9}{w:Za}{A:Z8}{E:Vy->Vx->Prop}{s:Vx}{K:Vz}{x C:Z6}{ox:Obj}
end
section
variable {X:Cx}{ea C:Z6}{oe:Obj}{vs:Array Vy}
end
section
variable {P:Z9}{w:Za}{K:Vz}{mg:Str->Option Vy}{base:Heap}
end
structure OR (k:Nat) (A:Z8):Prop where
 dp:A.depth+3 * k+5<recursionLimit
 un:A.units+16 * k+200<cLine
 gd:A.guards=some []
structure Rw (P:Z9) (w:Za) (K:Vz) (mg:Str->Option Vy) (base:Heap) (CX:CXT) (k:Nat) (f:Z6) (fd:Z7) (ps:List Str) (sp:Z6->Z6->Sp):Prop where
 len:∀ea C vs H Q E,sp ea C vs H Q E->vs.length=ps.length
 run:∀(ea C:Z6) (oe:Obj) (vv:Array Vy) (A:Z8) (outer:List Env) (s:Vx) (H:Hp) (args:Args) (us:List Vy) (vs:List V) (Q:VK) (E:XK),OR k A->A.handled=some (.ref ea)->s.heap.get? ea=some oe->H ea=none->ea∉frs outer ->
  oe.cls = .ref C->oe.dict=none->oe.data = .fields vv->vv[2]? = some .none->sI P w K mg base A outer s H->BindsTo s fd args (ps.zip us)->aR vs us->sp ea C vs H Q E ->
  codeAny (model P w) A (.call (.ref f) args) (CR CX outer P w H s Q E) s
section
variable {P:Z9}{w:Za}{K:Vz}{mg:Str->Option Vy}{base:Heap}
end
section
variable {X:Cx}{k:Nat}{f ea C:Z6}{oe:Obj}{vv:Array Vy}{fd:Z7}{ps:List Str}{sp:Z6->Z6->Sp}{x:Str}{p pos:Pos}{e:Expr}{es:List Expr}{t:TA}
end
section
variable {K:Vz}{g:TG}{tt:TT}{te:TE}{D:Z6}{Q:VK}{σ:St}{H:Hp}
end
end L2
namespace L2
open PySem
structure gX (K:Vz) (x q:Str) (st:Stmt) (ps:List Str) (f:Z6) (fd:Z7):Prop where
 fn:Fun K x q st f fd
 bd:Binds K fd ps []
structure F6 (K:Vz) (x q:Str) (st:Stmt) (ps:List Str) (f:Z6) (fd:Z7):Prop where
 fn:JO K x q st f fd
 bd:Binds K fd ps []
def tAt (C:Z6) (ta:TE) (f:Str):TE:=λσ H Q=>ta σ H λx H1=>∃a dx fs v,x = .ref a/\H1 a=some (.ins C dx fs)/\fs.lookup f=some v/\Q v H1
def sAt (C:Z6) (ta tv:TE) (f:Str):TS:=λD σ H=>tv σ H λy H1=>ta σ H1 λx H2=>∃a dx fs,x = .ref a/\H2 a=some (.ins C dx fs)/\fs.length<1000/\D.nx σ (upd H2 a (.ins C dx (mP f y fs)))
section
variable {X:Cx}{C f:Z6}{fd:Z7}{k:Nat}{sp:Sp}{e o value:Expr}{n:Str}{pos pos':Pos}{ta tv:TE}
theorem cw (c:Cls X.K C) (o:bS X.K C n) (f:PE X e ta) (k:attributeBase e n X.env (eval e X.env)=eval e X.env:=by rfl):PE X (.Attribute e n pos) (tAt C ta n):=by
 intro b s p H Q I h;refine ID k (thn (f b s p H _ I h) λu _ ⟨x,m,i,g,a,_,_,v,r,d,l,q⟩=>?_);subst r;obtain rfl:u=Value.ref a:=g;exact A8 i d c o l λ_ _ t j=>⟨v,m,t,j,q⟩
theorem kI (c:Cls X.K C) (j:bS X.K C n) (t:PE X o ta) (k:PE X value tv) (m:swapsWith value (some (.Attribute o n pos')) pos.line X.env=pure false:=by rfl):PS X (.Assign [.Attribute o n pos'] value pos) (sAt C ta tv n):=by
 intro b s d H D I h;refine plainObj_wpAny_Assign_Attribute (thn (k b s d H _ I h) λu z ⟨y,i,g,r,q⟩=>thn (t b z d i _ g q) λp _ ⟨x,_,B,f,a,_,_,w,e,l,A⟩=>?_) m;subst w;obtain rfl:p=Value.ref a:=f;exact A2 B e c j l r λ_ v=>⟨d,_,v,A⟩
end
structure Nb (K:Vz) (C:Z6):Prop where
 ha:Yp K (.ref C) "__class__" = some (some (.builtin "object.__class__"))
 hn:PySem.W.specialIn K (.builtin "object.__class__") "__get__" = some (some (.builtin "getset_descriptor.__get__"))
 htk:PySem.W.takesIn K (.builtin "object.__class__")=some true
 hm:PySem.W.mroIn K C (.type "object")=some true
 self:PySem.W.kitOne K (.ref C) (.ref C)=some true
section
variable {X:Cx}
end
structure NeT (K:Vz) (C:Z6):Prop where
 ne:Yp K (.ref C) "__ne__" = some (some (.builtin "object.__ne__"))
 hm:PySem.W.mroIn K C (.type "object")=some true
section
variable {X:Cx}{C f:Z6}{fd:Z7}{k:Nat}{sp:Sp}
end
def Fp (K:Vz):List V->Hp->VK->Prop:=λvs H Q=>∃a xs,((vs=[.ref a,.ty "tuple"]/\SqT K H a xs)\/(vs=[.ref a,.ty "list"]/\SqL K H a xs))/\Q (.bl true) H
theorem vI {X:Cx}:gQ X (.builtin "isinstance") (Fp X.K):=by
 intro _ s _ H _ _ Q I k h;obtain⟨a,_,h,q⟩:=h;rcases h with⟨rfl,g⟩ | ⟨rfl,g⟩
 ·obtain⟨u,c,rfl,i,d⟩:=vals2 k;obtain rfl:c = Value.type "tuple" :=d;obtain rfl:u=Value.ref a:=i;obtain⟨j,p,e,m⟩:=I.tuple g;obtain⟨o,b,f,_⟩:=e;exact Yr PySem.W.kitx_tuple I.kIn ⟨o,b,f⟩ (by rfl) (λz=>nomatch z) λl=>⟨.bl true,H,I.tok _,rfl,q⟩
 ·obtain⟨u,c,rfl,i,d⟩:=vals2 k;obtain rfl:c = Value.type "list" :=d;obtain rfl:u=Value.ref a:=i;obtain⟨j,p,e,m⟩:=I.list g;obtain⟨o,n,b,f,_⟩:=e;exact Yr PySem.W.kitx_list I.kIn ⟨o,b,f⟩ (by rfl) (λz=>nomatch z) λl=>⟨.bl true,H,I.tok _,rfl,q⟩
def QV (K:Vz) (ta tb:TE):TE:=λσ H Q=>ta σ H λx H1=>∃k,IC K x H1 k/\if k=true then Q x H1 else tb σ H1 Q
theorem Mo {X:Cx}{a b:Expr}{rest:List Expr}{pos:Pos}{ta tb:TE} (r:PE X a ta) (q:PE X (.BoolOp .Or (b::rest) pos) tb):PE X (.BoolOp .Or (a::b::rest) pos) (QV X.K ta tb):=by
 intro d s e H Q I h;refine PyProof.Rows.BoolOp_or (thn (r d s e H _ I h) λv u ⟨x,g,o,j,k,p,i⟩=>?_);refine thn (Fb d u e g x v (λc f=>c=k/\f=g) o j ⟨k,p,rfl,rfl⟩) λc m ⟨f,l,n,t⟩=>?_;subst n;subst t;cases c with
 | false=>exact q d m e _ Q l i
 | true=>exact⟨x,_,l,j,i⟩
def QO (K:Vz) (ta tb:TE):TE:=λσ H Q=>∃Pre:V->Hp->Prop,(∀x H1,Pre x H1->Q x H1)/\ta σ H λx H1=>∃k,IC K x H1 k/\if k=true then Pre x H1 else tb σ H1 Pre
theorem KW {X:Cx}{a b:Expr}{rest:List Expr}{pos:Pos}{ta tb:TE} (j:PE X a ta) (k:PE X (.BoolOp .Or (b::rest) pos) tb):PE X (.BoolOp .Or (a::b::rest) pos) (QO X.K ta tb):=by
 intro c s g H Q I ⟨d,l,h⟩;exact thn (Mo j k c s g H d I h) λv _ ⟨x,f,i,e,m⟩=>⟨x,f,i,e,l _ _ m⟩
end L2
namespace L2
open PySem PySem.Spec PyProof.Rows
section
variable {X:Cx}
def wz (K:Vz):V->List V->Hp->VK->Prop:=λx vs H Q=>∃(xs:List Zb) (y:V) (d:Zb),vs=[y]/\Den K H x (.list xs)/\Den K H y d/\d.depth<=100/\Q (.int (xs.countP λe=>Yd e d:Nat)) H
theorem vn {k:Nat} (t:bI k X.A):MtR X "list.count" (wz X.K):=by
 intro _ s _ H x _ v _ Q I j l h;obtain⟨g,y,d,rfl,f,b,i,q⟩:=h;obtain⟨u,rfl,m⟩:=l.one;obtain⟨_,w⟩:=I.reads f j;obtain⟨_,p⟩:=I.reads b m;have c:Y5 g=true:=by simpa[PyData.canLay0]using f.lay
 cases w with
 | @list a o its n _ _ h1 h2 h3 h4=>
  have r:s.heap.get? a=some { cls:=.type "list",dict:=o.dict,data:=.seq its n,slots:=o.slots }:=by
   rw[h1,<-h2,<-h3]
  refine call_meets YK ⟨_,h1,h2⟩ PySem.F.entry_list_count (PySem.F.args_list_count_2 _ _) (SeqAt.list_countAt a its n _ _ u (λz=>Yd (SeqAt.readOf s.heap z) d)) ⟨r,SeqAt.items_eqAt h4 p c b.lay (xt t i),?_⟩;refine⟨.int _,H,I.tok _,⟨_,rfl⟩,?_⟩;have e:=SeqAt.readsAll_map g _ _ c h4;rw[<-e,List.countP_map]at q;exact q
def EX (K:Vz):List V->Hp->VK->Prop:=λvs H Q=>∃(l:Z6) (ns:List Int),vs=[.ref l]/\SqL K H l (ns.map V.int)/\(∀i∈ns,0<=i/\i<=1000000)/\ns.length<=1000000/\Q (.int ns.sum) H
theorem wq:∀{ns:List Int}{its:List Vy},aR (ns.map V.int) its->∃ps:List (Int×Tok),ps.map (·.1)=ns/\its=ps.map λp=>Value.int p.1 p.2
 | [],_,.nil=>⟨[],rfl,rfl⟩
 | n::ns,_,.cons r t=>by
  obtain⟨ps,c,b⟩:=wq t;obtain⟨a,rfl⟩:=r;exact⟨(n,a)::ps,by rw[Sv,c],by rw[Sv,b]⟩
theorem l4 {ps:List (Int×Tok)}:∀j,j<=ps.length->preSum (numAt ps.toArray) j=((ps.map (·.1)).take j).sum
 | 0,_=>rfl
 | j+1,h=>by
  have a:ps[j]? = some ps[j]:=R9 h;rw[preSum,l4 j (Nat.le_of_succ_le h),SG,List.sum_append,Se,a];unfold numAt;rw[T6,a];simp
theorem sum_bound:∀{ns:List Int},(∀i∈ns,0<=i/\i<=1000000)->0<=ns.sum/\ns.sum<=1000000 * (ns.length:Int)
 | [],_=>⟨by simp,by simp⟩
 | n::ns,h=>by
  have c:=h n (Sk ..);have b:=sum_bound (ns:=ns) λi a=>h i (Sf _ a);rw[S2,SE];constructor <;> push_cast <;> lia
theorem oU (v:X.A.handled=none):gQ X (.builtin "sum") (EX X.K):=by
 intro _ s _ H xs _ Q I r h;obtain⟨l,ns,rfl,w,f,_,q⟩:=h;obtain⟨u,rfl,k⟩:=vals1 r;cases k;obtain⟨_,y,n,_⟩:=I.list w;obtain⟨ps,c,rfl⟩:=wq y;have a:ps.length=ns.length:=by rw[<-c,R8]
 have d:intItems ps.toArray=(ps.map λp=>Value.int p.1 p.2).toArray:=by unfold intItems;simp
 refine sum_intList (xs:=ps.toArray) v (by rw[d];exact n.isList) (λj b=>?_) λ_ _ m o=>?_
 ·have b:j<ps.length:=by simpa using b
  have e:ps[j]? = some ps[j]:=R9 b;have g:ps[j].1∈ns:=by rw[<-c];exact Si.mpr ⟨_,S7 b,rfl⟩
  have z:=f _ g;have x:numAt ps.toArray j=ps[j].1:=by
   unfold numAt;rw[T6,e];rfl
  have t:=sum_bound (ns:=ns.take (j+1)) λi d=>f i (TH d);rw[Sx]at t;rw[x,l4 (j+1) b,c];unfold InLong;refine⟨⟨by lia,by lia⟩,by lia,by lia⟩
 ·refine⟨.int _,H,I.kept o,⟨m,rfl⟩,?_⟩;rw[show ps.toArray.size=ps.length from by simp,l4 ps.length (Sb _),c,a,So (Sb _)];exact q
theorem xK:bootBuiltins "sum" = some (.builtin "sum"):=by decide +kernel
end
def jk (h:Heap) (z TI TO T:Z6) (b:Bool):Prop:=h.get? z=some { cls:=.type "zip",dict:=none,data:=.fields #[rawInt T,.bool b,.bool false,.ref TI,.ref TO],slots:=#[] }
section
variable {prog:Z9}{w:Za}{A:Z8}{E:Vy->Vx->Prop}{s:Vx}
theorem zV {a:Z6}{Q:Option Obj->Vx->Prop} (h:Q (s.heap.get? a) s):Zd (model prog w) A (loadIfAlive a) Q E s:=λΓ p _=>by
 unfold loadIfAlive;rw[Sem.wp_loadIfAlive];exact h
theorem Aq {z TI TO T:Z6}{d:Bool}{oT:Obj}{Q:Bool->Vx->Prop} (hz:jk s.heap z TI TO T d) (hT:s.heap.get? T=some oT) (h:∀h',jk h' z TI TO T true->YE z s.heap h'->Q false { s with heap:=h' }):Zd (model prog w) A (YA (.ref z)) Q E s:=by
 unfold YA;refine Vw (wpAny_field hz rfl (x:=rawInt T) rfl ?_);show Zd _ _ (loadIfAlive (T:Int).toNat >>= _) _ _ _;refine Vw (zV ?_);rw[Te,hT];refine Vw (wpAny_field hz rfl (x:=.bool d) rfl ?_);cases d with
 | true=>exact Vv (h s.heap hz (Heap.SameBut.refl ..))
 | false=>exact Vw (wpAny_setField_rec hz (by simp) λc b a=>Vv (h c b a))
theorem uG {z TI TO j k m l T:Z6}{F:Bool}{p u:Nat}{xs ys:Array Vy}{x y:Vy}{oT:Obj}{Q:Vy->Vx->Prop} (D:ZipApart z TI TO j k m l)
  (hz:jk s.heap z TI TO T F) (hT:s.heap.get? T=some oT) (r:IsPair s.heap TI (.ref j) (.ref k))
  (h1:s.heap.IsListIter j m p) (h2:s.heap.IsListIter k l u) (t:s.heap.IsList m xs) (q:s.heap.IsList l ys) (hx:xs[p]? = some x) (H:ys[u]? = some y)
  (C:∀h',jk h' z TI TO T true->h'.IsListIter j m (p+1)->h'.IsListIter k l (u+1)->IsPair h' s.heap.objs.size x y->h'.objs.size=s.heap.objs.size+1 ->
   (∀c o,c≠z->c≠j->c≠k->s.heap.get? c=some o->h'.get? c=some o)->Q (.ref s.heap.objs.size) { s with heap:=h' }) :
  Zd (model prog w) A (Builtin.«zip.__next__» ⟨[.ref z],[]⟩) (λfin s'=>∃v,fin = .done (.ret v)/\Q v s') E s:=by
 show Zd _ _ (field (.ref z) 2 >>= _) _ _ _;refine Vw (wpAny_field hz rfl (x:=.bool false) rfl ?_);show Zd _ _ (field (.ref z) 3 >>= _) _ _ _;refine Vw (wpAny_field hz rfl (x:=.ref TI) rfl ?_);refine Vw (wpAny_seqItems r rfl ?_);show Zd _ _ (YA (.ref z) >>= _) _ _ _;refine Vw (Aq hz hT λ_ i a=>?_);simp only[SQ,if_false];rw[<-UI];simp only[Uk,List.forIn_nil];refine Vw (Vw (Vw (Vs ?_)));show Zd _ _ (YR (.ref j) >>= _) _ _ _;refine Vw (wpAny_nextOf_list_item (h1.extBut a.extBut D.i1z) (t.extBut a.extBut D.l1z) hx λ_ h b=>Vv (Vv ?_));refine Vw (Vw (Vs ?_));show Zd _ _ (YR (.ref k) >>= _) _ _ _;refine Vw (wpAny_nextOf_list_item ((h2.extBut a.extBut D.i2z).extBut b.extBut D.i12.symm) ((q.extBut a.extBut D.l2z).extBut b.extBut D.l2i1) H λf g d=>Vv (Vv (Vv ?_)));have hsz:f.objs.size=s.heap.objs.size:=by rw[d.1,b.1,a.1]
 refine Vw (wpAny_newTuple (hsz:=by show 2<=Zc;decide) (Vv ⟨_,rfl,?_⟩));show Q (.ref f.objs.size) _;have n:∀c o,f.get? c=some o->(f.push { cls:=.type "tuple",data:=.seq #[x,y] }).get? c=some o:=λc o e=>Vu _ e;rw[hsz];have G:IsPair (f.push { cls:=.type "tuple",data:=.seq #[x,y] }) s.heap.objs.size x y:=by rw[<-hsz];exact Y2 _ rfl
 exact C _ (n _ _ (d.extBut _ _ D.i2z.symm (b.extBut _ _ D.i1z.symm i))) (((h.extBut d.extBut D.i12)).at λo e=>n _ o e) (g.at λo e=>n _ o e) G (by rw[YX,hsz]) λc o I J B e=>n c o (d.extBut _ _ B (b.extBut _ _ J (a.extBut _ _ I e)))
theorem uA {z TI TO j k u n T:Z6}{F:Bool}{p t:Nat}{xs ys:Array Vy}{oT:Obj}{Q:Fin->Vx->Prop} (y:A.handled=none) (D:ZipApart z TI TO j k u n)
  (hz:jk s.heap z TI TO T F) (hT:s.heap.get? T=some oT) (r:IsPair s.heap TI (.ref j) (.ref k))
  (h1:s.heap.IsListIter j u p) (h2:s.heap.IsListIter k n t) (i:s.heap.IsList u xs) (q:s.heap.IsList n ys) (C:xs[p]? = none\/ys[t]? = none)
  (B:∀h' e,(∀c o,c≠z->c≠j->c≠k->s.heap.get? c=some o->h'.get? c=some o)->(∃o,h'.get? e=some o/\o.cls = .type "StopIteration")->E (.ref e) { s with heap:=h' }) :
  Zd (model prog w) A (Builtin.«zip.__next__» ⟨[.ref z],[]⟩) Q E s:=by
 show Zd _ _ (field (.ref z) 2 >>= _) _ _ _;refine Vw (wpAny_field hz rfl (x:=.bool false) rfl ?_);show Zd _ _ (field (.ref z) 3 >>= _) _ _ _;refine Vw (wpAny_field hz rfl (x:=.ref TI) rfl ?_);refine Vw (wpAny_seqItems r rfl ?_);show Zd _ _ (YA (.ref z) >>= _) _ _ _;refine Vw (Aq hz hT λ_ _ a=>?_);simp only[SQ,if_false];rw[<-UI];simp only[Uk,List.forIn_nil];refine Vw (Vw (Vw (Vs ?_)));show Zd _ _ (YR (.ref j) >>= _) _ _ _;cases hx:xs[p]? with
 | none=>
  refine Vw (wpAny_nextOf_list_end y (h1.extBut a.extBut D.i1z) (i.extBut a.extBut D.l1z) hx λd e b m=>?_);exact B d e (λc o v l _ x=>b _ _ l (a.extBut _ _ v x)) m
 | some x=>
  have G:ys[t]? = none:=by rcases C with h | h;rw[hx]at h;cases h;exact h
  refine Vw (wpAny_nextOf_list_item (h1.extBut a.extBut D.i1z) (i.extBut a.extBut D.l1z) hx λd _ b=>Vv (Vv ?_));refine Vw (Vw (Vs ?_));show Zd _ _ (YR (.ref k) >>= _) _ _ _;refine Vw (wpAny_nextOf_list_end y ((h2.extBut a.extBut D.i2z).extBut b.extBut D.i12.symm) ((q.extBut a.extBut D.l2z).extBut b.extBut D.l2i1) G λg e f m=>?_);exact B g e (λc o v H l x=>f _ _ l (b.extBut _ _ H (a.extBut _ _ v x))) m
theorem zW {z TI TO b a e d T:Z6}{p:Bool}{f j:Nat}{xs ys:Array Vy}{x y:Vy}{oT:Obj}{Q:Option Vy->Vx->Prop} (D:ZipApart z TI TO b a e d)
  (hz:jk s.heap z TI TO T p) (hT:s.heap.get? T=some oT) (h:IsPair s.heap TI (.ref b) (.ref a))
  (h1:s.heap.IsListIter b e f) (h2:s.heap.IsListIter a d j) (i:s.heap.IsList e xs) (g:s.heap.IsList d ys) (hx:xs[f]? = some x) (u:ys[j]? = some y)
  (n:∀h',jk h' z TI TO T true->h'.IsListIter b e (f+1)->h'.IsListIter a d (j+1)->IsPair h' s.heap.objs.size x y->h'.objs.size=s.heap.objs.size+1 ->
   (∀c o,c≠z->c≠b->c≠a->s.heap.get? c=some o->h'.get? c=some o)->Q (some (.ref s.heap.objs.size)) { s with heap:=h' }) :
  Zd (model prog w) A (pyNext (.ref z)) Q E s:=by
 have k:s.TypeIs (.ref z) "zip" :=⟨_,hz,rfl⟩;unfold pyNext;exact Vw (wpAny_attempt (wpAny_callSpecial?_slot (name:=Yo "__next__") k F.slot_zip_next
  (wpAny_call_entry F.slot_zip_next k F.entry_zip_next
   (uG D hz hT h h1 h2 i g hx u λh' q v m t r l=>Vv (n h' q v m t r l)) (F.args_zip_next_1 _))))
theorem y3 {z TI TO d a j f T:Z6}{t:Bool}{k m:Nat}{xs ys:Array Vy}{oT:Obj}{Q:Option Vy->Vx->Prop} (n:A.handled=none) (D:ZipApart z TI TO d a j f)
  (hz:jk s.heap z TI TO T t) (hT:s.heap.get? T=some oT) (h:IsPair s.heap TI (.ref d) (.ref a))
  (h1:s.heap.IsListIter d j k) (h2:s.heap.IsListIter a f m) (i:s.heap.IsList j xs) (g:s.heap.IsList f ys) (p:xs[k]? = none\/ys[m]? = none)
  (r:∀h',(∀c o,c≠z->c≠d->c≠a->s.heap.get? c=some o->h'.get? c=some o)->Q none { s with heap:=h' }):Zd (model prog w) A (pyNext (.ref z)) Q E s:=by
 have l:s.TypeIs (.ref z) "zip" :=⟨_,hz,rfl⟩;unfold pyNext;refine Vw (wpAny_attempt (wpAny_callSpecial?_slot (name:=Yo "__next__") l F.slot_zip_next
  (wpAny_call_entry F.slot_zip_next l F.entry_zip_next (uA n D hz hT h h1 h2 i g p λh' e u q=>?_) (F.args_zip_next_1 _))))
 obtain⟨o,v,x⟩:=q;refine Vw (wpAny_isInstance (T:= "StopIteration") (b:=true) ⟨o,v,x⟩ isSubtype_stop ?_);exact Vv (r _ u)
end
def tF (H0 H:Hp) (xs ys acc:List V):Prop:=∀(j:Nat) x y,j<acc.length->xs[j]? = some x->ys[j]? = some y->∃t,acc[j]? = some (.ref t)/\H t=some (.tup [x,y])/\H0 t=none
section
variable {X:Cx}{pins:List (Z6×Obj)}{σ:St}
theorem HA {A:Z8}{R:Result->Vx->Prop}{z TI TO E C a b S:Z6}{xs ys:List V}{H0:Hp}{N:Vy} (hh:A.in1.handled=none) (D:ZipApart z TI TO E C a b) (hq:SqL X.K H0 a xs) (ag:SqL X.K H0 b ys) (ao:H0 S=none) (hsz:min xs.length ys.length<=1000000)
  (hR:∀s' H' acc,Inv X pins σ H' s'->af H0 H'->H' S=some (.lst acc)->acc.length=min xs.length ys.length->tF H0 H' xs ys acc->R (.ok (.ret N)) s') :
  ∀(k i:Nat) (s:Vx) (H:Hp) (acc:List V),min xs.length ys.length - i=k->i<=min xs.length ys.length->Inv X pins σ H s->(∀c∈[z,TI,TO,E,C],b6 X pins H c)->af H0 H->H S=some (.lst acc)->acc.length=i->tF H0 H xs ys acc ->
   IsPair s.heap TI (.ref E) (.ref C)->(∃u v,IsPair s.heap TO u v)->s.heap.IsListIter E a i->s.heap.IsListIter C b i->(IsZip s.heap z TI TO .none\/∃T bb p q,jk s.heap z TI TO T bb/\H T=some (.tup [p,q])) ->
   codeAny (model X.prog X.w) A (.builtin "list.extend.loop" ⟨[.ref S,.ref z,N],[]⟩) R s:=by
 have aj:∀{H:Hp},(∀c∈[z,TI,TO,E,C],b6 X pins H c)->∀{c:Z6}{o:HO},H c=some o->c∉[z,TI,TO,E,C]:=λU c o e G=>by rw[(U c G).1]at e;cases e
 intro k
 induction k with
 | zero=>
  intro i s H acc hk hi I U Q hS J AJ m l h1 h2 r;refine codeAny_builtin F.entry_extend_loop ?_;rw[Yg F.plain_extend_loop _];show Zd _ A.in1 (pyNext (.ref z) >>= _) _ _ s;obtain⟨ae,rv,p,_⟩:=I.list (Q.seq hq);obtain⟨aa,Y,p',_⟩:=I.list (Q.seq ag);have hl:=rv.length;have b0:=Y.length;have ue:ae.toArray[i]? = none\/aa.toArray[i]? = none:=by
   rcases Nat.le_total xs.length ys.length with h | h
   ·exact .inl (by simp;lia)
   ·exact .inr (by simp;lia)
  obtain⟨u,v,l⟩:=l;have P:∀g:Heap,(∀c o,c∉[z,TI,TO,E,C]->s.heap.get? c=some o->g.get? c=some o)->R (.ok (.ret N)) { s with heap:=g }:=λg B=>hR _ H acc (I.du (t':=s.toks) (wr:=[z,TI,TO,E,C]) U B) Q hS (by lia) AJ;rcases r with r | ⟨T,bb,pp,qq,r,hT⟩
  ·exact Vw (wpAny_pyNext_zip_end hh D r m l h1 h2 p.isList p'.isList ue λg B=>Vv (P g λc o d e=>B c o (λq=>d (by simp[q])) (λq=>d (by simp[q])) (λq=>d (by simp[q])) (λq=>d (by simp[q])) e))
  ·obtain⟨_,gw,_,oT,eT,_⟩:=(show bW X.prog X.w H s.heap T (.tup [pp,qq])from I.hok T _ hT);exact Vw (y3 hh D r eT m h1 h2 p.isList p'.isList ue λg B=>Vv (P g λc o d e=>B c o (λq=>d (by simp[q])) (λq=>d (by simp[q])) (λq=>d (by simp[q])) e))
 | succ k ih=>
  intro i s H acc hk hi I U Q hS J AJ m l h1 h2 r;refine codeAny_builtin F.entry_extend_loop ?_;rw[Yg F.plain_extend_loop _];show Zd _ A.in1 (pyNext (.ref z) >>= _) _ _ s;obtain⟨ae,rv,p,_⟩:=I.list (Q.seq hq);obtain⟨aa,Y,p',_⟩:=I.list (Q.seq ag);have hx:xs[i]? = some xs[i]:=R9 (by lia);have hy:ys[i]? = some ys[i]:=R9 (by lia);generalize xs[i]=x at hx;generalize ys[i]=y at hy;obtain⟨u,hu,ru⟩:=rv.get hx;obtain⟨v,hv,ai⟩:=Y.get hy;obtain⟨_,_,l⟩:=l;have M:H s.heap.objs.size=none:=I.hok.fresh (Sb _);have as:=aj U hS;have W:∀(g:Heap) (T:Z6) (bb:Bool) (p q:V),jk g z TI TO T bb->(upd H s.heap.objs.size (.tup [x,y])) T=some (.tup [p,q])->IsPair g TI (.ref E) (.ref C)->(∃u v,IsPair g TO u v)->g.IsListIter E a (i+1)->g.IsListIter C b (i+1)->IsPair g s.heap.objs.size u v->(∀c o,c∉[z,TI,TO,E,C]->s.heap.get? c=some o->g.get? c=some o) ->
    Zd (model X.prog X.w) A.in1 (updateSeq S (·.push (.ref s.heap.objs.size)) >>= λ_=>again (.builtin "list.extend.loop" ⟨[.ref S,.ref z,N],[]⟩)) (λP s'=>match P with | .done f=>R (.ok f) s' | .again c'=>c'.quiet=true/\codeAny (model X.prog X.w) A c' R s') (λe s'=>R (.error e) s') { s with heap:=g }:=λg T bb pp qq aw L QY Lg ap ar KI B=>by
   have I2:Inv X pins σ (upd H s.heap.objs.size (.tup [x,y])) { s with heap:=g }:=I.mz (t':=s.toks) (wr:=[z,TI,TO,E,C]) U B (Sb _) ⟨by show 2<=Zc;decide,[u,v],.cons ru (.cons ai .nil),⟨_,KI,rfl,_,rfl⟩⟩;have s1:af H (upd H s.heap.objs.size (.tup [x,y])):=af.new M;have O:=s1 _ _ hS;have av:S≠s.heap.objs.size:=λe=>by rw[e,M]at hS;cases hS
   have a0:∀c∈[z,TI,TO,E,C],b6 X pins (upd H s.heap.objs.size (.tup [x,y])) c:=λc G=>⟨by
    have ay:∃o,s.heap.get? c=some o:=by
     simp only[Su,Ts,or_false]at G;obtain⟨_,e1,_⟩:=h1;obtain⟨_,e2,_⟩:=h2;rcases G with rfl | rfl | rfl | rfl | rfl
     ·rcases r with r | ⟨_,_,_,_,r,_⟩ <;> exact⟨_,r⟩
     ·exact⟨_,m⟩
     ·exact⟨_,l⟩
     ·exact⟨_,e1⟩
     ·exact⟨_,e2⟩
    obtain⟨o,e⟩:=ay;rw[aq (SD (Y3 e))];exact(U c G).1,(U c G).2⟩
   obtain⟨_,Ox,_,rr,au,e3⟩:=I2.EE O;have ah:(upd H s.heap.objs.size (.tup [x,y])) s.heap.objs.size=some (.tup [x,y]):=ab;generalize upd H s.heap.objs.size (.tup [x,y])=H2 at I2 s1 O a0 L ah;have az:Ox.length=i:=by rw[<-au];exact J
   refine Vw (wpAny_updateSeq e3 rfl (Vv ⟨plainId_quiet F.plain_extend_loop _,?_⟩) (by rw[Sn];lia) (by rw[UA,Sn];lia));have I3:=I2.Eg (kL:=Ox++[.ref s.heap.objs.size]) (ys:=acc++[.ref s.heap.objs.size]) (t':=s.toks) (f:=λz=>z.push (.ref s.heap.objs.size)) O e3 (by simp) (rr.append (.cons (show RelV (.ref s.heap.objs.size) (.ref s.heap.objs.size)from rfl) .nil)) (by rw[Sj,Sw];have:=sizeLine_eq;lia);have nS:∀{c:Z6},c∈[z,TI,TO,E,C]->c≠S:=λG e=>as (by rw[<-e];exact G);have up:∀c o,c≠S->g.get? c=some o->(g.update S (Y8 λz=>z.push (.ref s.heap.objs.size))).get? c=some o:=λc o n e=>(Yu _ _ (YQ n)).trans e;have ak:T≠S:=λe=>by rw[e,O]at L;cases L
   have Oi:tF H0 (upd H2 S (.lst (acc++[.ref s.heap.objs.size]))) xs ys (acc++[.ref s.heap.objs.size]):=λj x' y' hj a8 a7=>by
    by_cases a9:j<acc.length
    ·obtain⟨t,e1,e2,e3⟩:=AJ j x' y' a9 a8 a7;exact⟨t,by rw[SW a9];exact e1,by rw[aq λe=>by rw[e,hS]at e2;cases e2];exact s1 _ _ e2,e3⟩
    ·rw[Sj,Sw]at hj;have Z:j=acc.length:=by lia
     rw[Z,J,hx]at a8;rw[Z,J,hy]at a7;cases a8;cases a7;exact⟨s.heap.objs.size,by rw[Z];simp,by rw[aq av.symm];exact ah,Q.free M⟩
   obtain⟨u1,v1,Lg⟩:=Lg;exact ih (i+1) _ _ _ (by lia) (by lia) I3 (λc G=>⟨by rw[aq (nS G)];exact(a0 c G).1,(a0 c G).2⟩) (ax ao (Q.trans s1)) ab (by rw[Sj,J];rfl) Oi (up _ _ (nS (by simp)) QY) ⟨u1,v1,up _ _ (nS (by simp)) Lg⟩ (ap.at λo e=>up _ o (nS (by simp)) e) (ar.at λo e=>up _ o (nS (by simp)) e) (.inr ⟨T,bb,pp,qq,up _ _ (nS (by simp)) aw,by rw[aq ak];exact L⟩)
  rcases r with r | ⟨T,bb,pp,qq,r,hT⟩
  ·refine Vw (wpAny_pyNext_zip_item D r m l h1 h2 p.isList p'.isList (x:=u) (y:=v) (by simpa using hu) (by simpa using hv) λg a1 a2 a3 a4 a5 a6 B=>?_);exact W g s.heap.objs.size false x y a1 ab (B _ _ D.TIz D.TITO D.TIi1 D.TIi2 m) ⟨_,_,a2⟩ a3 a4 a5 λc o d e=>B c o (λq=>d (by simp[q])) (λq=>d (by simp[q])) (λq=>d (by simp[q])) (λq=>d (by simp[q])) e
  ·obtain⟨_,gw,_,oT,eT,_⟩:=(show bW X.prog X.w H s.heap T (.tup [pp,qq])from I.hok T _ hT);refine Vw (zW D r eT m h1 h2 p.isList p'.isList (x:=u) (y:=v) (by simpa using hu) (by simpa using hv) λg a1 a3 a4 a5 a6 B=>?_);exact W g T true pp qq a1 (af.new M _ _ hT) (B _ _ D.TIz D.TIi1 D.TIi2 m) ⟨_,_,B _ _ D.TOz D.TOi1 D.TOi2 l⟩ a3 a4 a5 λc o d e=>B c o (λq=>d (by simp[q])) (λq=>d (by simp[q])) (λq=>d (by simp[q])) e
theorem A6:typeLookup (.type "zip") "__len__" = pure none:=by rw[typeLookup_type,builtinLookup_eq_fast];kernel_rfl
theorem y6:typeLookup (.type "zip") "__length_hint__" = pure none:=by rw[typeLookup_type,builtinLookup_eq_fast];kernel_rfl
theorem BF {A:Z8}{R:Result->Vx->Prop}{s:Vx}{z TI TO r m a b S:Z6}{xs ys:List V}{H0 H:Hp}{g:Vy} (O:A.in1.handled=none) (D:ZipApart z TI TO r m a b) (Z:SqL X.K H0 a xs) (L:SqL X.K H0 b ys) (h:H0 S=none) (hsz:min xs.length ys.length<=1000000)
  (I:Inv X pins σ H s) (E:∀c∈[z,TI,TO,r,m],b6 X pins H c) (Y:af H0 H) (hS:H S=some (.lst [])) (G:IsPair s.heap TI (.ref r) (.ref m)) (k:∃u v,IsPair s.heap TO u v) (h1:s.heap.IsListIter r a 0) (h2:s.heap.IsListIter m b 0) (hz:IsZip s.heap z TI TO .none)
  (hR:∀s' H' acc,Inv X pins σ H' s'->af H0 H'->H' S=some (.lst acc)->acc.length=min xs.length ys.length->tF H0 H' xs ys acc->R (.ok (.ret g)) s') :
  Zd (model X.prog X.w) A.in1 (Yx (.ref S) (.ref z) g)
   (λfin s'=>match fin with | .done f=>R (.ok f) s' | .again c'=>c'.quiet=true/\codeAny (model X.prog X.w) A c' R s') (λe s'=>R (.error e) s') s:=by
 have d:∀{c:Z6},c∈[z,TI,TO,r,m]->c≠S:=λ{c} l e=>by
  have:=(E c l).1;rw[e,hS]at this;cases this
 have C:S≠z:=(d (by simp)).symm;have hT:s.TypeIs (.ref z) "zip" :=⟨_,hz,rfl⟩;unfold Yx;refine Vw (wpAny_typeOf hT ?_);have Q:YW (.ref S) (.ref z)=false:=by simp[YW,C]
 have e2:(Value.type "zip" == Value.type "list")=false:=by decide
 have W:(Value.type "zip" == Value.type "tuple")=false:=by decide
 simp only[Q,e2,W,UO,SQ,if_false];refine Vw (wpAny_pyIter_zip hz ?_);refine Vw (Vs ?_);unfold Builtin.List.listLengthHint;refine Vw (wpAny_specialOf hT A6 ?_);show Zd _ A.in1 (specialOf (Value.ref z) (Yo "__length_hint__") >>= _) _ _ _;refine Vw (wpAny_specialOf hT y6 ?_);refine Vv ?_;show Zd _ A.in1 (rule "list.extend.makes-room" >>= λ_=>Builtin.List.listTouch (.ref S) >>= λ_=>
  again (.builtin "list.extend.loop" ⟨[.ref S,.ref z,g],[]⟩)) _ _ _
 refine Vw (wpAny_rule ?_);refine Vw ?_;show Zd _ A.in1 (updateSeq S (·.push .none) >>= λ_=>updateSeq S (·.pop)) _ _ _
 obtain⟨_,_,_,T,_,B⟩:=I.EE hS;cases T;refine Vw (wpAny_updateSeq B rfl ?_);have N:=I.Eg (kL:=[.none]) (ys:=[.non]) (t':=s.toks) (f:=λz=>z.push .none) hS B (by simp) (.cons (show RelV .non .none from rfl) .nil) (by show 1<=Zc;decide);have i:=Heap.get?_update_self (Y8 (·.push Value.none)) B rfl
 refine wpAny_updateSeq (hz:=by seq_fits) i rfl ?_;obtain⟨_,U,_,J,_,P⟩:=N.EE ab;have M:∃q,U=[q]:=by
  cases J with
  | cons _ t=>cases t;exact⟨_,rfl⟩
 obtain⟨_,rfl⟩:=M;have I3:=N.Eg (kL:=[]) (ys:=[]) (t':=s.toks) (f:=λz=>z.pop) ab P (by simp) .nil (Sy _);have p:∀c o,c≠S->s.heap.get? c=some o->((s.heap.update S (Y8 (·.push Value.none))).update S (Y8 (·.pop))).get? c=some o:=λc o n e=>(Yu _ _ (YQ n)).trans ((Yu _ _ (YQ n)).trans e)
 obtain⟨u,v,k⟩:=k;refine Vv ⟨plainId_quiet F.plain_extend_loop _,HA O D Z L h hsz hR _ 0 _ _ [] rfl (Sy _) I3 (λc l=>⟨by rw[aq (d l),aq (d l)];exact(E c l).1,(E c l).2⟩) (ax h (ax h Y)) ab rfl (λj x y hj=>by simp at hj) (p _ _ (d (by simp)) G) ⟨u,v,p _ _ (d (by simp)) k⟩ (h1.at λo e=>p _ o (d (by simp)) e) (h2.at λo e=>p _ o (d (by simp)) e) (.inl (p _ _ (d (by simp)) hz))⟩
def Gs (K:Vz):List V->Hp->VK->Prop:=λvs H Q=>∃(a b:Z6) (xs ys:List V),vs=[.ref a,.ref b]/\SqL K H a xs/\SqL K H b ys/\min xs.length ys.length<=1000000/\∀(D:Z6) (acc:List V) (H':Hp),H D=none->af H H'->H' D=some (.lst acc)->acc.length=min xs.length ys.length->tF H H' xs ys acc->Q (.ref D) H'
theorem AB {k:Nat}{ea l:Expr}{ta:TA}{V p2 pos uJ:Pos} (hr:bI k X.A) (w:Gl X "list") (E:X.mg "list" = none) (hg:Gl X "zip") (hm:X.mg "zip" = none) (ha:PA X [ea,l] ta)
  (Z:Ze [ea,l] X.env=(false,eval ea X.env)::Ze [l] X.env:=by rfl) (C:(backTo uJ (Ze [l] X.env)).any (·.1)=false:=by rfl) :
  PE X (.Call (.Name "list" V) [.Call (.Name "zip" p2) [ea,l] [] uJ] [] pos) (λσ H Q=>ta σ H λvs H1=>Gs X.K vs H1 Q):=by
 intro d s σ H Q I h;refine wpAny_Call_Name_kw (eN I w E ku ?_ (by decide) (by decide));refine Ym ?_ rfl rfl;show Zd _ _ (spliced ((false,eval (.Call (.Name "zip" p2) [ea,l] [] uJ) X.env)::backTo pos (Ze [] X.env))) _ _ s;refine YC (Call_ (eN I hg hm boot_zip (Ym (thn (ha uJ d s σ H _ I h) λ_ s1 ⟨vs,H1,t,J,U⟩=>?_) Z C)));obtain⟨a,b,_,ys,e,M,v,x,q⟩:=U;subst e;obtain⟨_,_,rfl,J,r2⟩:=vals2 J;cases J;cases r2;obtain⟨_,_,L,_⟩:=t.list M;obtain⟨_,_,p,_⟩:=t.list v;have la : @LT.lt Nat _ a s1.heap.objs.size:=by obtain⟨_,e,_⟩:=L.isList;exact Y3 e
 have lb : @LT.lt Nat _ b s1.heap.objs.size:=by obtain⟨_,e,_⟩:=p.isList;exact Y3 e
 refine call_zip_2 L.isList p.isList λh' hz y z W h2 _ S=>?_;have D:ZipApart (s1.heap.objs.size+4) (s1.heap.objs.size+2) (s1.heap.objs.size+3) s1.heap.objs.size (s1.heap.objs.size+1) a b:=by constructor <;> (show((_:Nat)≠_)) <;> lia
 have O:Inv X d σ H1 { s1 with heap:=h' }:=t.kept (t':=s1.toks) S;show Zd _ _ (spliced []) _ _ _;refine YT ?_;have R:∀c∈[s1.heap.objs.size+4,s1.heap.objs.size+2,s1.heap.objs.size+3,s1.heap.objs.size,s1.heap.objs.size+1],s1.heap.objs.size<=c/\c<h'.objs.size:=λc m=>by
  simp only[Su,Ts,or_false]at m;rcases m with rfl | rfl | rfl | rfl | rfl <;> (constructor <;> (show((_:Nat)<=_)) <;> lia)
 refine callType_codes (Q₁:=λr j=>r = .ref h'.objs.size/\j={ s1 with heap:=h'.push { cls:=.type "list",data:=.seq #[] } }) F.called_list (F.typeCall_list_1 _) F.entry_list_init (code_list_new _ ⟨rfl,rfl⟩) λr j n=>?_;obtain⟨rfl,rfl⟩:=n;have hS:(h'.push { cls:=.type "list",data:=.seq #[] }).get? h'.objs.size=some { cls:=.type "list",data:=.seq #[] }:=Y2 _ rfl;have P:∀c o,h'.get? c=some o->(h'.push { cls:=.type "list",data:=.seq #[] }).get? c=some o:=λc o e=>Vu _ e;have i:H1 h'.objs.size=none:=O.hok.fresh (Sb _);have I3:Inv X d σ (upd H1 h'.objs.size (.lst [])) { s1 with heap:=h'.push { cls:=.type "list",data:=.seq #[] } }:=O.mz (t':=s1.toks) (wr:=[]) (λb hb=>by cases hb) (λb o _ e=>P b o e) (Sb _) ⟨Sy _,[],0,.nil,hS⟩;refine⟨⟨_,hS,rfl⟩,F.args_list_init_2 _ _,?_⟩;show Zd _ X.A.in1.in1 (do let old <-Builtin.List.listItems (.ref h'.objs.size);Builtin.List.listUpdate (.ref h'.objs.size) (λ_=>#[]);letGo old.toList.reverse;Yx (.ref h'.objs.size) (.ref (s1.heap.objs.size+4)) .none) _ _ _;refine Vw ?_;unfold Builtin.List.listItems;refine Vw (wpAny_seqItems hS rfl (Vv ?_));show Zd _ X.A.in1.in1 (updateSeq h'.objs.size (λ_=>#[]) >>= λ_=>letGo (#[]:Array Vy).toList.reverse >>= λ_=>Yx (.ref h'.objs.size) (.ref (s1.heap.objs.size+4)) .none) _ _ _;refine Vw (wpAny_updateSeq hS rfl ?_);have Y:=I3.Eg (kL:=[]) (ys:=[]) (t':=s1.toks) (f:=λ_=>#[]) ab hS rfl .nil (Sy _);have u:∀c∈[s1.heap.objs.size+4,s1.heap.objs.size+2,s1.heap.objs.size+3,s1.heap.objs.size,s1.heap.objs.size+1],∀o,h'.get? c=some o->((h'.push { cls:=.type "list",data:=.seq #[] }).update h'.objs.size (Y8 λ_=>#[])).get? c=some o:=λc m o e=>(Yu _ _ (T9 (R c m).2)).trans (P c o e);refine Vw (wpAny_letGo ?_);refine BF (A:=X.A.in1) (H0:=H1) hr.hd D M v i x Y (λc m=>?_) (ax i (af.new i)) ab (u _ (by simp) _ y) ⟨_,_,u _ (by simp) _ z⟩ (W.at λo e=>u _ (by simp) o e) (h2.at λo e=>u _ (by simp) o e) (u _ (by simp) _ hz) λ_ N B I' T G hl AJ=>⟨rfl,.ref _,N,I',rfl,q _ B N i T G hl AJ⟩;have g:=R c m;refine t.o8 g.1 ?_;rw[aq (SD g.2),aq (SD g.2)];exact t.hok.fresh g.1
end
end L2
namespace L2
open PySem PySem.Spec PyProof.Rows PySem.W
section
variable {X:Cx}{pins:List (Z6×Obj)}{σ:St}{H:Hp}{s:Vx}
def Cn (K:Vz) (a r:Sh) (sp:Sp):V->Hp->VK->Prop:=λx H Q=>∃d kvs xs,x = .ref d/\Rd H d (.dK kvs)/\kvs.map (λkv=>kV kv.1)=xs/\xs.length<64/\qC sp xs [] H λks H1=>
 ∃kds,aE K H1 ks kds/\(∀d∈kds,(Sh.cO a r).has d)/\(∀d∈kds,d.depth<=100)/\∀(D:Z6) (p:List Nat),H1 D=none->p.Perm (Y7 xs.length)->fE kds p->Q (.ref D) (upd H1 D (.lst (picked xs p)))
theorem y9 {a r:Sh}{b:Bool}{k:Nat}{f:Z6}{fd:Z7}{ps:List Str}{sp:Sp}{x:V}{u:Vy}{Q:VK} (Y:X.calm=true) (T:iw a b) (F:aA X.prog X.w X.K X.mg X.base CX0 k f fd ps sp) (hr:bI (k+2) X.A) (U:Binds X.K fd ps []) (I:Inv X pins σ H s) (R:RelV x u) (h:Cn X.K a r sp x H Q) :
  Zd (model X.prog X.w) X.A (call (.builtin "sorted") [u] [(Yo "key",.ref f)]) (EP X pins σ Q) X.xe s:=by
 obtain⟨d,kvs,ys,rfl,Z,B,_,q⟩:=h;cases R;obtain⟨z,C,vs,y,S⟩:=tL I.hok Z;obtain⟨ep,P⟩:=S.dictAt;have L:kvs.length=ys.length:=by have:=congrArg List.length B;simpa using this
 have hl:=y.length;refine call_function_entry_kw kind_sorted plain_sorted entry_sorted (ksk_s1 _ _) ?_;unfold Builtin.«sorted»
 (refine Vw (m:=checkCount "sorted" 1 1 _) (Vv ?_))
 refine Vw (kdu_collect (A:=X.A.in1) (kdl_dict (knd:=aX X.prog X.w) (kvs:=vs) (ep:=ep) C) (show X.A.in1.handled=none from I.ok.hd Y) P (by lia) λh1 i acc N G=>?_);have n:acc.toList.length=vs.length:=by rw[SA];exact G.1
 have l:aR ys acc.toList:=by
  rw[<-B];exact vt y (by lia) λj v e=>G.2 j v (by rw[<-S6];exact e)
 (refine Vw (wpAny_newList ?_ (by rw[n,sizeLine_eq];lia)))
 have M:Inv X pins σ H { s with heap:=h1,toks:=i }:=I.kept (t':=i) N;have g:(h1.push (seqObj "list" acc.toList.toArray 0)).get? h1.objs.size=some (seqObj "list" acc.toList.toArray 0):=Y2 _ rfl;have c:∀b o,s.heap.get? b=some o->(h1.push (seqObj "list" acc.toList.toArray 0)).get? b=some o:=λb o e=>Vu _ (N b o e);show Zd _ _ (_ >>= λ_=>_) _ _ { s with heap:=h1.push (seqObj "list" acc.toList.toArray 0),toks:=i };generalize acc.toList=its at g c l n ⊢;generalize h1.push (seqObj "list" its.toArray 0)=h2 at g c ⊢;have I2:Inv X pins σ H { s with heap:=h2,toks:=i }:=I.kept (t':=i) c;have t:H h1.objs.size=none:=M.hok.fresh (Sb _);have J:b6 X pins H h1.objs.size:=M.o8 (Sb _) t;generalize h1.objs.size=D at g t J ⊢;refine Vw (Vs (wpAny_call_entry_kw slot_list_sort ⟨_,g,rfl⟩ entry_list_sort ?body (ksk_l1 _ _)))
 case body=>
  show Zd (model X.prog X.w) X.A.in1.in1 (Builtin.«list.sort» ⟨[.ref D],[(Yo "key",.ref f)]⟩) _ _ _;rw[ksk_t1];refine uy (s:={ s with heap:=h2,toks:=i }) T F hr U I2 g J l (by lia) q λ_ _ ⟨E,C,W,xF,q2⟩=>⟨E,C,W,xF,λp _ hp iq B O=>?_⟩;refine⟨_,rfl,Vv ⟨_,rfl,?_⟩⟩;exact⟨.ref _,_,O,rfl,q2 _ p B hp iq⟩
def Ii (K:Vz) (a r:Sh) (sp:Sp) (ta:TA):TE:=λσ H Q=>ta σ H λvs H1=>∃x,vs=[x]/\Cn K a r sp x H1 Q
theorem Di {a r:Sh}{b:Bool}{k:Nat}{f:Z6}{fd:Z7}{ps:List Str}{sp:Sp}{e:Expr}{ta:TA}{y:Str}{p g pos i:Pos} (C:iw a b) (F:aA X.prog X.w X.K X.mg X.base CX0 k f fd ps sp) (M:bI (k+2) X.A) (E:Binds X.K fd ps [])
  (z:Gl X "sorted") (v:X.mg "sorted" = none) (d:Gl X y) (j:X.mg y=some (.ref f)) (L:PA X [e] ta) (J:X.calm=true:=by rfl) (l:(y == ("__debug__" : Str))=false:=by decide)
  (B:backTo pos (Ze [e] X.env)=(false,eval e X.env)::backTo pos (Ze [] X.env):=by rfl) (o:(backTo pos (Ze [e] X.env)).any (·.1)=false:=by rfl)
  (t:(backToKw pos (keywordEach [⟨some "key",.Name y g,i⟩] X.env)).all (·.1.isSome)=true:=by rfl) (m:(backToKw pos (keywordEach [⟨some "key",.Name y g,i⟩] X.env)).any (·.1.isNone)=false:=by rfl) :
  PE X (.Call (.Name "sorted" p) [e] [⟨some "key",.Name y g,i⟩] pos) (Ii X.K a r sp ta):=by
 intro c s G H Q I h;refine wpAny_Call_Name_kw (eN I z v boot_sorted ?_);refine callWith_kw (thn (L pos c s G H _ I h) λ_ _ ⟨_,_,n,O,N⟩=>?_) B o t m;obtain⟨x,rfl,q⟩:=N;obtain⟨u,rfl,D⟩:=O.one;refine kws_cons (md n d j (kws_nil ?_) l);exact y9 J C F M E n D q
end
end L2
namespace L2
open PySem PySem.Spec PyProof.Rows
section
variable {prog:Z9}{w:Za}{A:Z8}{E:Vy->Vx->Prop}{s:Vx}
theorem tH {it t:Z6}{items:Array Vy} (c:t≠it):∀(n i:Nat) (s:Vx) (Q:List Vy->Vx->Prop),s.heap.IsListIter it t i->s.heap.IsList t items->i+n<=items.size ->
  (∀h',h'.IsListIter it t (i+n)->YE it s.heap h'->Q ((items.toList.drop i).take n) { s with heap:=h' })->Zd (model prog w) A (draw (.ref it) n) Q E s
 | 0,i,s,Q,hit,_,_,hQ=>by
  show Zd _ _ (pure []) Q E s;exact Vv (by simpa using hQ s.heap hit (Heap.SameBut.refl ..))
 | n+1,i,s,Q,hit,ht,hle,hQ=>by
  have e:i<items.size:=by lia
  show Zd _ _ (pyNext (.ref it) >>= _) Q E s;refine Vw (wpAny_pyNext_list_item hit ht (x:=items[i]) (by simp[e]) λ_ h a=>?_);refine Vw (Vs (tH c n (i+1) _ _ h (ht.extBut a.extBut c) (by lia) λd g b=>Vv ?_));have f:items.toList.drop i=items[i]::items.toList.drop (i+1):=by simp[SX,e]
  have:=hQ d (by rw[show i+(n+1)=i+1+n by lia];exact g) (a.trans b);rw[f,UB]at this;exact this
theorem o6 {t:Z6}{items:Array Vy}{Q:List Vy->Vx->Prop} (n:A.handled=none) (i:s.heap.IsList t items)
  (p:∀h',Heap.ExtBut s.heap.objs.size s.heap h'->Q items.toList { s with heap:=h' }):Zd (model prog w) A (unpackItems (.ref t) items.size none) Q E s:=by
 have h:t≠s.heap.objs.size:=by obtain⟨o,j,_⟩:=i;exact SD (Y3 j)
 have hT:s.TypeIs (.ref t) "list" :=by obtain⟨o,j,q,_⟩:=i;exact⟨o,j,q⟩
 unfold unpackItems;refine Vw ?_
 ·unfold notIterableAtAll;refine Vw (wpAny_specialOf hT F.slot_list_iter.lookup ?_);refine Vv ?_;simp only[SQ,if_false];refine Vw (Vs (wpAny_pyIter_list i ?_));have l:(s.heap.push { cls:=.type "list_iterator",data:=.fields #[.ref t,.int 0 0] }).IsList t items:=Heap.IsList.push i _;refine Vw (Vs (tH h items.size 0 _ _ ⟨_,Y2 _ rfl,rfl,rfl⟩ l (by lia) λg r a=>?_));have m:List.take items.size (List.drop 0 items.toList)=items.toList:=by
   rw[Uq];exact So (by simp)
  rw[m];rw[Zk (by simp)];have c:g.IsList t items:=l.extBut a.extBut h;refine Vw (Vs (wpAny_pyNext_list_end n r c (by simp) λf d=>?_));simp only[Option.isSome_none,SQ,if_false];refine Vv (p f λb o k e=>d b o k (a.extBut b o k (Vu _ e)))
end
section
variable {X:Cx}{pos:Pos}
def Nu (K:Vz) (n:Nat) (t:TGs):TG:=λv σ H Q=>∃a xs,v = .ref a/\SqL K H a xs/\xs.length=n/\t xs σ H Q
theorem IU {es:List Expr}{k:Nat}{t:TGs}{n:Nat} (x:X.calm=true) (h:PGs X es t)
  (A:(assignEach es X.env).length=n:=by rfl) (f:(assignEach es X.env).findIdx? (·.1)=none:=by rfl):PG X (.Tuple es k pos) (Nu X.K n t):=by
 intro c s j H v u Q I r d;obtain⟨a,B,l,z,y,d⟩:=d;subst l;cases r;obtain⟨g,i,p,_⟩:=I.list z;rw[assign_Tuple];refine Vw (wpAny_standAt ?_);unfold unpack;rw[show(assignEach es X.env).length=g.toArray.size by simp[A,<-y,i.length],f];refine Vw (Vs (o6 (I.ok.hd x) p.isList λw m=>?_));have q:Inv X c j H { s with heap:=w }:=I.kept (t':=s.toks) λb o e=>m b o (SD (Y3 e)) e;exact h c _ j H B _ Q q (by simpa using i) d
end
end L2
namespace L2
open PySem PySem.Spec PyProof.Rows PySem.W
structure PAi (X:Cx) (es:List Expr) (t:TA):Prop where
 go:PA X es t
structure PSi (X:Cx) (st:Stmt) (t:TS):Prop where
 go:PS X st t
structure RV (X:Cx) (st:List Stmt) (t:TS):Prop where
 go:PSs X st t
section
variable {X:Cx}
theorem AD:bootBuiltins "set" = some (.type "set"):=by decide +kernel
end
end L2
namespace LG
open PySem L2
def wsD (ws:List Str):Zb:=.list (ws.map PyData.str)
def gD (wss:List (List Str)):Zb:=.list (wss.map wsD)
structure GOk (n:Nat) (wss:List (List Str)):Prop where
 ne:wss≠[]
 le:wss.length<64
 DX:n<=12
 pos:0<n
 row:∀ws∈wss,ws.length=n/\∀w∈ws,PtW (.word w)
def wAt (wss:List (List Str)) (p:Nat):List Str:=wss.map λws=>ws.getD p Yh
def uAt (wss:List (List Str)) (p:Nat):List Str:=fP [] (wAt wss p)
def gY (wss:List (List Str)) (p:Nat) (s l:Int):Bool:=decide (2<=((uAt wss p).length:Int)) && (decide (((uAt wss p).length:Int)<=s) && (uAt wss p).all λw=>decide (l<=((wAt wss p).countP λz=>decide (z=w):Nat)))
section
variable {K:Vz}{H:Hp}
theorem pL:∀{ws:List Str}{ys:List V},aE K H ys (ws.map PyData.str)->ys=ws.map V.str
 | [],_,h=>by cases h;rfl
 | w::ws,_,h=>by
  cases h with
  | cons a t=>
   cases a;rw[pL t];rfl
theorem K5 {x:V}{ws:List Str} (h:Den K H x (wsD ws)):∃r,x = .ref r/\SqL K H r (ws.map V.str):=by
 cases h with
 | lst hq t=>
  rw[pL t]at hq;exact⟨_,rfl,hq⟩
theorem C8 {x:V}{wss:List (List Str)} (h:Den K H x (gD wss)):∃a xs,x = .ref a/\SqL K H a xs/\aE K H xs (wss.map wsD):=by
 cases h with
 | lst hq t=>exact⟨_,_,rfl,hq,t⟩
theorem pe {xs:List V}{wss:List (List Str)}{i:Nat}{x:V} (h:aE K H xs (wss.map wsD)) (hx:xs[i]? = some x):∃ws r,wss[i]? = some ws/\x = .ref r/\SqL K H r (ws.map V.str):=by
 obtain⟨d,a,c⟩:=h.get hx;rw[Se]at a;cases e:wss[i]? with
 | none=>rw[e]at a;cases a
 | some ws=>
  rw[e]at a;cases a;obtain⟨r,rfl,b⟩:=K5 c;exact⟨ws,r,rfl,rfl,b⟩
end
theorem zO {wss:List (List Str)}{ws:List Str}{i p:Nat} (h:wss[i]? = some ws):wAt (wss.take (i+1)) p=wAt (wss.take i) p++[ws.getD p Yh]:=by
 unfold wAt;rw[SG,h];simp
theorem sN (zs:List Str):(fP [] zs).length<=zs.length:=by
 have:=Cw zs [];simpa using this
theorem GOk.LJ {n:Nat}{wss:List (List Str)} (h:GOk n wss) (p:Nat):(wAt wss p).length<64:=by unfold wAt;rw[R8];exact h.le
theorem GOk.Mv {n:Nat}{wss:List (List Str)} (h:GOk n wss) (p:Nat):(uAt wss p).length<64:=Um (sN _) (h.LJ p)
section
variable {K:Vz}{H H':Hp}{P:Z6}
theorem A5 {ps:Array Vy}{a:Z6}{o:HO} (h:H P=some (.tbl ps)) (e:H a=some o) (n:∀qs,o ≠ .tbl qs):a≠P:=λz=>by
 rw[z,h]at e;cases e;exact n _ rfl
theorem FE {ps:Array Vy}{a:Z6}{o:HO} (h:H P=some (.tbl ps)) (r:Rd H a o) (n:∀qs,o ≠ .tbl qs):Rd (wo P H) a o:=by
 rcases r with r | ⟨b,r⟩
 ·exact .inl (by rw[au (A5 h r n)];exact r)
 ·exact .inr ⟨b,by rw[au (A5 h r λqs e=>by cases e)];exact r⟩
theorem wZ {ps:Array Vy}{a:Z6}{xs:List V} (h:H P=some (.tbl ps)) (r:SqL K H a xs):SqL K (wo P H) a xs:=by
 rcases r with r | r
 ·exact .inl (FE h r λqs e=>by cases e)
 ·exact .inr r
theorem pO {ps:Array Vy}{a:Z6}{xs:List V} (h:H P=some (.tbl ps)) (r:SqT K H a xs):SqT K (wo P H) a xs:=by
 rcases r with r | r
 ·exact .inl (FE h r λqs e=>by cases e)
 ·exact .inr r
theorem CM {ps:Array Vy}{v:V}{d:Zb} (h:H P=some (.tbl ps)) (r:Den K H v d):Den K (wo P H) v d:=r.keep (λ_ _ q=>wZ h q) λ_ _ q=>pO h q
theorem yC {ps:Array Vy}{v:List V}{d:List Zb} (h:H P=some (.tbl ps)) (r:aE K H v d):aE K (wo P H) v d:=r.keep (λ_ _ q=>wZ h q) λ_ _ q=>pO h q
theorem bj {pos:Pos}{qual:Str} (h:gU P pos qual H):∃ps,H P=some (.tbl ps):=let ⟨ps,e,_⟩:=h;⟨ps,e⟩
theorem aV {pos:Pos}{qual:Str} (h:gU P pos qual H) (s:af H H'):gU P pos qual H':=by
 obtain⟨ps,h1,h2,h3⟩:=h;refine⟨ps,s _ _ h1,h2,h3.imp id λ⟨c,a,b⟩=>⟨c,a,s _ _ b⟩⟩
theorem Fs {c:Z6}{qual:Str}{H1 H2:Hp}{u v:Vy} (h:H2=H1\/∃ps,H1 P=some (.tbl ps)/\H1 c=none/\H2=upd (upd H1 P (.tbl (ps ++ #[u,v,.ref c]))) c (qt c qual)):af (wo P H1) H2:=by
 rcases h with rfl | ⟨ps,_,a,rfl⟩
 ·exact bc
 ·refine ax ?_ (ax eJ bc);by_cases e:c=P
  ·rw[e,eJ]
  ·rw[au e];exact a
theorem yg {a:Z6}{o:HO}{ps:Array Vy} (s:af (wo P H) H') (h:H P=some (.tbl ps)) (e:H a=some o) (n:∀qs,o ≠ .tbl qs):H' a=some o:=s _ _ (by rw[au (A5 h e n)];exact e)
end
def jy (wss:List (List Str)) (n:Nat) (s l:Int):List Nat:=(Y7 n).filter λp=>gY wss p s l
def plc (wss:List (List Str)) (n:Nat) (s l:Int):Option Nat:=if jy wss n s l=[]then none else some ((jy wss n s l).getD (cn ((jy wss n s l).map λp=>.int (uAt wss p).length)) 0)
def Pl:Option Nat->V
 | none=>.non
 | some p=>.int p
theorem DT {wss:List (List Str)}{i:Nat}{s l:Int}:jy wss (i+1) s l=jy wss i s l++[i].filter λp=>gY wss p s l:=by
 unfold jy;rw[Uy,S8]
theorem Hz {wss:List (List Str)}{i:Nat}{s l:Int}:(jy wss i s l).length<=i:=by
 unfold jy;exact Sl (S0 _ _) (by rw[TK];exact Sb _)
theorem zU {wss:List (List Str)}{n p:Nat}{s l:Int} (h:p∈jy wss n s l):p<n/\gY wss p s l=true:=by
 unfold jy at h;obtain⟨h1,h2⟩:=SM.mp h;exact⟨S5.mp h1,h2⟩
theorem yA (wss:List (List Str)) (ps:List Nat) (h:ps≠[]):cn (ps.map λp=>PyData.int (uAt wss p).length)<ps.length:=by
 obtain⟨d,b,_⟩:=tN (all:=ps.map λp=>PyData.int (uAt wss p).length) (Sh.ok .int) (λd a=>by
  obtain⟨p,_,rfl⟩:=Si.mp a;exact⟨_,rfl⟩) (λe=>h (Tp.mp e))
 have:=aG b
 rwa [R8]at this
theorem xa {wss:List (List Str)}{n p:Nat}{s l:Int} (h:plc wss n s l=some p):p<n/\gY wss p s l=true:=by
 unfold plc at h
 split at h
 ·cases h
 ·rename_i hne;have a:=yA wss _ hne;rw[Sr,R9 a]at h;cases h;exact zU (S7 a)
theorem Jq (i:Int):(PyData.int i).depth<=100:=Sy _
structure Eo {α:Type} (l:List (Key×α)) (p:Key×List α):Prop where
 ne:p.2≠[]
 of:∀x∈p.2,(p.1,x)∈l
 le:p.2.length<=l.length
theorem K9 {α:Type}{l:List (Key×α)}{st:List (Key×List α)}{k:Key}{x:α} (h:∀p∈st,Eo l p):∀p∈bL st k x,Eo (l++[(k,x)]) p:=λp c=>by
 have d:∀q∈st,Eo (l++[(k,x)]) q:=λq a=>⟨(h q a).ne,λy b=>TV _ ((h q a).of y b),by rw[Sj];exact Sl (h q a).le (Nat.le_add_right _ _)⟩;unfold bL at c
 split at c
 ·obtain⟨q,a,rfl⟩:=Si.mp c;by_cases e:q.1=k
  ·rw[Zj e];refine⟨by simp,λy b=>?_,?_⟩
   ·rcases Sz.mp b with z | z
    ·exact(d q a).of y z
    ·rw[Sg.mp z];show(q.1,x)∈_;rw[e];simp
   ·show(q.2++[x]).length<=_;rw[Sj,Sj,Sw,Sw];exact Nat.succ_le_succ (h q a).le
  ·rw[Zk e];exact d q a
 ·rcases Sz.mp c with z | z
  ·exact d p z
  ·rw[Sg.mp z];refine⟨by simp,λy b=>?_,by simp⟩;rw[Sg.mp b];simp
theorem vc {α:Type} (l:List (Key×α)):∀p∈b7 l,Eo l p:=by
 have e:∀(r a:List (Key×α)) (b:List (Key×List α)),(∀p∈b,Eo a p)->∀p∈r.foldl (λb p=>bL b p.1 p.2) b,Eo (a++r) p:=λr=>by
  induction r with
  | nil=>intro a b h p c;rw[S3];exact h p c
  | cons q r d=>
   intro a b h p c;have:=d (a++[q]) (bL b q.1 q.2) (K9 h) p c
   rwa [UK,List.singleton_append]at this
 exact e l [] [] (λp c=>by cases c)
def byW (wss:List (List Str)) (p:Nat):List (List (List Str)):=grp ((wAt wss p).map Sum.inr) wss
theorem zip_map {α β:Type} (f:α->β):∀l:List α,(l.map f).zip l=l.map λx=>(f x,x)
 | []=>rfl
 | a::l=>by rw[Sv,Uo,zip_map f l];rfl
theorem pP {wss g:List (List Str)}{p:Nat} (h:g∈byW wss p):g≠[]/\g.length<=wss.length/\(∀ws∈g,ws∈wss)/\∃w:Str,∀ws∈g,ws.getD p Yh=w:=by
 unfold byW grp at h;obtain⟨q,d,rfl⟩:=Si.mp h;have f:((wAt wss p).map (Sum.inr:Str->Key)).zip wss=wss.map λws=>(Sum.inr (ws.getD p Yh),ws):=by
  unfold wAt;rw[SS];exact zip_map _ wss
 rw[f]at d;have c:=vc _ q d;have b:∀ws∈q.2,ws∈wss/\(Sum.inr (ws.getD p Yh):Key)=q.1:=λws a=>by
  obtain⟨v,j,e⟩:=Si.mp (c.of ws a);injection e with e1 e2;rw[<-e2];exact⟨j,e1⟩
 refine⟨c.ne,?_,λws a=>(b ws a).1,?_⟩
 ·have:=c.le
  rwa [R8]at this
 ·cases e:q.1 with
  | inl i=>
   obtain⟨ws,a⟩:=To _ c.ne;have:=(b ws a).2;rw[e]at this;cases this
  | inr w=>
   refine⟨w,λws a=>?_⟩;have:=(b ws a).2;rw[e]at this;exact Sum.inr.inj this
theorem GOk.sub {n p:Nat}{wss g:List (List Str)} (h:GOk n wss) (hg:g∈byW wss p):GOk n g:=by
 obtain⟨h1,h2,h3,_⟩:=pP hg;exact⟨h1,Um h2 h.le,h.DX,h.pos,λws hws=>h.row ws (h3 ws hws)⟩
theorem j5 {x:Str}:∀{zs us:List Str},x∈fP us zs↔x∈us\/x∈zs
 | [],us=>by simp[fP]
 | z::zs,us=>by
  unfold fP;rw[j5];by_cases h:z∈us
  ·rw[Zj h,Su];constructor
   ·rintro(a | a)
    ·exact .inl a
    ·exact .inr (.inr a)
   ·rintro(a | a | a)
    ·exact .inl a
    ·rw[a];exact .inl h
    ·exact .inr a
  ·rw[Zk h,Sz,Sg,Su];constructor
   ·rintro((a | a) | a)
    ·exact .inl a
    ·exact .inr (.inl a)
    ·exact .inr (.inr a)
   ·rintro(a | a | a)
    ·exact .inl (.inl a)
    ·exact .inl (.inr a)
    ·exact .inr a
theorem ml:∀{zs us:List Str},us.Nodup->(fP us zs).Nodup
 | [],us,h=>h
 | z::zs,us,h=>by
  unfold fP;refine ml ?_;by_cases e:z∈us
  ·rw[Zj e];exact h
  ·rw[Zk e,Tv];refine⟨h,by simp,λa d b f=>?_⟩;rw[Sg.mp f];exactλc=>e (c ▸ d)
def two (wss:List (List Str)) (p:Nat):Bool:=decide (2<=(uAt wss p).length)
theorem E6 {wss:List (List Str)}{p:Nat} (h:two wss p=true):∃x y,x≠y/\x∈wAt wss p/\y∈wAt wss p:=by
 have d:2<=(uAt wss p).length:=Zi h;have b:(uAt wss p).Nodup:=ml (by simp);have a:∀z∈uAt wss p,z∈wAt wss p:=λz c=>(j5.mp c).resolve_left (by simp)
 match e:uAt wss p,d,b,a with
 | x::y::r,_,b,a=>exact⟨x,y,λz=>(Tq.mp b).1 (by rw[z];simp),a x (by simp),a y (by simp)⟩
theorem LS {wss:List (List Str)}{p:Nat}{x y:Str} (c:x≠y) (hx:x∈wAt wss p) (d:y∈wAt wss p):two wss p=true:=by
 have a:x∈uAt wss p:=j5.mpr (.inr hx);have b:y∈uAt wss p:=j5.mpr (.inr d);refine Zg ?_
 match e:uAt wss p,a,b with
 | [z],a,b=>exact(c ((Sg.mp a).trans (Sg.mp b).symm)).elim
 | _::_::r,_,_=>simp
def mu (n:Nat) (wss:List (List Str)):Nat:=(Y7 n).countP (two wss)
theorem Kg (n:Nat) (wss:List (List Str)):mu n wss<=n:=by
 unfold mu;exact Sl List.countP_le_length (by rw[TK];exact Sb _)
theorem DR {l:List Nat}{f g:Nat->Bool}{p:Nat} (h:∀q,f q=true->g q=true) (b:p∈l) (h1:f p=false) (h2:g p=true):l.countP f<l.countP g:=by
 induction l with
 | nil=>cases b
 | cons a l d=>
  have c:l.countP f<=l.countP g:=List.countP_mono_left λq _=>h q;rw[Ti,Ti];rcases Su.mp b with e | e
  ·rw[<-e,h1,h2];simp;lia
  ·have:=d e;have i:(if f a=true then 1 else 0)<=(if g a=true then 1 else 0):=by
    cases hf:f a with
    | false=>simp
    | true=>rw[h a hf];simp
   lia
theorem Ke {n p:Nat}{wss g:List (List Str)} (u:p<n) (o:two wss p=true) (k:g∈byW wss p):mu n g<mu n wss:=by
 obtain⟨_,_,j,w,h⟩:=pP k;refine DR (p:=p) (λq s=>?_) (S5.mpr u) ?_ o
 ·obtain⟨x,y,c,d,e⟩:=E6 s;have i:∀z∈wAt g q,z∈wAt wss q:=λz m=>by
   obtain⟨l,f,rfl⟩:=Si.mp m;exact TY (j l f)
  exact LS c (i x d) (i y e)
 ·rw[SI];intro z;obtain⟨x,y,c,d,e⟩:=E6 z;obtain⟨a,t,rfl⟩:=Si.mp d;obtain⟨b,r,rfl⟩:=Si.mp e;exact c ((h a t).trans (h b r).symm)
theorem wA {wss:List (List Str)}{p:Nat}{s l:Int} (h:gY wss p s l=true):two wss p=true:=by
 unfold gY at h;have:=Zi (Tt.mp h).1;exact Zg (by lia)
def prt (n:Nat) (s l:Int):Nat->List (List Str)->List (List (List Str))
 | 0,g=>[g]
 | N+1,g=>match plc g n s l with
  | none=>[g]
  | some p=>(byW g p).flatMap (prt n s l N)
theorem j4 {n:Nat}{s l:Int}:∀{N:Nat}{wss:List (List Str)},GOk n wss->∀g∈prt n s l N wss,GOk n g
 | 0,wss,h,g,hg=>by rw[Sg.mp hg];exact h
 | N+1,wss,h,g,hg=>by
  unfold prt at hg
  split at hg
  ·rw[Sg.mp hg];exact h
  ·rename_i p _;obtain⟨_,b,a⟩:=TC.mp hg;exact j4 (h.sub b) g a
theorem vN {K:Vz}{H:Hp}{xs:List V}{wss:List (List Str)}:aE K H xs (wss.map wsD)->gC (λx ws=>Den K H x (wsD ws)) xs wss:=by
 induction wss generalizing xs with
 | nil=>intro h;cases h;exact .nil
 | cons ws wss b=>
  intro h;cases h with
  | cons a t=>exact .cons a (b t)
theorem wj {K:Vz}{H:Hp}{xs:List V}{wss:List (List Str)} (h:gC (λx ws=>Den K H x (wsD ws)) xs wss):aE K H xs (wss.map wsD):=by
 induction h with
 | nil=>exact .nil
 | cons h _ ih=>exact .cons h ih
def tot {α:Type} (st:List (Key×List α)):Nat:=(st.map λp=>p.2.length).sum
theorem D8 {α:Type}{st:List (Key×List α)}{k:Key}{x:α} (h:(st.map (·.1)).Nodup):((bL st k x).map (·.1)).Nodup/\tot (bL st k x)=tot st+1:=by
 unfold bL
 split
 ·rename_i ha;have e:(st.map λp=>if p.1=k then(p.1,p.2++[x])else p).map (·.1)=st.map (·.1):=by
   rw[SS];exact SK λp _=>by show(if p.1=k then(p.1,p.2++[x])else p).1=p.1;split <;> rfl
  refine⟨by rw[e];exact h,?_⟩;have f:∀l:List (Key×List α),(l.map (·.1)).Nodup->(l.any λp=>decide (p.1=k))=true->tot (l.map λp=>if p.1=k then(p.1,p.2++[x])else p)=tot l+1:=λl=>by
   induction l with
   | nil=>intro _ h;cases h
   | cons a l m=>
    intro o ha;have c:=Tq.mp o;by_cases e:a.1=k
    ·have j:(l.map λp=>if p.1=k then(p.1,p.2++[x])else p)=l:=by
      have:∀p∈l,(if p.1=k then(p.1,p.2++[x])else p)=p:=λp g=>Zk λz=>c.1 (by show a.1∈_;rw[e,<-z];exact TY g);exact(SK this).trans (List.map_id' l)
     rw[Sv,Zj e,j];simp[tot];lia
    ·have d:(l.any λp=>decide (p.1=k))=true:=by
      rw[Td,Zh e]at ha;simpa using ha
     have:=m c.2 d;rw[Sv,Zk e];simp only[tot,Sv,S2]at this ⊢;lia
  exact f st h ha
 ·rename_i ha;refine⟨?_,by simp[tot]⟩;rw[Sm,Tv];refine⟨h,by simp,λa n b i e=>?_⟩;apply ha;rw[Sv,Tw,Sg]at i;obtain⟨p,g,rfl⟩:=Si.mp n;rw[Tj];exact⟨p,g,Zg (e.trans i)⟩
theorem sV {α:Type} (l:List (Key×α)):tot (b7 l)=l.length:=by
 have c:∀(r:List (Key×α)) (a:List (Key×List α)),(a.map (·.1)).Nodup->tot (r.foldl (λa p=>bL a p.1 p.2) a)=tot a+r.length:=λr=>by
  induction r with
  | nil=>intro a _;rfl
  | cons q r b=>
   intro a h;have:=D8 (k:=q.1) (x:=q.2) h;rw[List.foldl_cons,b _ this.1,this.2,SE];lia
 have:=c l [] (by simp);simpa[b7,tot]using this
def iI {α:Type} (gs:List (List α)):Nat:=(gs.map List.length).sum
theorem zx (wss:List (List Str)) (p:Nat):iI (byW wss p)=wss.length:=by
 have h:=sV (((wAt wss p).map (Sum.inr:Str->Key)).zip wss);have e:iI (byW wss p)=tot (b7 (((wAt wss p).map (Sum.inr:Str->Key)).zip wss)):=by
  unfold iI byW grp tot;rw[SS];rfl
 rw[e,h,T5,R8];unfold wAt;rw[R8,TU]
theorem oA {n:Nat}{s l:Int}:∀{N:Nat}{wss:List (List Str)},wss≠[]->(prt n s l N wss).length<=wss.length
 | 0,wss,h=>by
  show 1<=_;exact Ug.mpr h
 | N+1,wss,h=>by
  unfold prt
  split
  ·show 1<=_;exact Ug.mpr h
  ·rename_i p _;have b:∀gs:List (List (List Str)),(∀g∈gs,g≠[])->(gs.flatMap (prt n s l N)).length<=iI gs:=λgs=>by
    induction gs with
    | nil=>intro _;exact Sb _
    | cons g gs d=>
     intro a;rw[T7,Sj];have i:=oA (n:=n) (s:=s) (l:=l) (N:=N) (a g (by simp));have f:=d λe c=>a e (by simp[c]);simp only[iI,Sv,S2]at f ⊢;lia
   have:=b (byW wss p) λg a=>(pP a).1;rw[zx]at this;exact this
theorem HE {n:Nat}{s l:Int}{N:Nat}{wss:List (List Str)}{p:Nat} (i:Nat):(((byW wss p).take i).flatMap (prt n s l N)).length<=wss.length:=by
 have c:∀gs:List (List (List Str)),(∀g∈gs,g≠[])->(gs.flatMap (prt n s l N)).length<=iI gs:=λgs=>by
  induction gs with
  | nil=>intro _;exact Sb _
  | cons g gs d=>
   intro b;rw[T7,Sj];have j:=oA (n:=n) (s:=s) (l:=l) (N:=N) (b g (by simp));have f:=d λh e=>b h (by simp[e]);simp only[iI,Sv,S2]at f ⊢;lia
 have a:∀(gs:List (List (List Str))) (i:Nat),iI (gs.take i)<=iI gs:=λgs=>by
  induction gs with
  | nil=>intro i;simp[iI]
  | cons g gs d=>
   intro i;cases i with
   | zero=>simp[iI]
   | succ i=>
    have:=d i;simp only[iI,UB,Sv,S2]at this ⊢;lia
 have j:=c ((byW wss p).take i) λg b=>(pP (TH b)).1;have f:=a (byW wss p) i;rw[zx]at f;lia
def hU (A B:Hp):Hp:=λb=>match A b with
 | some o=>some o
 | none=>B b
section
variable {A B H:Hp}
theorem N2:af A (hU A B):=λb o e=>by unfold hU;rw[e]
theorem QN (a:af A H) (b:af B H):af B (hU A B):=λc o e=>by
 unfold hU;cases q:A c with
 | none=>exact e
 | some o'=>
  have h1:=a c o' q;have h2:=b c o e;rw[h1]at h2;exact h2
theorem M3 (a:af A H) (b:af B H):af (hU A B) H:=λc o e=>by
 unfold hU at e
 split at e
 ·rename_i o' q;cases e;exact a c _ q
 ·exact b c o e
theorem xn {c:Z6} (a:A c=none) (b:B c=none):hU A B c=none:=by unfold hU;rw[a];exact b
theorem N4 {c:Z6} (h:hU A B c≠none):A c≠none\/B c≠none:=by
 unfold hU at h
 split at h
 ·rename_i o q;exact .inl (by rw[q];simp)
 ·exact .inr h
end
theorem rJ {P G:Z6}{pos:Pos}{qual:Str}{H:Hp}{xs ys:List V} (h:gU P pos qual H) (f:H G=some (.lst xs)):gU P pos qual (upd H G (.lst ys)):=by
 obtain⟨j,d,i,g⟩:=h;have a:P≠G:=λe=>by rw[e,f]at d;cases d
 refine⟨j,by rw[aq a];exact d,i,g.imp id λ⟨c,x,y⟩=>⟨c,x,?_⟩⟩;have b:c≠G:=λe=>by rw[e,f]at y;cases y
 rw[aq b];exact y
def iH (ws:List Str):List Pt:=ws.map Pt.word
def byL (rss:List (List Str)):List (List (List Str)):=grp (rss.map λws=>(Sum.inl (ws.length:Int):Key)) rss
theorem B3 {b g:List (List Str)} (h:g∈byL b):g≠[]/\g.length<=b.length/\(∀ws∈g,ws∈b)/\∃n:Nat,∀ws∈g,ws.length=n:=by
 unfold byL grp at h;obtain⟨q,j,rfl⟩:=Si.mp h;rw[zip_map]at j;have d:=vc _ q j;have c:∀ws∈q.2,ws∈b/\(Sum.inl (ws.length:Int):Key)=q.1:=λws a=>by
  obtain⟨v,k,e⟩:=Si.mp (d.of ws a);injection e with e1 e2;rw[<-e2];exact⟨k,e1⟩
 refine⟨d.ne,?_,λws a=>(c ws a).1,?_⟩
 ·have:=d.le
  rwa [R8]at this
 ·obtain⟨i,f⟩:=To _ d.ne;refine⟨i.length,λws a=>?_⟩;have:=(c ws a).2.trans (c i f).2.symm;have:=Sum.inl.inj this;lia
theorem EL (rss:List (List Str)):iI (byL rss)=rss.length:=by
 have h:=sV ((rss.map λa=>(Sum.inl (a.length:Int):Key)).zip rss);have e:iI (byL rss)=tot (b7 ((rss.map λa=>(Sum.inl (a.length:Int):Key)).zip rss)):=by
  unfold iI byL grp tot;rw[SS];rfl
 rw[e,h,T5,R8,TU]
def iD (rss:List (List Str)):Prop:=rss.length<64/\∀ws∈rss,0<ws.length/\ws.length<=12/\∀w∈ws,PtW (.word w)
def gn (g:List (List Str)):Nat:=(g.headD []).length
theorem qR {b g:List (List Str)} (h:iD b) (k:g∈byL b):GOk (gn g) g:=by
 obtain⟨j,l,i,n,f⟩:=B3 k;obtain⟨a,r,rfl⟩:∃w r,g=w::r:=by
  cases g with
  | nil=>exact(j rfl).elim
  | cons w r=>exact⟨w,r,rfl⟩
 have e:gn (a::r)=n:=f a (by simp);have:=h.2 a (i a (by simp));have m:=f a (by simp);refine⟨j,Um l h.1,by lia,by lia,λd c=>⟨by rw[e];exact f d c,(h.2 d (i d c)).2.2⟩⟩
def xc (s l:Int) (g:List (List Str)):List (List Pt):=(prt (gn g) s l 13 g).map λg'=>bu (g'.map iH) (gn g)
def gth (s l:Int) (rss:List (List Str)):List (List Pt):=(byL rss).flatMap (xc s l)
theorem Ac (s l:Int) (rss:List (List Str)) (i:Nat):(((byL rss).take i).flatMap (xc s l)).length<=rss.length:=by
 have c:∀gs:List (List (List Str)),(∀g∈gs,g≠[])->(gs.flatMap (xc s l)).length<=iI gs:=λgs=>by
  induction gs with
  | nil=>intro _;exact Sb _
  | cons g gs d=>
   intro b;rw[T7,Sj];have j:(xc s l g).length<=g.length:=by unfold xc;rw[R8];exact oA (b g (by simp))
   have f:=d λh e=>b h (by simp[e]);simp only[iI,Sv,S2]at f ⊢;lia
 have a:∀(gs:List (List (List Str))) (i:Nat),iI (gs.take i)<=iI gs:=λgs=>by
  induction gs with
  | nil=>intro i;simp[iI]
  | cons g gs d=>
   intro i;cases i with
   | zero=>simp[iI]
   | succ i=>
    have:=d i;simp only[iI,UB,Sv,S2]at this ⊢;lia
 have j:=c ((byL rss).take i) λg b=>(B3 (TH b)).1;have f:=a (byL rss) i;rw[EL]at f;lia
theorem JM {ps:List Pt} (a:ps≠[]) (h:∀p∈ps,PtW p):PtW (iO ps):=by
 cases ps with
 | nil=>exact(a rfl).elim
 | cons p r=>
  have b:=h p (by simp);show PtW (if r.all (λq=>decide (q=p))=true then p else if r.all (λq=>decide (q.around=p.around))=true then .hole p.around else .hole 2)
  split
  ·exact b
  ·split
   ·exact qh b.ok
   ·exact(by decide:2<3)
theorem Bu {n:Nat}{g:List (List Str)} (h:GOk n g):PW (bu (g.map iH) n)/\bu (g.map iH) n≠[]/\(bu (g.map iH) n).length<=12:=by
 have f:(bu (g.map iH) n).length=n:=by unfold bu;rw[R8,TK]
 refine⟨λp d=>?_,λe=>?_,by rw[f];exact h.DX⟩
 ·unfold bu at d;obtain⟨i,k,rfl⟩:=Si.mp d;have m:=S5.mp k;refine JM (λe=>h.ne (Tp.mp (Tp.mp e))) λq l=>?_;obtain⟨_,b,rfl⟩:=Si.mp l;obtain⟨ws,c,rfl⟩:=Si.mp b;have j:=h.row ws c;have a:i<ws.length:=by lia
  unfold iH;rw[Sr,Se,R9 a];exact j.2 _ (S7 a)
 ·have:=congrArg List.length e;rw[f]at this;have o:=h.pos;simp at this;lia
theorem IY {s l:Int}{g:List (List Str)} (h:GOk (gn g) g):pQ (xc s l g):=λps hps=>by
 unfold xc at hps;obtain⟨g',hg',rfl⟩:=Si.mp hps;exact Bu (j4 h g' hg')
theorem Gc {s l:Int}{rss:List (List Str)} (h:iD rss):pQ (gth s l rss):=λps hps=>by
 obtain⟨g,hg,hp⟩:=TC.mp hps;exact IY (qR h hg) ps hp
def bX {α:Type} (l:List (Key×α)):List Key:=l.foldl (λks p=>if (ks.any λq=>decide (q=p.1))=true then ks else ks++[p.1]) []
theorem MI {k:Key}{ks:List Key}:(ks.any λq=>decide (q=k))=true↔k∈ks:=by
 rw[Tj];constructor
 ·rintro⟨q,hq,e⟩;rw[<-Zi e];exact hq
 ·exactλh=>⟨k,h,Zg rfl⟩
theorem sP {α:Type}{l:List (Key×α)}{p:Key×α} (h:p.1∈bX l):bX (l++[p])=bX l:=by
 have e:bX (l++[p])=if ((bX l).any λq=>decide (q=p.1))=true then bX l else bX l++[p.1]:=by
  unfold bX;rw[Up];rfl
 rw[e,Zj (MI.mpr h)]
theorem qd {α:Type}{l:List (Key×α)}{p:Key×α} (h:p.1∉bX l):bX (l++[p])=bX l++[p.1]:=by
 have e:bX (l++[p])=if ((bX l).any λq=>decide (q=p.1))=true then bX l else bX l++[p.1]:=by
  unfold bX;rw[Up];rfl
 rw[e,Zk (λz=>h (MI.mp z))]
theorem snoc_ind {α:Type}{C:List α->Prop} (b:C []) (a:∀l x,C l->C (l++[x])) (l:List α):C l:=by
 have:∀r:List α,C r.reverse:=λr=>by
  induction r with
  | nil=>exact b
  | cons x r c=>rw[List.reverse_cons];exact a _ _ c
 have e:=this l.reverse
 rwa [List.reverse_reverse]at e
theorem qD {α:Type} (l:List (Key×α)):(bX l).Nodup:=by
 refine snoc_ind (C:=λl=>(bX l).Nodup) UC (λl p d=>?_) l;by_cases c:p.1∈bX l
 ·rw[sP c];exact d
 ·rw[qd c,Tv];refine⟨d,by simp,λa f b g=>?_⟩;rw[Sg.mp g];exactλe=>c (e ▸ f)
theorem qo {α:Type}{k:Key} (l:List (Key×α)):k∈bX l↔∃x,(k,x)∈l:=by
 refine snoc_ind (C:=λl=>k∈bX l↔∃x,(k,x)∈l) (by simp[bX]) (λl p c=>?_) l;have e:k∈bX (l++[p])↔k∈bX l\/k=p.1:=by
  by_cases b:p.1∈bX l
  ·rw[sP b];exact⟨.inl,λh=>h.elim id λz=>z ▸ b⟩
  ·rw[qd b,Sz,Sg]
 rw[e,c];constructor
 ·rintro(⟨x,a⟩ | rfl)
  ·exact⟨x,TV _ a⟩
  ·exact⟨p.2,SO _ (Sg.mpr rfl)⟩
 ·rintro⟨x,a⟩;rcases Sz.mp a with a | a
  ·exact .inl ⟨x,a⟩
  ·exact .inr (by rw[<-Sg.mp a])
def ofK {α:Type} (l:List (Key×α)) (k:Key):List α:=(l.filter λp=>decide (p.1=k)).map (·.2)
theorem um {α:Type} (l:List (Key×α)) (p:Key×α) (k:Key):ofK (l++[p]) k=if p.1=k then ofK l k++[p.2]else ofK l k:=by
 unfold ofK;rw[S8,Sm];by_cases h:p.1=k
 ·rw[Zj h];simp[h]
 ·rw[Zk h];simp[h]
theorem G1 {α:Type}{l:List (Key×α)}{k:Key} (h:k∉bX l):ofK l k=[]:=by
 unfold ofK;rw[Tp,T3];intro p hp e;have e':=Zi e;exact h ((qo l).mpr ⟨p.2,by rw[<-e'];exact hp⟩)
theorem Ep {α:Type} (l:List (Key×α)):b7 l=(bX l).map λk=>(k,ofK l k):=by
 refine snoc_ind (C:=λl=>b7 l=(bX l).map λk=>(k,ofK l k)) rfl (λl p c=>?_) l;have e:b7 (l++[p])=bL (b7 l) p.1 p.2:=by
  unfold b7;rw[Up];rfl
 rw[e,c];unfold bL;by_cases h:p.1∈bX l
 ·rw[sP h];have b:(((bX l).map λk=>(k,ofK l k)).any λq=>decide (q.1=p.1))=true:=by
   rw[Tj];exact⟨_,Si.mpr ⟨_,h,rfl⟩,Zg rfl⟩
  rw[Zj b,SS];refine SK λk a=>?_;show(if k=p.1 then(k,ofK l k++[p.2])else(k,ofK l k))=(k,ofK (l++[p]) k);rw[um];by_cases e:k=p.1
  ·rw[Zj e,Zj e.symm]
  ·rw[Zk e,Zk (YQ e)]
 ·rw[qd h];have b:¬ (((bX l).map λk=>(k,ofK l k)).any λq=>decide (q.1=p.1))=true:=by
   intro z;obtain⟨q,d,f⟩:=Tj.mp z;obtain⟨k,a,rfl⟩:=Si.mp d;have:=Zi f;exact h (this ▸ a)
  rw[Zk b,Sm]
  congr 1
  ·refine SK λk a=>?_;show(k,ofK l k)=(k,ofK (l++[p]) k);rw[um,Zk (λe:p.1=k=>h (e ▸ a))]
  ·show[(p.1,[p.2])]=[(p.1,ofK (l++[p]) p.1)];rw[um,Zj rfl,G1 h];rfl
theorem Cp {α:Type} (f:α->Key) (xs:List α):grp (xs.map f) xs=(bX (xs.map λx=>(f x,x))).map λk=>xs.filter λx=>decide (f x=k):=by
 unfold grp;rw[zip_map,Ep,SS];refine SK λk _=>?_;show ofK (xs.map λx=>(f x,x)) k=_;unfold ofK;rw[List.filter_map,SS];simp[Function.comp_def]
theorem Gq (wss:List (List Str)) (p:Nat):∃ks:List Key,ks.Nodup/\(∀k,k∈ks↔∃ws∈wss,(Sum.inr (ws.getD p Yh):Key)=k)/\byW wss p=ks.map λk=>wss.filter λws=>decide ((Sum.inr (ws.getD p Yh):Key)=k):=by
 refine⟨_,qD (wss.map λws=>((Sum.inr (ws.getD p Yh):Key),ws)),λk=>?_,?_⟩
 ·rw[qo];constructor
  ·rintro⟨x,b⟩;obtain⟨ws,a,e⟩:=Si.mp b;injection e with e1 e2;exact⟨ws,a,e1⟩
  ·rintro⟨ws,a,rfl⟩;exact⟨ws,Si.mpr ⟨ws,a,rfl⟩⟩
 ·unfold byW wAt;rw[SS];exact Cp (λws:List Str=>(Sum.inr (ws.getD p Yh):Key)) wss
theorem Fe (a:List (List Str)):∃ks:List Key,ks.Nodup/\(∀k,k∈ks↔∃ws∈a,(Sum.inl (ws.length:Int):Key)=k)/\byL a=ks.map λk=>a.filter λws=>decide ((Sum.inl (ws.length:Int):Key)=k):=by
 refine⟨_,qD (a.map λws=>((Sum.inl (ws.length:Int):Key),ws)),λk=>?_,?_⟩
 ·rw[qo];constructor
  ·rintro⟨x,c⟩;obtain⟨ws,b,e⟩:=Si.mp c;injection e with e1 e2;exact⟨ws,b,e1⟩
  ·rintro⟨ws,b,rfl⟩;exact⟨ws,Si.mpr ⟨ws,b,rfl⟩⟩
 ·exact Cp (λws:List Str=>(Sum.inl (ws.length:Int):Key)) a
theorem CG {wss:List (List Str)}{p:Nat}{ws:List Str}:(∃g∈byW wss p,ws∈g)↔ws∈wss:=by
 obtain⟨_,_,b,e⟩:=Gq wss p;rw[e];constructor
 ·rintro⟨g,a,c⟩;obtain⟨k,_,rfl⟩:=Si.mp a;exact(SM.mp c).1
 ·intro h;exact⟨_,Si.mpr ⟨_,(b _).mpr ⟨ws,h,rfl⟩,rfl⟩,SM.mpr ⟨h,Zg rfl⟩⟩
theorem Ju {rss:List (List Str)}{ws:List Str}:(∃g∈byL rss,ws∈g)↔ws∈rss:=by
 obtain⟨_,_,b,e⟩:=Fe rss;rw[e];constructor
 ·rintro⟨g,a,c⟩;obtain⟨k,_,rfl⟩:=Si.mp a;exact(SM.mp c).1
 ·intro h;exact⟨_,Si.mpr ⟨_,(b _).mpr ⟨ws,h,rfl⟩,rfl⟩,SM.mpr ⟨h,Zg rfl⟩⟩
theorem mH {n:Nat}{s l:Int}:∀{N:Nat}{wss:List (List Str)}{ws:List Str},(∃g∈prt n s l N wss,ws∈g)↔ws∈wss
 | 0,wss,ws=>by simp[prt]
 | N+1,wss,ws=>by
  unfold prt
  split
  ·simp
  ·rename_i p _;constructor
   ·rintro⟨g,e,i⟩;obtain⟨a,b,c⟩:=TC.mp e;exact CG.mp ⟨a,b,mH.mp ⟨g,c,i⟩⟩
   ·intro h;obtain⟨a,b,c⟩:=CG.mpr h;obtain⟨g,d,f⟩:=mH.mpr c;exact⟨g,TC.mpr ⟨a,b,d⟩,f⟩
def ur (n:Nat) (g g':List (List Str)):Prop:=∃(p:Nat) (w w':Str),p<n/\w≠w'/\(∀ws∈g,ws.getD p Yh=w)/\∀ws∈g',ws.getD p Yh=w'
theorem HV {n p:Nat}{wss:List (List Str)} (i:p<n):(byW wss p).Pairwise (ur n):=by
 obtain⟨_,c,f,e⟩:=Gq wss p;rw[e,Tu];refine c.imp_of_mem λ{k j} h g a=>?_;obtain⟨l,_,rfl⟩:=(f k).mp h;obtain⟨b,_,rfl⟩:=(f j).mp g;refine⟨p,_,_,i,λz:l.getD p Yh=b.getD p Yh=>a (congrArg Sum.inr z),λv d=>?_,λv d=>?_⟩
 ·exact Sum.inr.inj (Zi (SM.mp d).2)
 ·exact Sum.inr.inj (Zi (SM.mp d).2)
theorem ur.sub {n:Nat}{g g' h h':List (List Str)} (s:ur n g g') (a:∀ws∈h,ws∈g) (b:∀ws∈h',ws∈g'):ur n h h':=by
 obtain⟨p,w,f,e,c,i,j⟩:=s;exact⟨p,w,f,e,c,λws d=>i ws (a ws d),λws d=>j ws (b ws d)⟩
theorem C7 {n:Nat}{s l:Int}:∀{N:Nat}{wss:List (List Str)},(prt n s l N wss).Pairwise (ur n)
 | 0,wss=>by simp[prt]
 | N+1,wss=>by
  unfold prt
  split
  ·simp
  ·rename_i p hp;rw[List.pairwise_flatMap];refine⟨λg _=>C7,(HV (xa hp).1).imp λ{g _} c x b y d=>?_⟩;exact c.sub (λe a=>mH.mp ⟨x,b,a⟩) λe a=>mH.mp ⟨y,d,a⟩
theorem xi {n:Nat}{s l:Int}{N:Nat}{wss g:List (List Str)} (hg:g∈prt n s l N wss) {ws:List Str} (h:ws∈g):ws∈wss:=mH.mp ⟨g,hg,h⟩
theorem CA {n:Nat}{s l:Int}:∀{N:Nat}{wss:List (List Str)},mu n wss<=N->∀g∈prt n s l N wss,plc g n s l=none
 | 0,wss,hm,g,hg=>by
  rw[Sg.mp hg];cases e:plc wss n s l with
  | none=>rfl
  | some p=>
   obtain⟨a,b⟩:=xa e;have:0<mu n wss:=List.countP_pos_iff.mpr ⟨p,S5.mpr a,wA b⟩;lia
 | N+1,wss,hm,g,hg=>by
  unfold prt at hg
  split at hg
  ·rename_i e;rw[Sg.mp hg];exact e
  ·rename_i p e;obtain⟨a,b⟩:=xa e;obtain⟨_,c,d⟩:=TC.mp hg;have:=Ke a (wA b) c;exact CA (by lia) g d
theorem tu {pss:List (List Pt)}{n i:Nat} (hi:i<n):(bu pss n)[i]? = some (iO (pss.map λps=>ps.getD i (.hole 2))):=by
 unfold bu;rw[Se,List.getElem?_range hi];rfl
theorem i0 (pss:List (List Pt)) (n:Nat):(bu pss n).length=n:=by simp[bu]
theorem IB {ws:List Str}{i:Nat} (h:i<ws.length):(iH ws).getD i (.hole 2) = .word (ws.getD i Yh):=by
 unfold iH;simp[YD,Se,R9 h]
theorem GG {n i:Nat}{g:List (List Str)} (b:∀ws∈g,ws.length=n) (hi:i<n):((g.map iH).map λps=>ps.getD i (.hole 2))=(wAt g i).map Pt.word:=by
 unfold wAt;rw[SS,SS];refine SK λws a=>?_;exact IB (by rw[b ws a];exact hi)
theorem Dv {ps qs:List Pt} (n:ps≠[]) (h:∀p,p∈ps↔p∈qs):iO ps=iO qs:=by
 cases ps with
 | nil=>exact absurd rfl n
 | cons p r=>
  cases qs with
  | nil=>exact absurd ((h p).mp (Sk ..)) (by simp)
  | cons q t=>
   have i:∀{x y:Pt}{r t:List Pt},(∀p,p∈x::r↔p∈y::t)->∀f:Pt->Pt->Bool,(∀a,f a a=true)->(∀a b,f a b=true->f b a=true)->(∀a b c,f a b=true->f b c=true->f a c=true)->(r.all (λq=>f q x))=true->(t.all (λq=>f q y))=true:=λ{x y r t} h f l m k A=>by
    have u:∀z∈x::r,f z x=true:=λz g=>by
     rcases Su.mp g with rfl | g
     ·exact l _
     ·exact SJ.mp A z g
    exact SJ.mpr λz g=>k _ _ _ (u z ((h z).mpr (Sf _ g))) (m _ _ (u y ((h y).mpr (Sk ..))))
   have s:∀f:Pt->Pt->Bool,(∀a,f a a=true)->(∀a b,f a b=true->f b a=true)->(∀a b c,f a b=true->f b c=true->f a c=true)->r.all (λz=>f z p)=t.all (λz=>f z q):=λf l m k=>by
    rw[SR];exact⟨i h f l m k,i (λp=>(h p).symm) f l m k⟩
   have v:=s (λa b=>decide (a=b)) (λa=>by simp) (λa b e=>by simpa using(Zi e).symm) (λa b c e o=>by simpa using(Zi e).trans (Zi o));have w:=s (λa b=>decide (a.around=b.around)) (λa=>by simp) (λa b e=>by simpa using(Zi e).symm) (λa b c e o=>by simpa using(Zi e).trans (Zi o));unfold iO;simp only at v w ⊢;rw[<-v,<-w];by_cases d:r.all (λz=>decide (z=p))=true
   ·rw[Zj d,Zj d];rcases Su.mp ((h q).mpr (Sk ..))with e | e
    ·exact e.symm
    ·exact(Zi (SJ.mp d q e)).symm
   ·rw[Zk d,Zk d];by_cases j:r.all (λz=>decide (z.around=p.around))=true
    ·rw[Zj j,Zj j];rcases Su.mp ((h q).mpr (Sk ..))with e | e
     ·rw[e]
     ·rw[Zi (SJ.mp j q e)]
    ·rw[Zk j,Zk j]
theorem lX {n p:Nat}{w:Str}{g:List (List Str)} (a:g≠[]) (h:∀ws∈g,ws.length=n) (c:p<n) (d:∀ws∈g,ws.getD p Yh=w):(bu (g.map iH) n)[p]? = some (.word w):=by
 rw[tu c,GG h c];have e:iO ((wAt g p).map Pt.word)=iO [.word w]:=Dv (by simpa[wAt]using a) λq=>by
  rw[Sg];constructor
  ·intro i;obtain⟨z,f,rfl⟩:=Si.mp i;obtain⟨ws,b,rfl⟩:=Si.mp f;show Pt.word (ws.getD p Yh)=_;rw[d ws b]
  ·rintro rfl;obtain⟨ws,b⟩:=To _ a;exact Si.mpr ⟨w,Si.mpr ⟨ws,b,d ws b⟩,rfl⟩
 rw[e];simp[iO]
theorem yI {ws:List Str}{w:Str} (a:w∈ws) (f:∀z∈ws,dE z=true):(iO (ws.map Pt.word)).takes w=true:=by
 cases ws with
 | nil=>cases a
 | cons x r=>
  unfold iO;simp only[Sv];by_cases d:(r.map Pt.word).all (λz=>decide (z=Pt.word x))=true
  ·rw[Zj d];rcases Su.mp a with rfl | h
   ·exact Zg rfl
   ·have:=Zi (SJ.mp d _ (Si.mpr ⟨w,h,rfl⟩));injection this with this;exact Zg this
  ·rw[Zk d];by_cases c:(r.map Pt.word).all (λz=>decide (z.around=(Pt.word x).around))=true
   ·rw[Zj c];have g:dw w=dw x:=by
     rcases Su.mp a with rfl | h
     ·rfl
     ·exact Zi (SJ.mp c _ (Si.mpr ⟨w,h,rfl⟩))
    show(Pt.hole (dw x)).takes w=true;rw[<-g];have b:=f w a
    match e:dw w with
    | 0=>exact Zg e
    | 1=>exact Zg e
    | n+2=>exact b
   ·rw[Zk c];exact f w a
theorem zi {ps:List Pt}{ws:List Str} (c:ps.length=ws.length) (h:∀(i:Nat) p w,ps[i]? = some p->ws[i]? = some w->p.takes w=true):aW ps ws=true:=by
 unfold aW;rw[Zg c,TX,SJ];intro x b;obtain⟨i,a⟩:=TJ b;rw[SU]at a;exact h i _ _ a.1 a.2
theorem Bh {n:Nat}{g:List (List Str)} (a:∀ws∈g,ws.length=n/\∀w∈ws,dE w=true) {ws:List Str} (h:ws∈g):aW (bu (g.map iH) n) ws=true:=by
 have f:=(a ws h).1;refine zi (by rw[i0,f]) λi p w e j=>?_;have d:i<n:=by rw[<-f];exact aG j
 rw[tu d,GG (λv b=>(a v b).1) d]at e;cases e;refine yI (Si.mpr ⟨ws,h,by simp[YD,j]⟩) λz k=>?_;obtain⟨v,b,rfl⟩:=Si.mp k;have c:i<v.length:=by rw[(a v b).1];exact d
 refine(a v b).2 _ ?_;show v.getD i Yh∈v;simp[YD,R9 c]
theorem zq {ps:List Pt}{ws:List Str}{i:Nat}{p:Pt}{w:Str} (h:aW ps ws=true) (b:ps[i]? = some p) (a:ws[i]? = some w):p.takes w=true:=by
 unfold aW at h;have:=SJ.mp (Tt.mp h).2 (p,w) (Sd (SU.mpr ⟨b,a⟩));exact this
theorem ED {n:Nat}{g g':List (List Str)} (sp:ur n g g') (b:g≠[]) (j:∀ws∈g,ws.length=n) (c:∀ws∈g',ws.length=n) {ws:List Str} (h:ws∈g'):aW (bu (g.map iH) n) ws=false:=by
 obtain⟨p,w,w',d,f,i,l⟩:=sp;refine SI.mpr λz=>?_;have a:p<ws.length:=by rw[c ws h];exact d
 have e:=l ws h;have k:ws[p]? = some w':=by
  rw[R9 a];simp[YD,R9 a]at e;rw[e]
 have:=zq z (lX b j d i) k;exact f (Zi this).symm
theorem ur.symm {n:Nat}{g g':List (List Str)} (s:ur n g g'):ur n g' g:=by
 obtain⟨p,w,w',hp,hne,h1,h2⟩:=s;exact⟨p,w',w,hp,YQ hne,h2,h1⟩
theorem JK {n:Nat}{g g':List (List Str)} (sp:ur n g g') (c:g≠[]) (h:g'≠[]) (k:∀ws∈g,ws.length=n) (d:∀ws∈g',ws.length=n):nu (bu (g.map iH) n) (bu (g'.map iH) n)=none:=by
 obtain⟨p,w,i,e,f,j,l⟩:=sp;unfold nu;refine Zk λz=>?_;have a:=lX c k e j;have b:=lX h d e l;have:=SJ.mp z.2 (Pt.word w,Pt.word i) (Sd (SU.mpr ⟨a,b⟩));simp[HN,Pt.within,Pt.takes,f,YQ f]at this
theorem pw_all {α:Type}{R:α->α->Prop} (c:∀a b,R a b->R b a):∀{l:List α},l.Pairwise R->∀a∈l,∀b∈l,a≠b->R a b
 | [],_,a,ha,_,_,_=>by cases ha
 | x::r,h,a,ha,b,hb,hne=>by
  obtain⟨d,e⟩:=T2.mp h;rcases Su.mp ha with ea | ha'
  ·rcases Su.mp hb with eb | hb'
   ·exact absurd (ea.trans eb.symm) hne
   ·rw[ea];exact d b hb'
  ·rcases Su.mp hb with eb | hb'
   ·rw[eb];exact c _ _ (d a ha')
   ·exact pw_all c e a ha' b hb' hne
def jnG (g:List (List Str)):List Pt:=bu (g.map iH) (gn g)
def grs (s l:Int) (rss:List (List Str)):List (List (List Str)):=(byL rss).flatMap λg=>prt (gn g) s l 13 g
theorem MB {n:Nat}{g:List (List Str)} (hne:g≠[]) (h:∀ws∈g,ws.length=n):gn g=n:=by
 cases g with
 | nil=>exact absurd rfl hne
 | cons a r=>exact h a (Sk ..)
theorem GOk.gn {n:Nat}{g:List (List Str)} (h:GOk n g):gn g=n:=MB h.ne λws hw=>(h.row ws hw).1
theorem BN {s l:Int}{a:List (List Str)} (h:iD a):gth s l a=(grs s l a).map jnG:=by
 unfold gth grs xc;rw[List.map_flatMap];rw[List.flatMap_def,List.flatMap_def]
 congr 1
 refine SK λg d=>SK λb c=>?_;have:=(j4 (qR h d) b c).gn;show _=bu (b.map iH) (LG.gn b);rw[this]
theorem nC {s l:Int}{b g:List (List Str)} (h:iD b) (i:g∈grs s l b):GOk (gn g) g/\plc g (gn g) s l=none:=by
 obtain⟨_,f,d⟩:=TC.mp i;have c:=qR h f;have a:=j4 c g d;have e:=a.gn;rw[e];refine⟨a,CA (Sl (Kg _ _) (Sl c.DX (by decide))) g d⟩
theorem wJ {s l:Int}{rss:List (List Str)}{ws:List Str}:(∃g∈grs s l rss,ws∈g)↔ws∈rss:=by
 rw[<-Ju];constructor
 ·rintro⟨g,e,h⟩;obtain⟨a,b,c⟩:=TC.mp e;exact⟨a,b,xi c h⟩
 ·rintro⟨a,b,c⟩;obtain⟨g,d,f⟩:=mH.mpr c;exact⟨g,TC.mpr ⟨a,b,d⟩,f⟩
def Sep (g g':List (List Str)):Prop:=gn g≠gn g'\/(gn g=gn g'/\ur (gn g) g g')
theorem Iq {a:List (List Str)}:(byL a).Pairwise λg g'=>∀ws∈g,∀ws'∈g',ws.length≠ws'.length:=by
 obtain⟨_,c,_,e⟩:=Fe a;rw[e,Tu];refine c.imp λ{k _} b ws h ws' f z=>?_;have d:=Zi (SM.mp h).2;have i:=Zi (SM.mp f).2;rw[z]at d;exact b (d.symm.trans i)
theorem wN {s l:Int}{c:List (List Str)} (h:iD c):(grs s l c).Pairwise Sep:=by
 unfold grs;rw[List.pairwise_flatMap];constructor
 ·intro g d;refine C7.imp_of_mem λ{x y} e f r=>?_;have o:=(j4 (qR h d) x e).gn;have p:=(j4 (qR h d) y f).gn;exact .inr ⟨by rw[o,p],by rw[o];exact r⟩
 ·refine Iq.imp_of_mem λ{g _} d k q x e y f=>.inl λz=>?_;have i:=j4 (qR h d) x e;have j:=j4 (qR h k) y f;obtain⟨a,n⟩:=To _ i.ne;obtain⟨b,m⟩:=To _ j.ne;refine q a (xi e n) b (xi f m) ?_;rw[(i.row a n).1,(j.row b m).1,<-i.gn,<-j.gn,z]
theorem Sep.symm {g g':List (List Str)} (s:Sep g g'):Sep g' g:=s.elim (λh=>.inl h.symm) λh=>.inr ⟨h.1.symm,by rw[<-h.1];exact h.2.symm⟩
theorem L0 {g g':List (List Str)} (s:Sep g g') (o:GOk (gn g) g) (o':GOk (gn g') g'):nu (jnG g) (jnG g')=none:=by
 rcases s with h | ⟨c,d⟩
 ·unfold nu jnG;refine Zk λz=>h ?_;have:=z.1
  rwa [i0,i0]at this
 ·unfold jnG;rw[<-c];exact JK d o.ne o'.ne (λb a=>(o.row b a).1) λb a=>by rw[c];exact(o'.row b a).1
theorem Gb {g g':List (List Str)} (s:Sep g g') (o:GOk (gn g) g) (o':GOk (gn g') g') {ws:List Str} (a:ws∈g'):aW (jnG g) ws=false:=by
 rcases s with h | ⟨b,c⟩
 ·refine SI.mpr λz=>h ?_;unfold aW at z;have:=Zi (Tt.mp z).1;unfold jnG at this;rw[i0,(o'.row ws a).1]at this;exact this
 ·exact ED c o.ne (λws a=>(o.row ws a).1) (λws a=>by rw[b];exact(o'.row ws a).1) a
theorem Gm {w:Str} (h:PtW (.word w)):dE w=true:=h.1
theorem tW {s l:Int}{d g:List (List Str)} (h:iD d) (m:g∈grs s l d) {ws:List Str} (i:ws∈d):aW (jnG g) ws=true↔ws∈g:=by
 have o:=(nC h m).1;constructor
 ·intro j;obtain⟨k,f,c⟩:=wJ (s:=s) (l:=l).mpr i;by_cases e:g=k
  ·rw[e];exact c
  ·have p:=pw_all (λa b q=>Sep.symm q) (wN (s:=s) (l:=l) h) g m k f e;rw[Gb p o (nC h f).1 c]at j;cases j
 ·exactλc=>Bh (λv n=>⟨(o.row v n).1,λw i=>Gm ((o.row v n).2 w i)⟩) c
theorem JE {s l:Int}{rss:List (List Str)} (h:iD rss):(gth s l rss).Pairwise λp q=>nu p q=none:=by
 rw[BN h,Tu];exact(wN h).imp_of_mem λ{a b} ha hb sp=>L0 sp (nC h ha).1 (nC h hb).1
theorem Ay {a b:List Str} (d:a.Perm b) (h:UpS a) (h':UpS b):a=b:=by
 refine map_inj (f:=PyData.str) (λx y e=>by injection e) ?_;refine uI (Sh.ok .str) (λx c=>?_) (d.map _) ?_ ?_
 ·obtain⟨z,_,rfl⟩:=Si.mp c;exact⟨z,rfl⟩
 ·rw[Tu];exact h
 ·rw[Tu];exact h'
theorem BB {ps qs:List Pt} (h:ic ps qs=true):nu ps qs≠none:=by
 unfold ic at h;obtain⟨b,a⟩:=Tt.mp h;unfold nu;rw[Zj ⟨Zi b,SJ.mpr λx c=>by
  have:=SJ.mp a x c;unfold HN;rw[Zj this];rfl⟩]
 simp
end LG
namespace L2
open PySem
end L2
namespace LG
open PySem L2
theorem Gj {zs ms:List Str} (hp:ms.Perm (fP [] zs)) {z:Str}:z∈ms↔z∈zs:=by
 rw[hp.mem_iff,j5];simp
theorem Mj {zs ms:List Str} (hp:ms.Perm (fP [] zs)):ms.length<=zs.length:=by
 rw[hp.length_eq];exact sN zs
theorem xA {zs ms:List Str} (e:ms.Perm (fP [] zs)) (f:zs.length<64) (hz:∀z∈zs,∃ws,ir 12 z ws):iD (ms.map λz=>Y4 z " "):=by
 have:=Mj e;refine⟨by rw[R8];lia,λws c=>?_⟩;obtain⟨z,b,rfl⟩:=Si.mp c;obtain⟨ws,a⟩:=hz z ((Gj e).mp b);rw[a.split];exact⟨a.pos,a.le,λw d=>⟨(a.wd w d).word,Sl (a.wd w d).len (by decide),(a.wd w d).ok⟩⟩
section
variable {s l:Int}{zs ms:List Str}{g:List (List Str)}
theorem G4 {α:Type}{f:α->Bool}:∀{l:List α},l.Pairwise (λa b=>f a=true->f b=true->False)->(∃a∈l,f a=true)->(l.filter f).length=1
 | [],_,h=>by obtain⟨a,i,_⟩:=h;cases i
 | x::r,hp,h=>by
  obtain⟨j,m⟩:=T2.mp hp;by_cases d:f x=true
  ·rw[TL d];have:r.filter f=[]:=T3.mpr λb k g=>j b k d g;rw[this];rfl
  ·rw[TM d];refine G4 m ?_;obtain⟨a,i,c⟩:=h;rcases Su.mp i with e | e
   ·exact absurd (e ▸ c) d
   ·exact⟨a,e,c⟩
theorem Ga {ps:List (List Pt)}{z:Str} (m:ms.Perm (fP [] zs)) (c:iD (ms.map λz=>Y4 z " ")) (f:ps.Perm (gth s l (ms.map λz=>Y4 z " "))) (hz:z∈zs):(ps.filter λp=>aW p (Y4 z " ")).length=1:=by
 have h:Y4 z " " ∈ ms.map λz=>Y4 z " " :=Si.mpr ⟨z,(Gj m).mpr hz,rfl⟩;rw[(f.filter _).length_eq,BN c,List.filter_map,R8];obtain⟨g,i,q⟩:=wJ (s:=s) (l:=l).mpr h;refine G4 ((wN c).imp_of_mem λ{a b} o j k n r=>?_) ⟨g,i,(tW c i h).mpr q⟩;have e:=(tW c j h).mp r;have:=Gb k (nC c o).1 (nC c j).1 e;have d:aW (jnG a) (Y4 z " ")=true:=n;rw[this]at d;cases d
end
end LG
namespace L2
open PySem PySem.Spec PyProof.Rows PySem.W
section
variable {X:Cx}{pins:List (Z6×Obj)}{σ:St}{H:Hp}{s:Vx}
end
end L2
namespace LG
open PySem L2
section
variable {wss:List (List Str)}{s l:Int}{n:Nat}
end
theorem uf (us:List Str):∃ms:List Str,ms.Perm us/\UpS ms:=by
 have o:=Sh.ok .str;have d:∀x:Str,Sh.str.has (.str x):=λx=>⟨x,rfl⟩;refine⟨us.mergeSort λx y=>!ltv (.str y) (.str x),List.mergeSort_perm _ _,?_⟩;refine(List.pairwise_mergeSort (λa b c f g=>?_) (λa b=>?_) us).imp λ{a b} h=>by simpa using h
 ·cases q:ltv (.str c) (.str a)with
  | false=>rfl
  | true=>
   rcases o.neg (d c) (d b) (d a) q with e | e
   ·rw[e]at g;cases g
   ·rw[e]at f;cases f
 ·cases q:ltv (.str b) (.str a)with
  | false=>rfl
  | true=>rw[o.asymm (d b) (d a) q];rfl
def nV (i:Nat):V:=V.int (i:Int)
noncomputable def Ei (zs:List Str):List Str:=(uf (fP [] zs)).choose
theorem xN (zs:List Str):(Ei zs).Perm (fP [] zs)/\UpS (Ei zs):=(uf (fP [] zs)).choose_spec
theorem O1 {zs ms:List Str} (hp:ms.Perm (fP [] zs)) (hu:UpS ms):ms=Ei zs:=Ay (hp.trans (xN zs).1.symm) hu (xN zs).2
noncomputable def KJ (s l:Int) (zs:List Str):List (List Pt):=gth s l ((Ei zs).map λz=>Y4 z " ")
noncomputable def vE (s l:Int) (zs:List Str) (z:Str):Bool:=!((KJ s l zs).any λp=>aW p (Y4 z " "))
noncomputable def Ry (s l:Int) (zs:List Str) (n:Nat):List Nat:=(Y7 n).filter λi=>vE s l (zs.take i) (zs.getD i Yh)
theorem Fx {α:Type}{f:α->Bool}{a b:List α} (h:a.Perm b):a.any f=b.any f:=by
 rw[SR,Tj,Tj];exact⟨λ⟨x,h1,h2⟩=>⟨x,h.mem_iff.mp h1,h2⟩,λ⟨x,h1,h2⟩=>⟨x,h.mem_iff.mpr h1,h2⟩⟩
theorem GA {s l:Int}{zs ms:List Str}{z:Str}{ps:List (List Pt)} (b:ms.Perm (fP [] zs)) (c:UpS ms) (a:ps.Perm (gth s l (ms.map λz=>Y4 z " "))):vE s l zs z = !(ps.any λp=>aW p (Y4 z " ")):=by
 unfold vE KJ;rw[<-O1 b c,Fx a]
theorem AG {α:Type}{f:α->Bool} (l:List α):(l.filter f).isEmpty = !(l.any f):=by
 induction l with
 | nil=>rfl
 | cons a l b=>
  rw[Td];cases h:f a with
  | true=>rw[TL h];rfl
  | false=>rw[TM (by rw[h];decide),b];rfl
theorem Hh {s l:Int}{zs:List Str}{z:Str} (d:zs.length<64) (hz:∀z∈zs,∃ws,ir 12 z ws) (h:z∈zs):vE s l zs z=false:=by
 obtain⟨e,_⟩:=xN zs;have c:=xA e d hz;have g:=Ga (s:=s) (l:=l) e c (Z4 _) h;unfold vE KJ;have:=AG (f:=λp=>aW p (Y4 z " ")) (gth s l ((Ei zs).map λz=>Y4 z " "));rw[<-this];cases q:(gth s l ((Ei zs).map λz=>Y4 z " ")).filter λp=>aW p (Y4 z " ")with
 | nil=>rw[q]at g;cases g
 | cons a b=>rfl
def oP:Option (List Pt)->Zb
 | none=>.none
 | some ps=>bx ps
def Bb (r:Int×Str):Zb:=.tuple [.int r.1,.str r.2]
def Dq (bs:List (List Pt)) (z:Str) (o:Option (List Pt)):Prop:=(bs.filter (cL z)=[]/\o=none)\/∃p,o=some p/\An (bs.filter (cL z)) p
def CK (bs fs:List (List Pt)) (z:Str) (o:Option (List Pt)):Prop:=(∃p,o=some p/\An (bs.filter (cL z)) p)\/(bs.filter (cL z)=[]/\Dq fs z o)
def BV (bs fs:List (List Pt)) (zs:List Str) (os:List (Option (List Pt))):Prop:=os.length=zs.length/\∀(i:Nat) z o,zs[i]? = some z->os[i]? = some o->CK bs fs z o
structure m4 (s l:Int) (zs:List Str) (ps:List (List Pt)):Prop where
 ex:∃ms:List Str,ms.Perm (fP [] zs)/\UpS ms/\ps.Perm (gth s l (ms.map λz=>Y4 z " "))
 ord:zf ps
 ok:pQ ps
 lt:ps.length<64
def oM (bs:List (List Pt)) (zs:List Str):List Str:=zs.filter λz=>(bs.filter (cL z)).isEmpty
section
variable {K:Vz}{H H':Hp}{g C dx:Z6}{fs:List (Str×V)}
theorem Hc {a:Z6}{o:HO} (h:H g=some (.ins C dx fs)) (r:Rd H a o) (n:∀C dx fs,o ≠ .ins C dx fs):Rd (wo g H) a o:=by
 rcases r with r | ⟨b,r⟩
 ·exact .inl (by rw[au λe=>by rw[e,h]at r;cases r;exact n _ _ _ rfl];exact r)
 ·exact .inr ⟨b,by rw[au λe=>by rw[e,h]at r;cases r];exact r⟩
theorem Jl {a:Z6}{xs:List V} (h:H g=some (.ins C dx fs)) (r:SqL K H a xs):SqL K (wo g H) a xs:=by
 rcases r with r | r
 ·exact .inl (Hc h r λ_ _ _ e=>by cases e)
 ·exact .inr r
theorem rE {a:Z6}{xs:List V} (h:H g=some (.ins C dx fs)) (r:SqT K H a xs):SqT K (wo g H) a xs:=by
 rcases r with r | r
 ·exact .inl (Hc h r λ_ _ _ e=>by cases e)
 ·exact .inr r
theorem uz {v:List V}{d:List Zb} (h:H g=some (.ins C dx fs)) (r:aE K H v d):aE K (wo g H) v d:=r.keep (λ_ _ q=>Jl h q) λ_ _ q=>rE h q
theorem JB {P:Z6}{pos:Pos}{qual:Str}{k f:Z6}{fs':List (Str×V)} (h:gU P pos qual H) (i:H g=some (.ins C dx fs)):gU P pos qual (upd H g (.ins k f fs')):=by
 obtain⟨m,d,l,j⟩:=h;have a:P≠g:=λe=>by rw[e,i]at d;cases d
 refine⟨m,by rw[aq a];exact d,l,j.imp id λ⟨c,x,y⟩=>⟨c,x,?_⟩⟩;have b:c≠g:=λe=>by rw[e,i]at y;cases y
 rw[aq b];exact y
theorem eG {P:Z6}{pos:Pos}{qual:Str}{b a:Z6}{fs':List (Str×V)}{p:Hp->Prop} (d:gU P pos qual H) (e:H g=some (.ins C dx fs)) (k:∀H',H' g=some (.ins b a fs')->(∀c,c≠g->H' c=H c)->gU P pos qual H'->p H'):p (upd H g (.ins b a fs')):=k _ ab (λc h=>aq h) (JB d e)
theorem fF {a:Z6} (o:HO) (h:H a=none):∃H',upd H a o=H'/\af H H'/\H' a=some o:=⟨_,rfl,af.new h,ab⟩
theorem AA {a e:Z6} (B:Z6) (h:H a=none) (h':H e=none) (n:e≠a):∃H',upd (upd H e (.own a)) a (.ins B e [])=H'/\af H H'/\H' a=some (.ins B e []):=⟨_,rfl,(af.new h').trans (af.new (by rw[aq n.symm];exact h)),ab⟩
theorem Ap {xs:List V}{f:List (Int×Str)}{i:Nat}{x:V} (h:aE K H xs (f.map Bb)) (hx:xs[i]? = some x):∃r t,f[i]? = some r/\x = .ref t/\SqT K H t [.int r.1,.str r.2]/\Y1 r.2=true:=by
 obtain⟨d,c,g⟩:=h.get hx;rw[Se]at c;cases e:f[i]? with
 | none=>rw[e]at c;cases c
 | some r=>
  rw[e]at c;cases c;cases g with
  | tup k c=>
   cases c with
   | cons a t=>
    cases t with
    | cons b t=>
     cases t;cases a;cases b with
     | str j=>exact⟨r,_,rfl,rfl,k,j⟩
theorem wV {xs:List V}{b:List (Option (List Pt))}{i:Nat}{x:V} (h:aE K H xs (b.map oP)) (hx:xs[i]? = some x):∃o,b[i]? = some o/\Den K H x (oP o):=by
 obtain⟨d,a,c⟩:=h.get hx;rw[Se]at a;cases e:b[i]? with
 | none=>rw[e]at a;cases a
 | some o=>rw[e]at a;cases a;exact⟨o,rfl,c⟩
theorem A1 {x:V}{o:Option (List Pt)} (h:Den K H x (oP o)):decide (x = .non)=o.isNone:=by
 cases o with
 | none=>cases h;rfl
 | some ps=>cases h;exact Zh (by intro e;cases e)
theorem zL {bs:List (List Pt)}{z:Str}{r:V} (h:Km K H H' (bs.filter (cL z)) r):∃o,Dq bs z o/\Den K (lim H H') r (oP o):=by
 rcases h with⟨e,rfl⟩ | ⟨t,_,a,rfl,_,_,c,b⟩
 ·exact⟨none,.inl ⟨e,rfl⟩,.non⟩
 ·exact⟨some a,.inr ⟨a,rfl,c⟩,b⟩
end
theorem pG {K:Vz}{Ha Hb T:Hp}{x P:Z6}{v:List V}{ds:List Zb} (d:aE K (lim Ha Hb) v ds) (hx:∃C dx fs,lim Ha Hb x=some (.ins C dx fs)) (a:∃ps,lim Ha Hb P=some (.tbl ps))
  (h:∀b o,b≠x->b≠P->(∀zs,Ha b≠some (.lst zs))->Hb b=some o->T b=some o):aE K T v ds:=by
 obtain⟨C,dx,fs,hx⟩:=hx;obtain⟨ps,a⟩:=a;have c:P≠x:=λe=>by rw[e,hx]at a;cases a
 have d2:=yC (P:=P) (ps:=ps) (by rw[au c];exact a) (uz hx d);refine d2.same λb o e=>?_;obtain⟨g,e⟩:=aZ e;obtain⟨i,e⟩:=aZ e;have f:=iY e;rw[bK f]at e;exact h b o i g f e
theorem Co {K:Vz}{Ha Hb T:Hp}{x P:Z6}{v:V}{ds:Zb} (d:Den K (lim Ha Hb) v ds) (hx:∃C dx fs,lim Ha Hb x=some (.ins C dx fs)) (c:∃ps,lim Ha Hb P=some (.tbl ps))
  (h:∀b o,b≠x->b≠P->(∀zs,Ha b≠some (.lst zs))->Hb b=some o->T b=some o):Den K T v ds:=by
 cases pG (.cons d .nil) hx c h with
 | cons a _=>exact a
theorem GY {H H2 H3:Hp}{F:Z6}{ys:List V} (s:af H H2) (hF:H2 F=some (.lst ys)):af (lim H2 H3) (wo F (lim H H3)):=λb o e=>by
 have a:=iY e;rw[bK a]at e;rw[au λz=>a ys (by rw[z];exact hF),bK λc z=>a c (s _ _ z)];exact e
theorem rD {H H3:Hp}{F:Z6}{o:HO}:wo F (lim H (upd H3 F o))=wo F (lim H H3):=by
 funext b
 by_cases e:b=F
 ·rw[e,eJ,eJ]
 ·rw[au e,au e];unfold lim
  split
  ·rfl
  ·exact aq e
theorem Dq.none {bs:List (List Pt)}{z:Str}{o:Option (List Pt)} (h:Dq bs z o):o.isNone=(bs.filter (cL z)).isEmpty:=by
 rcases h with⟨e,rfl⟩ | ⟨p,rfl,b⟩
 ·rw[e];rfl
 ·cases hf:bs.filter (cL z)with
  | nil=>rw[hf]at b;cases b.1
  | cons a r=>rfl
theorem m4.news {s l:Int}{zs:List Str}{ps:List (List Pt)}{z:Str} (h:m4 s l zs ps):vE s l zs z = !(ps.any (cL z)):=by
 obtain⟨ms,a,b,c⟩:=h.ex;exact GA a b c
def core (H:Hp):Hp:=λc=>match H c with | some (.ins _ _ _)=>none | some (.tbl _)=>none | o=>o
theorem GI {H:Hp}{c:Z6}{o:HO} (h:core H c=some o):H c=some o/\(∀C dx fs,o ≠ .ins C dx fs)/\∀ps,o ≠ .tbl ps:=by
 unfold core at h
 split at h
 ·cases h
 ·cases h
 ·rename_i h1 h2;refine⟨h,λC dx fs e=>?_,λps e=>?_⟩
  ·subst e;exact h1 _ _ _ h
  ·subst e;exact h2 _ h
theorem CO {H:Hp}{c:Z6}{o:HO} (h:H c=some o) (h1:∀C dx fs,o ≠ .ins C dx fs) (h2:∀ps,o ≠ .tbl ps):core H c=some o:=by
 unfold core
 split
 ·rename_i e;rw[h]at e;cases e;exact(h1 _ _ _ rfl).elim
 ·rename_i e;rw[h]at e;cases e;exact(h2 _ rfl).elim
 ·exact h
theorem Ct {H:Hp}{a:Z6}{o:HO} (r:Rd H a o) (h1:∀C dx fs,o ≠ .ins C dx fs) (h2:∀ps,o ≠ .tbl ps):Rd (core H) a o:=by
 rcases r with r | ⟨b,r⟩
 ·exact .inl (CO r h1 h2)
 ·exact .inr ⟨b,CO r (λ_ _ _ e=>by cases e) λ_ e=>by cases e⟩
theorem Df {K:Vz}{H:Hp}{v:List V}{d:List Zb} (r:aE K H v d):aE K (core H) v d:=by
 refine r.keep (λa b q=>?_) λa b q=>?_
 ·rcases q with q | q
  ·exact .inl (Ct q (λ_ _ _ e=>by cases e) λ_ e=>by cases e)
  ·exact .inr q
 ·rcases q with q | q
  ·exact .inl (Ct q (λ_ _ _ e=>by cases e) λ_ e=>by cases e)
  ·exact .inr q
structure StV where
 rs:List (Int×Str)
 bs:List (List Pt)
 fs:List (List Pt)
 os:List (Option (List Pt))
def StV.zs (v:StV):List Str:=v.rs.map (·.2)
structure StV.Ok (v:StV) (s l:Int):Prop where
 gth:m4 s l (oM v.bs v.zs) v.fs
 fls:BV v.bs v.fs v.zs v.os
 lns:∀q∈v.rs,∃ws,ir 12 q.2 ws
 hnd:pQ v.bs
 rl:v.rs.length<64
 bl:v.bs.length<64
structure km where
 s:Int
 l:Int
 cur:StV
 ah:StV
 past:List (List (Int×Str)×List (List Pt))
 tbk:List (List (Int×Str)×List (List Pt))
def DW (K:Vz) (C:Z6) (B:Hp) (st:Z6) (v:StV):Prop:=∃(dx r b f fl:Z6) (rv bv fv lv:List V),B st=some (.ins C dx [("rows",.ref r),("by_hand",.ref b),("found",.ref f),("falls",.ref fl)]) /\
 B r=some (.lst rv)/\aE K B rv (v.rs.map Bb)/\B b=some (.lst bv)/\aE K B bv (v.bs.map bx)/\B f=some (.lst fv)/\aE K B fv (v.fs.map bx)/\B fl=some (.lst lv)/\aE K B lv (v.os.map oP)
theorem DW.same {K:Vz}{C:Z6}{B B':Hp}{st:Z6}{v:StV} (h:DW K C B st v) (s:af B B'):DW K C B' st v:=by
 obtain⟨j,r,b,f,n,k,l,p,o,i,q,d,m,c,e,a,g,t⟩:=h;exact⟨j,r,b,f,n,k,l,p,o,s _ _ i,s _ _ q,d.same s,s _ _ m,c.same s,s _ _ e,a.same s,s _ _ g,t.same s⟩
def HeldAt (K:Vz) (B:Hp) (x:V) (h:List (Int×Str)×List (List Pt)):Prop:=∃(t r b:Z6) (rv bv:List V),x = .ref t/\SqT K B t [.ref r,.ref b]/\B r=some (.lst rv)/\aE K B rv (h.1.map Bb)/\B b=some (.lst bv)/\aE K B bv (h.2.map bx)
theorem HeldAt.same {K:Vz}{B B':Hp}{x:V}{h:List (Int×Str)×List (List Pt)} (a:HeldAt K B x h) (s:af B B'):HeldAt K B' x h:=by
 obtain⟨t,r,b,g,j,e,f,k,d,i,c⟩:=a;exact⟨t,r,b,g,j,e,s.gL f,s _ _ k,d.same s,s _ _ i,c.same s⟩
def gq (K:Vz) (B:Hp) (xs:List V) (l:List (List (Int×Str)×List (List Pt))):Prop:=xs.length=l.length/\∀(i:Nat) x h,xs[i]? = some x->l[i]? = some h->HeldAt K B x h
section
variable {K:Vz}{B B':Hp}{xs:List V}{x:V}{l:List (List (Int×Str)×List (List Pt))}{h:List (Int×Str)×List (List Pt)}
theorem gq.same (a:gq K B xs l) (s:af B B'):gq K B' xs l:=⟨a.1,λi x h h1 h2=>(a.2 i x h h1 h2).same s⟩
theorem gq.nil:gq K B [] []:=⟨rfl,λi x h e=>by cases e⟩
theorem gq.snoc (a:gq K B xs l) (b:HeldAt K B x h):gq K B (xs++[x]) (l++[h]):=by
 refine⟨by rw[Sj,Sj,a.1];rfl,λi y k c d=>?_⟩;by_cases f:i<xs.length
 ·rw[SW f]at c;rw[SW (a.1 ▸ f)]at d;exact a.2 i y k c d
 ·have e:i=xs.length:=by
   have:=aG c;rw[Sj,Sw]at this;lia
  rw[e,S1 (Sb _),US]at c;rw[e,a.1,S1 (Sb _),US]at d;cases c;cases d;exact b
end
def bO (K:Vz) (CL CS:Z6) (B H:Hp) (g pa tb:Z6) (v:km):Prop:=∃(dx t st ah:Z6) (pv tv:List V),H g=some (.ins CL dx [("sieve",.ref t),("state",.ref st),("ahead",.ref ah),("past",.ref pa),("taken_back",.ref tb)]) /\
 H pa=some (.lst pv)/\H tb=some (.lst tv)/\af B H/\B g=none/\B pa=none/\B tb=none/\pa≠tb/\SqT K B t [.int v.s,.int v.l]/\DW K CS B st v.cur/\DW K CS B ah v.ah/\gq K B pv v.past/\gq K B tv v.tbk/\v.cur.Ok v.s v.l/\v.ah.Ok v.s v.l
section
variable {K:Vz}{CL CS:Z6}{B B' H H':Hp}{g pa tb d:Z6}{v:km}
theorem bO.grow (h:bO K CL CS B H g pa tb v) (s:af B B') (s':af B' H') (j:B' g=none) (w:B' pa=none) (m:B' tb=none) (l:H' g=H g) (ep:H' pa=H pa) (p:H' tb=H tb):bO K CL CS B' H' g pa tb v:=by
 obtain⟨q,t,u,n,pv,r,i,o,f,_,_,_,_,x,k,a,b,c,e,d⟩:=h;exact⟨q,t,u,n,pv,r,l.trans i,ep.trans o,p.trans f,s',j,w,m,x,s.gL k,a.same s,b.same s,c.same s,e.same s,d⟩
theorem bO.to (h:bO K CL CS B H g pa tb v) (s':af B H') (e:H' g=H g) (ep:H' pa=H pa) (f:H' tb=H tb):bO K CL CS B H' g pa tb v:=by
 have b:=h;obtain⟨_,t,_,_,pv,_,_,_,_,_,c,d,a,_⟩:=b;exact h.grow (af.refl B) s' c d a e ep f
theorem bO.same (h:bO K CL CS B H g pa tb v) (s:af H H'):bO K CL CS B H' g pa tb v:=by
 have d:=h;obtain⟨_,t,_,_,pv,_,b,c,a,e,_⟩:=d;exact h.to (e.trans s) ((s _ _ b).trans b.symm) ((s _ _ c).trans c.symm) ((s _ _ a).trans a.symm)
theorem bO.wo (h:bO K CL CS B H g pa tb v) (j:B d=none) (f:d≠g) (n2:d≠pa) (i:d≠tb) (s:af (wo d H) H'):bO K CL CS B H' g pa tb v:=by
 have e:=h;obtain⟨_,t,_,_,pv,_,b,c,a,k,_⟩:=e;exact h.to ((gm j k).trans s) ((s _ _ (by rw[au f.symm];exact b)).trans b.symm) ((s _ _ (by rw[au n2.symm];exact c)).trans c.symm) ((s _ _ (by rw[au i.symm];exact a)).trans a.symm)
end
def nxt (B H H':Hp) (g pa tb:Z6):Hp:=λc=>if c=g\/c=pa\/c=tb then none else match H c with | some (.lst _)=>B c | some (.ins _ _ _)=>B c | some (.tbl _)=>B c | _=>H' c
section
variable {B H H':Hp}{g pa tb c:Z6}{o:HO}
theorem JC (a:c≠g) (n2:c≠pa) (b:c≠tb) (h:(∃ys,H c=some (.lst ys))\/(∃C dx fs,H c=some (.ins C dx fs))\/∃ps,H c=some (.tbl ps)):nxt B H H' g pa tb c=B c:=by
 unfold nxt;rw[Zk (λe=>e.elim a λe=>e.elim n2 b)];rcases h with⟨_,e⟩ | ⟨_,_,_,e⟩ | ⟨_,e⟩ <;> rw[e]
theorem iJ (b:c≠g) (n2:c≠pa) (d:c≠tb) (h1:∀ys,H c≠some (.lst ys)) (h2:∀C dx fs,H c≠some (.ins C dx fs)) (a:∀ps,H c≠some (.tbl ps)):nxt B H H' g pa tb c=H' c:=by
 unfold nxt;rw[Zk (λe=>e.elim b λe=>e.elim n2 d)]
 split
 ·rename_i e;exact(h1 _ e).elim
 ·rename_i e;exact(h2 _ _ _ e).elim
 ·rename_i e;exact(a _ e).elim
 ·rfl
theorem rK:nxt B H H' g pa tb g=none/\nxt B H H' g pa tb pa=none/\nxt B H H' g pa tb tb=none:=by
 unfold nxt;exact⟨Zj (.inl rfl),Zj (.inr (.inl rfl)),Zj (.inr (.inr rfl))⟩
theorem Ab (j:af B H) (h:B g=none) (f:B pa=none) (d:B tb=none) (s:∀c o,B c=some o->H' c=some o):af B (nxt B H H' g pa tb):=λc o e=>by
 have a:c≠g:=λz=>by rw[z,h]at e;cases e
 have i:c≠pa:=λz=>by rw[z,f]at e;cases e
 have b:c≠tb:=λz=>by rw[z,d]at e;cases e
 unfold nxt;rw[Zk (λz=>z.elim a λz=>z.elim i b)]
 split
 ·exact e
 ·exact e
 ·exact e
 ·exact s c o e
theorem A4 (s:∀c o,B c=some o->H' c=some o):af (nxt B H H' g pa tb) H':=λc o e=>by
 unfold nxt at e
 split at e
 ·cases e
 ·split at e
  ·exact s c o e
  ·exact s c o e
  ·exact s c o e
  ·exact e
end
def sJ (o:HO):Prop:=(∃ys,o = .lst ys)\/(∃C dx fs,o = .ins C dx fs)\/∃ps,o = .tbl ps
theorem xM {B H H':Hp}{g pa tb c:Z6}{o:HO} (i:B c=none) (h:H c=some o) (m:sJ o):nxt B H H' g pa tb c=none:=by
 have a:=rK (B:=B) (H:=H) (H':=H') (g:=g) (pa:=pa) (tb:=tb);by_cases b:c=g
 ·rw[b];exact a.1
 by_cases f:c=pa
 ·rw[f];exact a.2.1
 by_cases d:c=tb
 ·rw[d];exact a.2.2
 rw[JC b f d ?_]
 ·exact i
 ·rcases m with⟨_,e⟩ | ⟨_,_,_,e⟩ | ⟨_,e⟩
  ·exact .inl ⟨_,by rw[h,e]⟩
  ·exact .inr (.inl ⟨_,_,_,by rw[h,e]⟩)
  ·exact .inr (.inr ⟨_,by rw[h,e]⟩)
theorem rM {K:Vz}{Ha Hb T:Hp}{v:List V}{ds:List Zb} (d:aE K (lim Ha Hb) v ds) (h:∀c o,(∀ys,Ha c≠some (.lst ys))->Hb c=some o -> ¬ sJ o\/(∃ys,o = .lst ys)->(∀C dx fs,o ≠ .ins C dx fs)->(∀ps,o ≠ .tbl ps)->T c=some o):aE K T v ds:=by
 refine(Df d).same λc o e=>?_;obtain⟨e,a,f⟩:=GI e;have b:=iY e;rw[bK b]at e;refine h c o b e ?_ a f;by_cases q:∃ys,o = .lst ys
 ·exact .inr q
 ·exact .inl λm=>m.elim q λm=>m.elim (λ⟨_,_,_,z⟩=>a _ _ _ z) λ⟨_,z⟩=>f _ z
theorem JJ {xs:List V}{x:V}:atI (xs++[x]) (-1)=some x:=by
 unfold atI ixN;rw[Zk (by lia),Zj (by rw[Sj];simp;lia)];show(xs++[x])[(-1+((xs++[x]).length:Int)).toNat]? = some x;rw[Sj,show(-1+((xs.length + [x].length:Nat):Int)).toNat=xs.length by simp;lia];simp
theorem Ht {ps:List (List Pt)}{z:Str}:(ps.filter (cL z)).isEmpty = !(ps.any (cL z)):=by
 induction ps with
 | nil=>rfl
 | cons a r b=>
  rw[TR,Td];cases h:cL z a with
  | true=>rfl
  | false=>simpa using b
theorem bO.gg {K:Vz}{CL CS:Z6}{B H:Hp}{g pa tb:Z6}{v:km} (h:bO K CL CS B H g pa tb v):∃dx t st ah,H g=some (.ins CL dx [("sieve",.ref t),("state",.ref st),("ahead",.ref ah),("past",.ref pa),("taken_back",.ref tb)]):=by
 obtain⟨dx,t,st,ah,_,_,a,_⟩:=h;exact⟨dx,t,st,ah,a⟩
theorem bO.okc {K:Vz}{CL CS:Z6}{B H:Hp}{g pa tb:Z6}{v:km} (h:bO K CL CS B H g pa tb v):v.cur.Ok v.s v.l:=by
 obtain⟨_,_,_,_,_,_,_,_,_,_,_,_,_,_,_,_,_,_,_,okc,_⟩:=h;exact okc
def mV (K:Vz):Sp:=λvs H Q _=>∃(c:Int) (m:Nat),vs=[.int c,.int m]/\m<10000/\∀d H',H d=none->af H H'->Dk H' d m->Q (.ref d) H'
def EZ:Pt->Bool
 | .word w=>dE w
 | .hole _=>true
def uc (K:Vz):Sp:=λvs H Q _=>∃(v:V) (p:Pt),vs=[v]/\Den K H v p.dat/\p.ok/\Q (.bl (EZ p)) H
def m6 (K:Vz):Sp:=λvs H Q _=>∃(v:V) (ps:List Pt),vs=[v]/\Den K H v (bx ps)/\(∀p∈ps,p.ok)/\1<=ps.length/\ps.length<=12/\(∀p∈ps,EZ p=true)/\∀H',af H H'->Q (.bl true) H'
theorem xW {pss:List (List Pt)}{ps:List Pt} (h:∀q∈pss,∀p∈q,p.ok) (c:∀p∈ps,p.ok):((pss.map bx).any λe=>Yd e (bx ps))=decide (ps∈pss):=by
 rw[List.any_map]
 induction pss with
 | nil=>rfl
 | cons a r b=>
  rw[Td,b λq d=>h q (Sf _ d)];show(Yd (bx a) (bx ps) || _)=_;rw[wx (h a (Sk ..)) c,SR,Bool.or_eq_true,decide_eq_true_eq,decide_eq_true_eq,decide_eq_true_eq,Su];exact⟨λz=>z.imp Eq.symm id,λz=>z.imp Eq.symm id⟩
theorem PtW.okP {p:Pt} (h:PtW p):p.ok/\EZ p=true:=by
 cases p with
 | word w=>exact⟨⟨Sl h.2.1 (by decide),h.2.2⟩,h.1⟩
 | hole k=>exact⟨h,rfl⟩
structure RE (h:List (Int×Str)×List (List Pt)):Prop where
 rl:h.1.length<64
 lns:∀q∈h.1,∃ws,ir 12 q.2 ws
 bl:h.2.length<64
 hnd:pQ h.2
section
variable {K:Vz}{CL CS P:Z6}{B H Ha Hb H5 H6:Hp}{g pa tb:Z6}{v:km}
theorem Ey {C dx:Z6}{fs:List (Str×V)}{pv tv:List V}{l:List V}{ds:List Zb} (a:af H Ha) (s:af Ha Hb) (k:H g=some (.ins C dx fs)) (i:H pa=some (.lst pv)) (h:H tb=some (.lst tv)) (d:aE K (lim Ha Hb) l ds):aE K (nxt B H Hb g pa tb) l ds:=
 rM d λc o f b _ j p=>by
  have n:c≠g:=λe=>by rw[e,s _ _ (a _ _ k)]at b;cases b;exact j _ _ _ rfl
  have m:c≠pa:=λe=>f _ (by rw[e];exact a _ _ i);have r:c≠tb:=λe=>f _ (by rw[e];exact a _ _ h);rw[iJ n m r (λq e=>f q (a _ _ e)) (λC _ fs e=>?_) (λ_ e=>?_)]
  ·exact b
  ·have:=s _ _ (a _ _ e);rw[b]at this;cases this;exact j _ _ _ rfl
  ·have:=s _ _ (a _ _ e);rw[b]at this;cases this;exact p _ rfl
end
theorem EA {s l:Int}{a:List (List Str)} (h:iD a):(gth s l a).Nodup:=by
 refine(JE h).imp_of_mem λ{p q} f _ d e=>?_;subst e;refine BB (ps:=p) (qs:=p) (Dt rfl λi x y b c=>?_) d;rw[b]at c;cases c;exact Ai (((Gc h) p f).1 x (Sd b))
theorem m4.nodup {s l:Int}{zs:List Str}{ps:List (List Pt)} (h:m4 s l zs ps) (d:zs.length<64) (hz:∀z∈zs,∃ws,ir 12 z ws):ps.Nodup:=by
 obtain⟨_,a,b,c⟩:=h.ex;exact c.nodup_iff.mpr (EA (xA a d hz))
theorem m4.fit {s l:Int}{zs:List Str}{ps:List (List Pt)} (h:m4 s l zs ps) (j:zs.length<64) (hz:∀z∈zs,∃ws,ir 12 z ws) {p:List Pt} (r:p∈ps):∃z∈zs,cL z p=true:=by
 obtain⟨o,a,b,c⟩:=h.ex;have k:=xA a j hz;have e:=c.mem_iff.mp r;rw[BN k]at e;obtain⟨g,f,rfl⟩:=Si.mp e;obtain⟨ws,m⟩:=To _ (nC k f).1.ne;have d:ws∈o.map λz=>Y4 z " " :=wJ.mp ⟨g,f,m⟩;have n:=(tW k f d).mpr m;obtain⟨z,i,rfl⟩:=Si.mp d;refine⟨z,?_,n⟩;rcases j5.mp (a.mem_iff.mp i)with q | q
 ·cases q
 ·exact q
section
variable {v:StV}{s l:Int}
theorem StV.Ok.off (h:v.Ok s l):(oM v.bs v.zs).length<64/\∀z∈oM v.bs v.zs,∃ws,ir 12 z ws:=by
 constructor
 ·have c:(oM v.bs v.zs).length<=v.zs.length:=S0 _ _;have d:v.zs.length=v.rs.length:=by unfold StV.zs;rw[R8]
  have:=h.rl;lia
 ·intro z a;have a:=(SM.mp a).1;unfold StV.zs at a;obtain⟨q,b,rfl⟩:=Si.mp a;exact h.lns q b
theorem StV.Ok.len (h:v.Ok s l):v.os.length=v.rs.length:=by
 rw[h.fls.1];unfold StV.zs;rw[R8]
theorem StV.Ok.MP (h:v.Ok s l) {i:Nat}{r:Int×Str}{o:Option (List Pt)} (n:v.rs[i]? = some r) (f:v.os[i]? = some o):∃p,o=some p/\p∈v.bs++v.fs/\cL r.2 p=true:=by
 have b:v.zs[i]? = some r.2:=by unfold StV.zs;rw[Se,n];rfl
 rcases h.fls.2 i _ _ b f with⟨p,e,a⟩ | ⟨m,j⟩
 ·have:=SM.mp a.1;exact⟨p,e,Sz.mpr (.inl this.1),this.2⟩
 ·rcases j with⟨k,_⟩ | ⟨p,e,a⟩
  ·have g:r.2∈oM v.bs v.zs:=SM.mpr ⟨Sd b,by rw[m];rfl⟩;have c:=Hh (s:=s) (l:=l) h.off.1 h.off.2 g;rw[h.gth.news]at c;have d:=Ht (ps:=v.fs) (z:=r.2);rw[k,c]at d;cases d
  ·have:=SM.mp a.1;exact⟨p,e,Sz.mpr (.inr this.1),this.2⟩
theorem StV.Ok.nodup (h:v.Ok s l) (i:v.bs.Nodup):(v.bs++v.fs).Nodup:=by
 rw[Tv];refine⟨i,h.gth.nodup h.off.1 h.off.2,λp d q f e=>?_⟩;subst e;obtain⟨z,c,g⟩:=h.gth.fit h.off.1 h.off.2 f;have a:=(SM.mp c).2;have b:=SM.mpr ⟨d,g⟩;rw[Uu]at a;rw[a]at b;cases b
end
def jb (lo hi:Int) (x:(Int×Str)×Option (List Pt)):Bool:=decide (lo<=x.1.1/\x.1.1<hi)
def StV.rf (v:StV):List ((Int×Str)×Option (List Pt)):=v.rs.zip v.os
def cnt (v:StV) (lo hi:Int) (p:List Pt):Nat:=(v.rf.filter (jb lo hi)).countP λx=>decide (x.2=some p)
theorem oN {α:Type}{f g h q:α->Bool}:∀{l:List α},(∀x∈l,h x=(f x || g x))->(∀x∈l,f x=true->g x=false)->(l.filter f).countP q+(l.filter g).countP q=(l.filter h).countP q
 | [],_,_=>rfl
 | a::l,e,d=>by
  have i:=oN (q:=q) (λx b=>e x (Sf _ b)) λx b=>d x (Sf _ b);have c:=e a (Sk ..);have d1:=d a (Sk ..);rw[TR,TR,TR];cases hf:f a <;> cases hg:g a <;> rw[hf,hg]at c <;> simp only[c,UO,Bool.or_true,Bool.true_or,Bool.false_or,if_true,if_false,SQ,Ti] <;> first | lia | (rw[hf,hg]at d1;exact absurd (d1 rfl) (by simp))
theorem Ed {v:StV}{lo a hi:Int}{p:List Pt} (h1:lo<=a) (h2:a<=hi):cnt v lo a p+cnt v a hi p=cnt v lo hi p:=by
 refine oN (λx _=>?_) λx _ b=>?_
 ·unfold jb;rw[SR,Bool.or_eq_true,decide_eq_true_eq,decide_eq_true_eq,decide_eq_true_eq];lia
 ·unfold jb at *;rw[decide_eq_true_eq]at b;exact Zh (by lia)
theorem cnt_none {v:StV}{lo hi:Int}{p:List Pt} (h:hi<=lo):cnt v lo hi p=0:=by
 unfold cnt;rw[T3.mpr λx _=>?_]
 ·rfl
 ·unfold jb;rw[decide_eq_true_eq];lia
theorem wu {ps:List (List Pt)} (d:ps.Nodup):∀{l:List ((Int×Str)×Option (List Pt))},(∀x∈l,∃p∈ps,x.2=some p)->(ps.map λp=>l.countP λx=>decide (x.2=some p)).sum=l.length
 | [],_=>by
  have:∀ps:List (List Pt),(ps.map λp=>([]:List ((Int×Str)×Option (List Pt))).countP λx=>decide (x.2=some p)).sum=0:=λps=>by
   induction ps with
   | nil=>rfl
   | cons a r g=>rw[Sv,S2,g];rfl
  exact this ps
 | a::l,h=>by
  have g:=wu d (l:=l) λx j=>h x (Sf _ j);obtain⟨q,k,e⟩:=h a (Sk ..);have f:∀ps:List (List Pt),ps.Nodup->(ps.map λp=>(a::l).countP λx=>decide (x.2=some p)).sum=(ps.map λp=>l.countP λx=>decide (x.2=some p)).sum+if q∈ps then 1 else 0:=λps d=>by
   induction ps with
   | nil=>rfl
   | cons b r i=>
    obtain⟨m,n⟩:=Tq.mp d;rw[Sv,S2,Sv,S2,i n,Ti,e];by_cases c:q=b
    ·subst c;simp[m];lia
    ·have:(some q=some b)↔False:=⟨λz=>c (Ye z),False.elim⟩;simp[c];lia
  rw[f ps d,Zj k,g,SE]
theorem Js {v:StV}{s l lo hi:Int} (h:v.Ok s l) (c:v.bs.Nodup):((v.bs++v.fs).map λp=>cnt v lo hi p).sum=(v.rf.filter (jb lo hi)).length:=by
 refine wu (h.nodup c) λx a=>?_;have a:=(SM.mp a).1;obtain⟨i,hi⟩:=TJ a;unfold StV.rf at hi;rw[SU]at hi;obtain⟨p,e,b,_⟩:=h.MP hi.1 hi.2;exact⟨p,b,e⟩
end LG
namespace K26
open PySem L2 LG
set_option genSizeOf false in
set_option genInjectivity false in
structure Ad where
 HZ:Z6
 Ih:Z7
 jH:Z6
 jT:Z7
 jx:Z6
 jn:Z7
 ma:Z6
 mI:Z7
 fO:Z6
 fN:Z7
 pY:Z6
 p9:Z7
 kE:Z6
 jE:Z7
 p8:Z6
 p7:Z7
 jK:Z6
 jI:Z7
 fH:Z6
 fJ:Z7
 jS:Z6
 kh:Z7
 lP:Z6
 lJ:Z7
 Bt:Z6
 BO:Z7
 dc:Z6
 dg:Z7
 ji:Z6
 jc:Z7
 tS:Z6
 sf:Z7
 m9:Z6
 nJ:Z7
 jg:Z6
 i9:Z7
 jv:Z6
 jw:Z7
 mw:Z6
 mD:Z7
 ie:Z6
 iF:Z7
 fW:Z6
 fY:Z7
 d8:Z6
 d9:Z7
 eR:Z6
 cS:Z7
 jD:Z6
 jr:Z7
 eO:Z6
 eL:Z7
 nN:Z6
 nM:Z7
 d6:Z6
 d5:Z7
 lM:Z6
 lY:Z7
 i5:Z6
 i7:Z7
 lS:Z6
 l5:Z7
 fR:Z6
 fL:Z7
 k4:Z6
 lU:Z7
 cN:Z6
 cM:Z7
 lC:Z6
 lR:Z7
 iQ:Z6
 iM:Z7
 lc:Z6
 lZ:Z7
 jM:Z6
 ka:Z7
 iu:Z6
 iy:Z7
 kA:Z6
 j9:Z7
 kT:Z6
 lG:Z7
 eP:Z6
 eM:Z7
 J6:Z6
 J1:Z7
 fq:Z6
 gZ:Z7
 j8:Z6
 nq:Z7
 vK:Z6
 Eb:Z7
 y8:Z6
 Hy:Z7
 jU:Z6
 ny:Z7
 bF:Z6
 b8:Z7
 fZ:Z6
 i4:Z7
 eA:Z6
 gj:Z7
 jJ:Z6
 nK:Z7
 mh:Z6
 qf:Z7
 t9:Z6
 AN:Z7
 qu:Z6
 zj:Z7
 bZ:Z6
 cK:Z7
 iZ:Z6
 lr:Z7
 dP:Z6
 fm:Z7
 iV:Z6
 lA:Z7
 bV:Z6
 jf:Z6
 aT:Z6
 be:Z6
 MV:Z6
 aB:Z6
structure Tx (K:Vz) (mg:Str->Option Vy) (A:Ad):Prop where
 Ie:mg "ValueError" = none
 Am:mg "all" = none
 Ni:mg "any" = none
 zH:mg "enumerate" = none
 OP:mg "int" = none
 g5:mg "isinstance" = none
 dv:mg "len" = none
 nr:mg "list" = none
 Oh:mg "max" = none
 J0:mg "min" = none
 g6:mg "range" = none
 E7:mg "set" = none
 kU:mg "sorted" = none
 Ko:mg "str" = none
 Ck:mg "sum" = none
 Ce:mg "tuple" = none
 vw:mg "zip" = none
 wW:∃t,mg "MOST_WORDS" = some (.int 12 t)
 EK:∃t,mg "FIGURES" = some (.str DE t)
 rc:∃t,mg "SMALL_LETTERS" = some (.str Dg t)
 xy:∃t,mg "WORD_SIGNS" = some (.str vz t)
 xb:∃t,mg "MOST_PARTS" = some (.int 12 t)
 kg:mg "HOLE_KINDS" = some (.ref A.bV)
 jR:∀H,SqT K H A.bV [.str "number",.str "name",.str "any"]
 yf:∃o,K.lookup A.bV=some o/\o.cls = .type "tuple" /\ o.dict=none
 HD:mg "PLAIN_SIEVE" = some (.ref A.jf)
 HB:∀H,SqT K H A.jf [.int 3,.int 2]
 HC:∃o,K.lookup A.jf=some o/\o.cls = .type "tuple" /\ o.dict=none
 wB:∃t,mg "MOST_LINES" = some (.int 120 t)
 si:∃t,mg "MOST_BY_HAND" = some (.int 12 t)
 Ro:bz K mg "_wall" (top 0) ["k"] A.HZ A.Ih
 el:bz K mg "has_only" (top 13) ["text","signs"] A.jH A.jT
 gh:bz K mg "is_word" (top 14) ["thing"] A.jx A.jn
 jY:bz K mg "kind_of" (top 15) ["word"] A.ma A.mI
 words_of:bz K mg "words_of" (top 16) ["line"] A.fO A.fN
 rC:bz K mg "is_line" (top 17) ["thing"] A.pY A.p9
 jt:bz K mg "word_key" (top 18) ["word"] A.kE A.jE
 rF:bz K mg "is_part" (top 22) ["thing"] A.p8 A.p7
 jG:bz K mg "is_pattern" (top 23) ["thing"] A.jK A.jI
 cC:bz K mg "is_hole" (top 24) ["part"] A.fH A.fJ
 ke:bz K mg "part_takes" (top 25) ["part","word"] A.jS A.kh
 mE:bz K mg "all_taken" (top 26) ["parts","words"] A.lP A.lJ
 fits:bz K mg "fits" (top 27) ["pattern","line"] A.Bt A.BO
 cD:bz K mg "kind_of_hole_around" (top 28) ["part"] A.dc A.dg
 iR:bz K mg "joined_part" (top 29) ["parts"] A.ji A.jc
 joined:bz K mg "joined" (top 30) ["patterns"] A.tS A.sf
 oo:bz K mg "part_key" (top 31) ["part"] A.m9 A.nJ
 kW:bz K mg "pattern_key" (top 32) ["pattern"] A.jg A.i9
 ordered:bz K mg "ordered" (top 33) ["patterns"] A.jv A.jw
 kC:bz K mg "grouped" (top 36) ["rows","keys"] A.mw A.mD
 eD:bz K mg "words_at" (top 37) ["group","place"] A.ie A.iF
 fe:bz K mg "many_unlike_at" (top 38) ["group","place"] A.fW A.fY
 dq:bz K mg "is_fit_to_part_at" (top 39) ["group","place","sieve"] A.d8 A.d9
 dU:bz K mg "place_to_part_at" (top 40) ["group","sieve"] A.eR A.cS
 parted:bz K mg "parted" (top 41) ["group","sieve"] A.jD A.jr
 dX:bz K mg "pattern_of_group" (top 42) ["group"] A.eO A.eL
 gathered:GU K mg "gathered" (top 43) ["lines","sieve"] A.nN A.nM
 dh:bz K mg "looseness_of_part" (top 45) ["part"] A.d6 A.d5
 qb:bz K mg "looseness" (top 46) ["pattern"] A.lM A.lY
 dz:bz K mg "falls_under" (top 47) ["line","patterns"] A.i5 A.i7
 mj:bz K mg "how_often" (top 51) ["things"] A.lS A.l5
 ff:bz K mg "words_in_order" (top 52) ["words"] A.fR A.fL
 fU:bz K mg "_law_deck" (top 56) ["cell","turn"] A.k4 A.lU
 ao:bz K mg "_law_pick" (top 57) ["deck","many"] A.cN A.cM
 mf:bz K mg "_law_kind" (top 58) ["word"] A.lC A.lR
 fQ:bz K mg "_law_word" (top 59) ["deck"] A.iQ A.iM
 mF:bz K mg "_law_line" (top 60) ["deck","most"] A.lc A.lZ
 jV:bz K mg "_law_lines" (top 61) ["deck","most"] A.jM A.ka
 g9:bz K mg "_law_pattern" (top 62) ["deck","line"] A.iu A.iy
 jQ:bz K mg "_law_sieve" (top 63) ["deck"] A.kA A.j9
 bp:bz K mg "_law_many" (top 64) ["log","low","high"] A.kT A.lG
 dS:bz K mg "_law_spans_right" (top 65) ["log","moments","cuts"] A.eP A.eM
 nI:gX K "__init__" "State.__init__" (mIn 53 0) ["self","sieve","rows","by_hand"] A.fq A.gZ
 zI:F6 K "__init__" "Log.__init__" (mIn 54 0) ["self","sieve"] A.j8 A.nq
 O4:gX K "__len__" "Log.__len__" (mIn 54 1) ["self"] A.vK A.Eb
 QP:gX K "__eq__" "Log.__eq__" (mIn 54 2) ["self","other"] A.y8 A.Hy
 yr:gX K "held" "Log.held" (mIn 54 3) ["self"] A.jU A.ny
 d7:gX K "rows_with_falls" "Log.rows_with_falls" (mIn 54 4) ["self"] A.bF A.b8
 qT:gX K "turn_to" "Log.turn_to" (mIn 54 5) ["self","held"] A.fZ A.i4
 l3:gX K "do_deed" "Log.do_deed" (mIn 54 6) ["self","rows","by_hand"] A.eA A.gj
 zS:gX K "come" "Log.come" (mIn 54 7) ["self","moment","line"] A.jJ A.nK
 Cc:gX K "put" "Log.put" (mIn 54 8) ["self","pattern"] A.mh A.qf
 ML:gX K "back" "Log.back" (mIn 54 10) ["self"] A.t9 A.AN
 Mq:gX K "again" "Log.again" (mIn 54 11) ["self"] A.qu A.zj
 dW:gX K "patterns" "Log.patterns" (mIn 54 13) ["self"] A.bZ A.cK
 vH:gX K "under" "Log.under" (mIn 54 14) ["self","number"] A.iZ A.lr
 ix:gX K "counts" "Log.counts" (mIn 54 16) ["self","low","high"] A.dP A.fm
 vA:gX K "holes" "Log.holes" (mIn 54 17) ["self","pattern"] A.iV A.lA
 Cb:mg "State" = some (.ref A.aT)
 bP:Cls K A.aT
 MN:Nb K A.aT
 zk:Mk K A.aT A.fq
 eu:bS K A.aT "rows"
 cE:bS K A.aT "by_hand"
 iE:bS K A.aT "found"
 iz:bS K A.aT "falls"
 MA:mg "Log" = some (.ref A.be)
 a8:Cls K A.be
 Qd:Nb K A.be
 K0:Mk K A.be A.j8
 Lm:kR K A.be "__len__" A.vK
 Mr:kR K A.be "__eq__" A.y8
 zw:kR K A.be "held" A.jU
 eZ:kR K A.be "rows_with_falls" A.bF
 rT:kR K A.be "turn_to" A.fZ
 lT:kR K A.be "do_deed" A.eA
 Aj:kR K A.be "come" A.jJ
 BS:kR K A.be "put" A.mh
 Kd:kR K A.be "back" A.t9
 HI:kR K A.be "again" A.qu
 cX:kR K A.be "patterns" A.bZ
 xu:kR K A.be "under" A.iZ
 gf:kR K A.be "counts" A.dP
 xI:kR K A.be "holes" A.iV
 ki:bS K A.be "sieve"
 bg:bS K A.be "state"
 pq:bS K A.be "ahead"
 qI:bS K A.be "past"
 iP:bS K A.be "taken_back"
 lam:LQ K mg A.cS A.MV A.aB
section
variable {P:Z9}{w:Za}{K:Vz}{mg:Str->Option Vy}{base:Heap}{A:Ad}
theorem yM:aD ["text","signs"] ["text","signs"] (ag (top 13)):=by refine⟨rfl,rfl,rfl,?_,rfl,?_,?_⟩<;>decide +kernel
theorem qL (T:Tx K mg A):aA P w K mg base CX0 1 A.jH A.jT ["text","signs"] (lN K):=by
 refine T.el.fn.ok yM (λd H Q E h=>?_) (λ_ _ _ s H d Q E _ h=>?_)
 ·obtain⟨z,y,rfl,_⟩:=h;rfl
 ·obtain⟨z,y,rfl,c,k⟩:=h;refine⟨_,ak (aC (nR (cQ m5 (pv 0) aJ (aQ _)) (kY (cQ iS (ee Yw PySem.F.slot_str_strip PySem.F.type_str_strip Dz (pv 0) (aa (pv 1) ae)) aJ (aQ _))))),?_⟩;refine⟨_,rfl,rfl,_,rfl,?_⟩;have e:=HU z y;by_cases b:z.cps.toList.isEmpty=true
  ·have a:(!decide (V.str z=V.str ""))=false:=by rw[px,b];rfl
   rw[a,Bool.false_and]at e;rw[a,Zk Ss,e];exact k
  ·have a:(!decide (V.str z=V.str ""))=true:=by rw[px,SI.mpr b];rfl
   rw[a,TX]at e;rw[a,Zj rfl];refine⟨_,rfl,rfl,_,rfl,z,y,rfl,rfl,c.s,rfl,?_⟩;rw[e];exact k
theorem BE:aD ["thing"] ["thing"] (ag (top 14)):=by refine⟨rfl,rfl,rfl,?_,rfl,?_,?_⟩<;>decide +kernel
theorem nz (T:Tx K mg A):aA P w K mg base CX0 2 A.jx A.jn ["thing"] (kB K):=by
 have d:aA P w K mg base CX0 1 _ _ _ _:=(qL T).mono (by decide);refine T.gh.fn.ok BE (λb H Q E h=>?_) (λ_ _ _ s H b Q E c h=>?_)
 ·obtain⟨z,rfl,_⟩:=h;rfl
 ·obtain⟨z,rfl,a,k⟩:=h;refine⟨_,ak (aC (nR (aH (r:=LH K) yp (by rfl) T.g5 gc (aa (pv 0) (aa (rO (v:=.ty "str") (by rfl) T.Ko GH rfl) ae))) (kY (ar d c (by rfl) T.el.mg T.el.fn.kp T.el.bd .nil ay (aa (pv 0) (aa (gp (v:=.str vz) (by rfl) (YI T.xy) ⟨_,rfl⟩) ae)))))),?_⟩;refine⟨_,rfl,_,"str",_,true,rfl,.str z,by rfl,_,rfl,b9 ?_⟩;refine⟨_,rfl,z,vz,rfl,a,?_⟩;rw[DO];exact k
theorem BZ:aD ["word"] ["word"] (ag (top 15)):=by refine⟨rfl,rfl,rfl,?_,rfl,?_,?_⟩<;>decide +kernel
theorem tU (T:Tx K mg A):aA P w K mg base CX0 2 A.ma A.mI ["word"] (nQ K):=by
 have f:aA P w K mg base CX0 1 _ _ _ _:=(qL T).mono (by decide);refine T.jY.fn.ok BZ (λg H Q E h=>?_) (λ_ _ _ s H g Q E d h=>?_)
 ·obtain⟨z,rfl,_⟩:=h;rfl
 ·obtain⟨z,rfl,c,k⟩:=h;refine⟨_,aj (bB (cU (ar f d (by rfl) T.el.mg T.el.fn.kp T.el.bd .nil ay (aa (ee Yw PySem.F.slot_str_removeprefix PySem.F.type_str_removeprefix FK (pv 0) (aa aJ ae)) (aa (gp (v:=.str DE) (by rfl) (YI T.EK) ⟨_,rfl⟩) ae)))) (ak (aC aJ)) aO)
   (aj (bB (cU (ar f d (by rfl) T.el.mg T.el.fn.kp T.el.bd .nil ay (aa (pv 0) (aa (gp (v:=.str Dg) (by rfl) (YI T.rc) ⟨_,rfl⟩) ae)))) (ak (aC aJ)) aO)
   (ak (aC aJ))),?_⟩
  refine⟨_,rfl,rfl,z,"-",rfl,rfl,c.s,_,DE,rfl,Sl (EJ z) c,_,rfl,?_⟩;rw[Hl,yE];have e:dw z=if dZ dig (bE z.cps.toList)=true then 0 else if dZ low z.cps.toList=true then 1 else 2:=rfl;rw[e]at k;by_cases a:dZ dig (bE z.cps.toList)=true
  ·rw[a,Zj rfl]at k;rw[a];exact b9 k
  ·rw[Zk a]at k;rw[SI.mpr a];refine br ?_;refine⟨_,rfl,z,Dg,rfl,c,_,rfl,?_⟩;rw[FA];by_cases b:dZ low z.cps.toList=true
   ·rw[Zj b]at k;rw[b];exact b9 k
   ·rw[Zk b]at k;rw[SI.mpr b];exact br k
theorem yR:aD ["line"] ["line"] (ag (top 16)):=by refine⟨rfl,rfl,rfl,?_,rfl,?_,?_⟩<;>decide +kernel
theorem iU (T:Tx K mg A):aA P w K mg base CX0 1 A.fO A.fN ["line"] (gB K):=by
 refine T.words_of.fn.ok yR (λc H Q E h=>?_) (λ_ _ _ s H c Q E _ h=>?_)
 ·obtain⟨z,rfl,_⟩:=h;rfl
 ·obtain⟨z,rfl,a,k⟩:=h;refine⟨_,ak (aC (ee Yw PySem.F.slot_str_split PySem.F.type_str_split uh (pv 0) (aa aJ ae))),?_⟩;exact⟨_,rfl,rfl,z," ",rfl,rfl,by decide +kernel,Sl (T8 a 2) (by decide),λl b=>k l b⟩
theorem Bn:aD ["part"] ["part"] (ag (top 24)):=by refine⟨rfl,rfl,rfl,?_,rfl,?_,?_⟩<;>decide +kernel
theorem ij (T:Tx K mg A):aA P w K mg base CX0 1 A.fH A.fJ ["part"] (fX K):=by
 refine T.cC.fn.ok Bn (λf H Q E h=>?_) (λ_ _ _ s H f Q E _ h=>?_)
 ·obtain⟨v,c,rfl,_⟩:=h;rfl
 ·obtain⟨v,c,rfl,d,k⟩:=h;obtain⟨a,x,y,rfl,e,_,_,b⟩:=qg d;refine⟨_,ak (aC (cQ iS (bi (r:=m8 K) fA (pv 0) ap (λ_ _=>rfl)) aJ (aQ _))),?_⟩;refine⟨_,rfl,a,_,0,_,rfl,rfl,e,rfl,rfl,?_⟩;cases c with
  | word w=>
   obtain⟨rfl,_⟩:=b;rw[Zh (by decide)];exact k
  | hole m=>
   obtain⟨rfl,_⟩:=b;rw[Zg rfl];exact k
theorem uW:aD ["part","word"] ["part","word"] (ag (top 25)):=by refine⟨rfl,rfl,rfl,?_,rfl,?_,?_⟩<;>decide +kernel
theorem uU (T:Tx K mg A):aA P w K mg base CX0 3 A.jS A.kh ["part","word"] (mY K):=by
 have n:aA P w K mg base CX0 2 _ _ _ _:=(ij T).mono (by decide);have t:aA P w K mg base CX0 2 _ _ _ _:=(nz T).mono (by decide);have u:aA P w K mg base CX0 2 _ _ _ _:=(tU T).mono (by decide);refine T.ke.fn.ok uW (λz H Q E h=>?_) (λ_ _ _ s H z Q E d h=>?_)
 ·obtain⟨v,x,p,rfl,_⟩:=h;rfl
 ·obtain⟨v,x,p,rfl,g,f,i,k⟩:=h;obtain⟨a,_,l,o,c,_,_,j⟩:=qg g;refine⟨_,aj (bB (ip (cU (ar n d (by rfl) T.cC.mg T.cC.fn.kp T.cC.bd .nil ay (aa (pv 0) ae)))) (ak (aC (cQ iS (pv 1) (bi (r:=m8 K) fA (pv 0) ap (λ_ _=>rfl)) (aQ _)))) aO)
   (aj (bB (aP iS (bi (r:=m8 K) fA (pv 0) ap (λ_ _=>rfl)) aJ (aQ _)) (ak (aC (ar t d (by rfl) T.gh.mg T.gh.fn.kp T.gh.bd .nil ay (aa (pv 1) ae)))) aO)
   (ak (aC (cQ iS (ar u d (by rfl) T.jY.mg T.jY.fn.kp T.jY.bd .nil ay (aa (pv 1) ae)) (bi (r:=m8 K) fA (pv 0) ap (λ_ _=>rfl)) (aQ _))))),?_⟩
  refine⟨_,rfl,v,p,rfl,g,_,rfl,?_⟩;subst o;cases p with
  | word y=>
   obtain⟨rfl,rfl⟩:=j;refine b9 ⟨_,rfl,_,rfl,a,_,1,_,rfl,rfl,c,rfl,rfl,?_⟩;have e:decide (V.str x=V.str l)=(Pt.word l).takes x:=by
    rw[SR];simp[Pt.takes]
   rw[e];exact k
  | hole m=>
   obtain⟨rfl,rfl⟩:=j;have q:m<3:=f;refine br ?_;refine⟨_,rfl,a,_,1,_,rfl,rfl,c,rfl,rfl,_,rfl,?_⟩;rw[zv q];by_cases b:m=2
   ·rw[Zg b];refine b9 ?_;subst b;exact⟨_,rfl,x,rfl,i,k⟩
   ·rw[Zh b];refine br ?_;refine⟨_,rfl,x,rfl,i,_,rfl,a,_,1,_,rfl,rfl,c,rfl,rfl,?_⟩;have e:(Pt.hole m).takes x=decide (dw x=m):=by
     have:m=0\/m=1:=by lia
     rcases this with rfl | rfl <;> rfl
    rw[EI (k:=m) (by lia),<-e];exact k
end
end K26
namespace L2
open PySem PySem.Spec PyProof.Rows PySem.W
def Mu (T:Z6) (H:Hp):Prop:=∀b,H b=none\/(∃o xs,H b=some (.frz o (.lst xs)))\/(b=T/\H b=some (.tbl #[]))
theorem Dx {P:Z9}{w:Za}{K:Vz}{mg C:Str->Option Vy}{k:Nat}{M a c T:Z6}{fd:Z7}{x:Str}{sp:Sp}{s₁:Vx}{vs:List Vy}{ns:List Int}
  (X:K.In s₁.heap) (hT:s₁.heap.get? T=some (tabObj #[])) (hc:CodeHd s₁.heap c T) (D:K.lookup T=none)
  (J:s₁.heap.Ns mainGlobals mg) (f:s₁.heap.Ns builtinsNs C) (E:∀x:Str,x ≠ "__name__" -> C x=bootBuiltins x) (Qb:s₁.heap.NoLimit) (hg:s₁.gens = #[])
  (l:s₁.heap.get? a=some { cls:=.type "list",data:=.seq vs.toArray }) (hi:IntsAre vs ns) (W:ns.length<=Zc) (hr:bI k callerA)
  (F:∀base:Heap,aA P w K mg base CX0 k M fd [x] sp) (Y:∀(s:Vx) (u:Vy),BindsTo s fd ⟨[u],[]⟩ [(x,u)])
  (B:∀H:Hp,H T=some (.tbl #[])->SqL K H a (ns.map V.int)->sp [.ref a] H (λv _=>v = .bl true) λ_ _ _=>False) :
  codeAny (model P w) callerA (.call (.ref M) ⟨[.ref a],[]⟩) (λr s'=>r = .ok (.ret (.bool true))/\OldK s₁.heap s'.heap/\s'.os=s₁.os/\AllBare s'.gens) s₁:=by
 have U:=wt hi;have PQ:=hi.length;have t:a≠T:=λe=>by rw[e,hT]at l;cases l
 have core:∀H:Hp,Mu T H->H T=some (.tbl #[])->SqL K H a (ns.map V.int)->HOk P w H s₁.heap->(∀b,H b≠none->b=a\/b=T)->(H a≠none->K.lookup a=none) ->
   codeAny (model P w) callerA (.call (.ref M) ⟨[.ref a],[]⟩) (λr s'=>r = .ok (.ret (.bool true))/\OldK s₁.heap s'.heap/\s'.os=s₁.os/\AllBare s'.gens) s₁:=by
  intro H Z G hS y hA hK;have j:∀{b:Z6}{m:Str->Option Vy},s₁.heap.Ns b m->(yq s₁.heap H).Ns b m:=λ{b m} ⟨o,L,ep,e,d,r⟩=>⟨o,L,ep,zt e (by
   cases q:H b with
   | none=>rfl
   | some u=>
    rcases hA b (by rw[q];simp)with rfl | rfl
    ·rw[l]at e;cases e;have O:Data.seq vs.toArray _=Data.dict L ep:=d;cases O
    ·rw[hT]at e;cases e;have O:Data.fields #[]=Data.dict L ep:=d;cases O),d,r⟩
  have I:K.In (yq s₁.heap H):=λb o e=>zt (X b o e) (by
   cases q:H b with
   | none=>rfl
   | some u=>
    rcases hA b (by rw[q];simp)with rfl | rfl
    ·rw[hK (by rw[q];simp)]at e;cases e
    ·rw[D]at e;cases e)
  have hM:Mod K mg (yq s₁.heap H):=⟨I,j J,⟨C,j f,E⟩,let ⟨mc,h1,h2⟩:=Qb;⟨mc,j h1,h2⟩⟩;have e0:sI P w K mg (yq s₁.heap H) callerA [] s₁ H:=⟨rfl,hM,λb o e=>Jt e,UT (Ec _ _),trivial,λb f=>absurd (show b∈([]:List Z6)from f) (by simp),y,.of_eq hg⟩;refine codeAny_mono ((F _).run callerA [] s₁ H ⟨[.ref a],[]⟩ [.ref a] [.ref a] _ _ hr e0 (Y s₁ (.ref a)) (.cons rfl .nil) (B H G hS)) λr s' h=>?_;cases r with
  | error e=>exact False.elim h
  | ok fl=>
   cases fl with
   | next=>exact False.elim h
   | brk=>exact False.elim h
   | cont=>exact False.elim h
   | ret u=>
    obtain⟨v,_,os,n,A,R,r',q⟩:=h;have q':v = .bl true:=q;subst q';obtain rfl:u=Value.bool true:=r';refine⟨rfl,⟨λb o e=>?_,λb o e=>A.there b o e (by simp)⟩,os,n⟩;rcases Z b with z | ⟨ob,_,z⟩ | ⟨rfl,z⟩
    ·exact .inl (A.keep b o e z (by intro z;exact absurd (show b∈([]:List Z6)from z) (by simp)) (by simp))
    ·have Q:=A.rA b ob _ z;obtain⟨S,_⟩:=y b _ z;obtain⟨N,_⟩:=R b _ Q;rw[e]at S;cases S;exact .inl N
    ·obtain⟨p,Q⟩:=A.qY b _ z;have N:=R b _ Q;rw[hT]at e;cases e;obtain⟨oc,fs,_,_,_,_,_,_,_,c1,c2,c3,c4,_⟩:=hc;have ht:s₁.heap.TableAt c b #[]:=⟨⟨oc,fs,c1,c2,c3,c4⟩,hT⟩;exact .inr (.inl ⟨ht.isCodeTable,rfl,#[],p,rfl,N⟩)
 cases hk:K.lookup a with
 | some o=>
  have e:=X a o hk;rw[l]at e;cases e;refine core (λb=>if b=T then some (.tbl #[])else none) (λb=>?_) (Zj rfl) (.inr ⟨_,vs.toArray,_,hk,rfl,rfl,rfl,by rw[Sn,PQ];exact W,by simpa using U⟩) (λb u z=>?_) (λb z=>?_) λz=>absurd (Zk t) z
  ·by_cases f:b=T
   ·exact .inr (.inr ⟨f,Zj f⟩)
   ·exact .inl (Zk f)
  ·by_cases f:b=T
   ·have i:=(Zj f).symm.trans z;cases i;subst f;exact hT
   ·have i:=(Zk f).symm.trans z;cases i
  ·by_cases f:b=T
   ·exact .inr f
   ·exact absurd (Zk f) z
 | none=>
  refine core (λb=>if b=T then some (.tbl #[])else if b=a then some (.frz { cls:=.type "list",data:=.seq vs.toArray } (.lst (ns.map V.int)))else none) (λb=>?_) (Zj rfl)
   (.inl (.inr ⟨{ cls:=.type "list",data:=.seq vs.toArray },(Zk t).trans (Zj rfl)⟩)) (λb u z=>?_) (λb z=>?_) λ_=>hk
  ·by_cases f:b=T
   ·exact .inr (.inr ⟨f,Zj f⟩)
   ·by_cases g:b=a
    ·exact .inr (.inl ⟨_,_,(Zk f).trans (Zj g)⟩)
    ·exact .inl ((Zk f).trans (Zk g))
  ·by_cases f:b=T
   ·have i:=(Zj f).symm.trans z;cases i;subst f;exact hT
   ·by_cases g:b=a
    ·have i:=((Zk f).trans (Zj g)).symm.trans z;cases i;subst g;exact⟨l,by rw[R8];exact W,vs,_,U,l⟩
    ·have i:=((Zk f).trans (Zk g)).symm.trans z;cases i
  ·by_cases f:b=T
   ·exact .inr f
   ·by_cases g:b=a
    ·exact .inl g
    ·exact absurd ((Zk f).trans (Zk g)) z
theorem FZ {l:PySem.W.OpenLaw}{n k:Nat}{q:Z9}{loose:List Str}{B:(Str->Option Vy)->Heap->Prop}{y:Za->Heap->Prop}{d:DefRec}{K:Params->Vz}{sp:Za->Sp}{x:Str}{c T:Z6}
  (L:l.most=some n) (i:n<=Zc) (r:d.params.defaults=[]) (M:bI k callerA)
  (I:∀(w:Za) (h:Heap),y w h->(K w.params).In h/\h.get? T=some (tabObj #[])) (J:∀(w:Za) (h:Heap),(K w.params).In h->CodeHd h c T) (m:∀w:Za,(K w.params).lookup T=none)
  (F:∀(w:Za) (mg:Str->Option Vy) (fa:Z6) (h:Heap),(K w.params).In h->h.Ns mainGlobals mg->mg d.name=some (.ref fa) ->
   ∃fd:Z7,(∀(s:Vx) (u:Vy),BindsTo s fd ⟨[u],[]⟩ [(x,u)])/\∀base:Heap,aA l.prog w (K w.params) mg base CX0 k fa fd [x] (sp w))
  (p:∀(w:Za) (H:Hp) (a:Z6) (ns:List Int),ns.length<=n->H T=some (.tbl #[])->SqL (K w.params) H a (ns.map V.int)->sp w [.ref a] H (λv _=>v = .bl true) λ_ _ _=>False) :
  PySem.W.WalkO q loose B y l.row.toRowW d [] (λf vs=>PySem.call f vs):=by
 refine Att.zh L r λw _ _ mg _ fa o _ _ _ a vs ns G Y _ _ _ t C E e z=>?_;obtain⟨j,hT⟩:=I w _ Y;obtain⟨fd,D,hF⟩:=F w mg fa _ j G.T.g t;exact Dx j hT (J w _ j) (m w) G.T.g G.T.b G.T.builtins G.T.nolimit z C E (Sl e i) M hF D (λH A hS=>p w H a ns e A hS)
end L2
namespace K26
open PySem L2 LG
section
variable {P:Z9}{w:Za}{K:Vz}{mg:Str->Option Vy}{base:Heap}{A:Ad}
theorem jL:aD ["parts","words","part","word"] ["parts","words"] (ag (top 26)):=by refine⟨rfl,rfl,rfl,?_,rfl,?_,?_⟩<;>decide +kernel
theorem wR (T:Tx K mg A):aA P w K mg base CX0 4 A.lP A.lJ ["parts","words"] (pN K):=by
 have W:aA P w K mg base CX0 3 _ _ _ _:=(uU T).mono (by decide);refine T.mE.fn.ok jL (λvs H Q E h=>?_) (λ_ _ _ s H vs Q E hr h=>?_)
 ·obtain⟨a,b,xs,ps,d,rfl,_⟩:=h;rfl
 ·obtain⟨a,b,xs,ps,d,rfl,M,C,R,f,S,k⟩:=h;have l:xs.length=ps.length:=by rw[C.length,R8]
  refine⟨_,aj (bB (aP m5 (aH (r:=d4 K) bh (by rfl) T.dv Yb (aa (pv 0) ae)) (aH (r:=d4 K) bh (by rfl) T.dv Yb (aa (pv 1) ae)) (aQ _)) (ak (aC kF)) aO)
   (aj (fT Ys rfl (sQ (by rfl) T.vw (aa (pv 0) (aa (pv 1) ae))) (c7 rfl (aI (av (i:=2) jL.nd rfl (Or.inl rfl)) (aI (av (i:=3) jL.nd rfl (Or.inl rfl)) bU))) (ak (bB (ip (cU (ar W hr (by rfl) T.ke.mg T.ke.fn.kp T.ke.bd .nil ay (aa (pv 2) (aa (pv 3) ae))))) (ak (aC kF)) aO)))
   (ak (aC kF))),?_⟩
  refine⟨_,rfl,a,xs,rfl,.inl M,_,rfl,b,_,rfl,.inl f,rfl,_,rfl,?_⟩;rw[R8];by_cases G:ps.length=d.length
  ·have e:decide (V.int (xs.length:Int)=V.int (d.length:Int))=true:=Zg (by rw[l,G]);rw[e];refine br ?_;refine⟨_,rfl,_,rfl,a,b,rfl,⟨_,M⟩,⟨_,f⟩,?_⟩;refine C3 (K:=K) (xs:=xs) (ys:=d.map V.str) (λi F o=>(∃u v,F=[some (.ref a),some (.ref b),u,v])/\af H o/\∀(j:Nat) p x,j<i->ps[j]? = some p->d[j]? = some x->p.takes x=true) ⟨⟨_,_,rfl⟩,af.refl _,λj p x U=>absurd U (Nat.not_lt_zero _)⟩ (λi F o q=>⟨q.2.1.seq M,q.2.1.seq f⟩) (λi x y F o t L hy q Y=>?_) (λF o q=>?_)
   ·obtain⟨B,z,J⟩:=q;apply wH B;clear B;intro u v;obtain⟨p,D,bN⟩:=jW C L;obtain⟨I,g,rfl⟩:=e9 hy;have O:af o (upd o t (.tup [x,.str I])):=af.new Y;refine⟨t,_,rfl,.of ab,rfl,_,_,rfl,_,_,rfl,rfl,?_⟩;refine⟨_,rfl,_,rfl,x,I,p,rfl,bN.same (z.trans O),R p (Sd D),S I (Sd g),_,rfl,?_⟩;by_cases c:p.takes I = true
    ·rw[c];refine br ⟨⟨_,_,rfl⟩,z.trans O,λj p2 X U m n=>?_⟩;rcases Tc j i with q | q
     ·exact J j p2 X q m n
     ·have:j=i:=by lia
      subst this;rw[D]at m;cases m;rw[g]at n;cases n;exact c
    ·rw[SI.mpr c];refine b9 ?_;have N:aW ps d=false:=by
      unfold aW;rw[EY D g (SI.mpr c),Ur]
     have:=k _ (z.trans O);rw[N]at this;exact this
   ·obtain⟨B,z,J⟩:=q;apply wH B;clear B;intro u v;have N:aW ps d=true:=by
     unfold aW;rw[Zg G,TX];refine C2 λi p x Z D L=>J i p x ?_ D L;rw[R8,l];exact Z
    have:=k _ z;rw[N]at this;exact this
  ·have e:decide (V.int (xs.length:Int)=V.int (d.length:Int))=false:=Zh (λq=>G (by rw[l]at q;injection q with q;lia));rw[e];refine b9 ?_;have:=k H (af.refl _);rw[DL G]at this;exact this
theorem Jh:aD ["pattern","line"] ["pattern","line"] (ag (top 27)):=by refine⟨rfl,rfl,rfl,?_,rfl,?_,?_⟩<;>decide +kernel
theorem HK (T:Tx K mg A):aA P w K mg base CX0 5 A.Bt A.BO ["pattern","line"] (Cv K):=by
 have t:aA P w K mg base CX0 4 _ _ _ _:=(wR T).mono (by decide);have r:aA P w K mg base CX0 4 _ _ _ _:=(iU T).mono (by decide);refine T.fits.fn.ok Jh (λB H Q E h=>?_) (λ_ _ _ s H B Q E i h=>?_)
 ·obtain⟨v,z,j,rfl,_⟩:=h;rfl
 ·obtain⟨v,z,j,rfl,p,f,g,d,k⟩:=h;obtain⟨a,C,o,y,e⟩:=fc p;refine⟨_,ak (aC (ar t i (by rfl) T.mE.mg T.mE.fn.kp T.mE.bd .nil ay (aa (pv 0) (aa (ar r i (by rfl) T.words_of.mg T.words_of.fn.kp T.words_of.bd .nil ay (aa (pv 1) ae)) ae)))),?_⟩;subst o;have b:LOk z:=g;refine⟨_,rfl,_,rfl,z,rfl,g,λl u=>?_⟩;have c:af H (upd H l (.lst ((Y4 z " ").map V.str))):=af.new u;exact⟨a,l,C,j,Y4 z " ",rfl,c.seq y,e.same c,f,.of ab,λx q=>Sl (uq d x q).2 b,λm n=>k m (c.trans n)⟩
theorem fg:aD ["part","kind"] ["part"] (ag (top 28)):=by refine⟨rfl,rfl,rfl,?_,rfl,?_,?_⟩<;>decide +kernel
theorem jX (T:Tx K mg A):aA P w K mg base CX0 3 A.dc A.dg ["part"] (fj K):=by
 have n:aA P w K mg base CX0 2 _ _ _ _:=(ij T).mono (by decide);have o:aA P w K mg base CX0 2 _ _ _ _:=(tU T).mono (by decide);refine T.cD.fn.ok fg (λu H Q E h=>?_) (λ_ _ _ s H u Q E l h=>?_)
 ·obtain⟨v,p,rfl,_⟩:=h;rfl
 ·obtain⟨v,p,rfl,d,b,k⟩:=h;obtain⟨a,_,y1,c,j,_,_,f⟩:=qg d;refine⟨_,aj (bB (cU (ar n l (by rfl) T.cC.mg T.cC.fn.kp T.cC.bd .nil ay (aa (pv 0) ae))) (ak (aC (bi (r:=m8 K) fA (pv 0) ap (λ_ _=>rfl)))) aO)
   (aj (bf (i:=1) fg.nd rfl (Or.inl rfl) (ar o l (by rfl) T.jY.mg T.jY.fn.kp T.jY.bd .nil ay (aa (bi (r:=m8 K) fA (pv 0) ap (λ_ _=>rfl)) ae)))
   (ak (aC (l7 (aP (r:=rIn K false) vV (pv 1) (gp (v:=.ref A.bV) (by rfl) T.kg rfl) (by rfl)) (pv 1) aJ)))),?_⟩
  refine⟨_,rfl,v,p,rfl,d,_,rfl,?_⟩;cases p with
  | hole m=>
   obtain⟨rfl,rfl⟩:=f;subst c;exact b9 ⟨_,rfl,a,_,1,_,rfl,rfl,j,rfl,k⟩
  | word y=>
   obtain⟨rfl,rfl⟩:=f;subst c;refine br ?_;have t:TOk y1:=b;refine⟨_,rfl,a,_,1,_,rfl,rfl,j,rfl,y1,rfl,t.1,?_⟩;refine⟨_,rfl,A.bV,_,rfl,.inr (T.jR _),rfl,rfl,_,rfl,?_⟩;have q:∀i<3,(inV (.str (lW i)) [.str "number",.str "name",.str "any"])=decide (i<2):=by decide +kernel
   rw[Zk Ss,q _ (yv _)];dsimp only;by_cases g:dw y1<2
   ·rw[Zg g];refine b9 ⟨_,rfl,?_⟩;have e:lW (dw y1)=cx (Pt.word y1).around:=by
     show lW (dw y1)=cx (dw y1);have:dw y1=0\/dw y1=1:=by lia
     rcases this with e | e <;> rw[e] <;> rfl
    rw[e];exact k
   ·rw[Zh g];refine br ?_;have e:cx (Pt.word y1).around = "any" :=by
     show cx (dw y1) = "any";have x:=yv y1;have:dw y1=2:=by lia
     rw[this];rfl
    rw[e]at k;exact k
theorem lL:aD ["part"] ["part"] (ag (top 45)):=by refine⟨rfl,rfl,rfl,?_,rfl,?_,?_⟩<;>decide +kernel
theorem lm (T:Tx K mg A):aA P w K mg base CX0 2 A.d6 A.d5 ["part"] (gE K):=by
 have f:aA P w K mg base CX0 1 _ _ _ _:=(ij T).mono (by decide);refine T.dh.fn.ok lL (λn H Q E h=>?_) (λ_ _ _ s H n Q E o h=>?_)
 ·obtain⟨v,p,rfl,_⟩:=h;rfl
 ·obtain⟨v,p,rfl,d,c,k⟩:=h;obtain⟨a,_,_,g,l,_,_,j⟩:=qg d;refine⟨_,aj (bB (ip (cU (ar f o (by rfl) T.cC.mg T.cC.fn.kp T.cC.bd .nil ay (aa (pv 0) ae)))) (ak (aC ap)) aO)
   (ak (aC (l7 (aP iS (bi (r:=m8 K) fA (pv 0) ap (λ_ _=>rfl)) aJ (aQ _)) ap ap))),?_⟩
  refine⟨_,rfl,v,p,rfl,d,_,rfl,?_⟩;cases p with
  | word y=>exact b9 k
  | hole m=>
   obtain⟨rfl,rfl⟩:=j;subst g;refine br ?_;have i:m<3:=c;refine⟨_,rfl,a,_,1,_,rfl,rfl,l,rfl,rfl,_,rfl,?_⟩;rw[zv i];by_cases b:m=2
   ·rw[Zg b];subst b;exact b9 k
   ·rw[Zh b];refine br ?_;have e:(Pt.hole m).loose=1:=by
     have:m=0\/m=1:=by lia
     rcases this with rfl | rfl <;> rfl
    rw[e]at k;exact k
theorem xS:aD ["pattern"] ["pattern"] (ag (top 46)):=by refine⟨rfl,rfl,rfl,?_,rfl,?_,?_⟩<;>decide +kernel
theorem xE (T:Tx K mg A):aA P w K mg base CX0 3 A.lM A.lY ["pattern"] (om K):=by
 have J:aA P w K mg base CX0 2 _ _ _ _:=(lm T).mono (by decide);refine T.qb.fn.ok xS (λL H Q E h=>?_) (λ_ _ _ s H L Q E M h=>?_)
 ·obtain⟨v,ps,rfl,_⟩:=h;rfl
 ·obtain⟨v,ps,rfl,C,j,k⟩:=h;obtain⟨a,xs,B,y,f⟩:=fc C;have I:xs.length=ps.length:=by rw[f.length,R8]
  have F:=j.1;refine⟨_,ak (aC (aU (N':=["part"]) (n:=1) (fi:=[]) (g:=aN 0) rfl (aY (ag (top 46)) ["pattern"] (by decide +kernel)) (aM (pv 0)) (λs H t=>av (i:=0) (show(["part"]:List Str).Nodup by decide +kernel) rfl (Or.inl rfl) (.inr rfl)) (λs H t=>aL) (λs H t=>ar J M (by rfl) T.dh.mg T.dh.fn.kp T.dh.bd .nil ay (aa (pv 0) ae)))),?_⟩;subst B;refine⟨_,rfl,a,rfl,⟨_,y⟩,λD o=>?_⟩;refine aK (K:=K) (xs:=xs) (λi c m e=>(∃u,m=[u])/\af H e/\c=(ps.take i).map λp=>V.int p.loose) ab ⟨⟨_,rfl⟩,af.new o,rfl⟩ (λi c m e _ _ q=>q.2.1.seq y) (λi x c m e G b q=>?_) (λc m e b q=>?_)
  ·obtain⟨z,l,rfl⟩:=q;apply dJ z;clear z;intro u;obtain⟨p,d,r⟩:=jW f G;have N:=aG d;refine cq ⟨_,rfl,x,p,rfl,r.same l,j.2 p (Sd d),?_⟩;refine⟨_,b,small (by simp only[R8,Sx];lia),_,ab,⟨_,rfl⟩,ax o l,?_⟩;rw[dO d]
  ·obtain⟨_,l,rfl⟩:=q;rw[So (by lia)]at b;exact k D e o l b
theorem lz:aD ["parts","kinds"] ["parts"] (ag (top 29)):=by refine⟨rfl,rfl,rfl,?_,rfl,?_,?_⟩<;>decide +kernel
theorem rY (T:Tx K mg A):aA P w K mg base CX0 4 A.ji A.jc ["parts"] (lI K):=by
 have kO:aA P w K mg base CX0 3 _ _ _ _:=(jX T).mono (by decide);refine T.iR.fn.ok lz (λvs H Q E h=>?_) (λ_ _ _ s H vs Q E hr h=>?_)
 ·obtain⟨a,xs,ps,rfl,_⟩:=h;rfl
 ·obtain⟨a,xs,ps,rfl,G,o,a0,f,k⟩:=h;have a3:xs.length=ps.length:=by rw[o.length,R8]
  have a5:=f.1;obtain⟨p0,pr,rfl⟩:∃p0 pr,ps=p0::pr:=by
   cases ps with
   | nil=>exact(a0 rfl).elim
   | cons p r=>exact⟨p,r,rfl⟩
  obtain⟨v,xr,rfl⟩:∃v xr,xs=v::xr:=by
   cases xs with
   | nil=>simp at a3
   | cons x r=>exact⟨x,r,rfl⟩
  have L:Den K H v p0.dat:=by cases o with | cons h1 _=>exact h1
  have MY:p0.ok:=f.2 p0 (Sk ..);refine⟨_,aj (bB (cU (aH (r:=EH K) (lB rfl) (by rfl) T.Am uo (aa (aU (N':=["part","parts"]) (n:=1) (fi:=[0]) (g:=aN 0) rfl (aY (ag (top 29)) ["parts","kinds"] (by decide +kernel)) (aM (pv 0)) (λs H y=>av (i:=0) (show(["part","parts"]:List Str).Nodup by decide +kernel) rfl (Or.inl rfl) (.inr rfl)) (λs H y=>aL) (λs H y=>cQ (r:=ye K) (pW hr) (pv 0) (bi (r:=dQ K) a9 (pv 1) ap (λ_ _=>rfl)) (aQ _))) ae))) (ak (aC (bi (r:=dQ K) a9 (pv 0) ap (λ_ _=>rfl)))) aO)
   (aj (bf (i:=1) lz.nd rfl (Or.inr rfl) (aU (N':=["part"]) (n:=1) (fi:=[]) (g:=aN 0) rfl (aY (ag (top 29)) ["parts","kinds"] (by decide +kernel)) (aM (pv 0)) (λs H y=>av (i:=0) (show(["part"]:List Str).Nodup by decide +kernel) rfl (Or.inl rfl) (.inr rfl)) (λs H y=>aL) (λs H y=>ar kO hr (by rfl) T.cD.mg T.cD.fn.kp T.cD.bd .nil ay (aa (pv 0) ae))))
   (aj (bB (cU (aH (r:=EH K) (lB rfl) (by rfl) T.Am uo (aa (aU (N':=["kind","kinds"]) (n:=1) (fi:=[1]) (g:=aN 0) rfl (aY (ag (top 29)) ["parts","kinds"] (by decide +kernel)) (aM (pv 1)) (λs H y=>av (i:=0) (show(["kind","kinds"]:List Str).Nodup by decide +kernel) rfl (Or.inl rfl) (.inr rfl)) (λs H y=>aL) (λs H y=>cQ iS (pv 0) (bi (r:=dQ K) a9 (pv 1) ap (λ_ _=>rfl)) (aQ _))) ae))) (ak (aC (dD (aa aJ (aa (bi (r:=dQ K) a9 (pv 1) ap (λ_ _=>rfl)) ae))))) aO)
   (ak (aC (dD (aa aJ (aa aJ ae))))))),?_⟩
  refine⟨_,rfl,a,rfl,⟨_,G⟩,λD hD=>?_⟩;refine aK (K:=K) (xs:=v::xr) (λi b d F=>(∃u,d=[u,some (.ref a)])/\af H F/\b=(((p0::pr).take i).map λp=>decide (p=p0)).map V.bl) ab ⟨⟨_,rfl⟩,af.new hD,rfl⟩ (λi b d F _ _ q=>q.2.1.seq G) (λi x b d F m l q=>?_) (λb d F l q=>?_)
  ·obtain⟨z,e,rfl⟩:=q;apply dJ z;clear z;intro u;obtain⟨p,c,B⟩:=jW o m;have hi:=aG c;refine cq ⟨_,rfl,_,rfl,a,_,0,v,rfl,rfl,e.seq G,cA (j:=0) rfl,_,_,B.same e,L.same e,Sl (CU _) (by decide),?_⟩;rw[LD (f.2 p (Sd c)) MY];refine⟨_,l,small (by simp only[R8,Sx];lia),_,ab,⟨_,rfl⟩,ax hD e,?_⟩;rw[dO c,Sm];rfl
  ·obtain⟨_,e,rfl⟩:=q;rw[So (by lia)]at l;refine⟨D,_,rfl,.of l,_,rfl,?_⟩;have e1:(((p0::pr).map λp=>decide (p=p0)).all id)=pr.all λq=>decide (q=p0):=by
    rw[List.all_map,Uj];simp
   rw[e1];have ej:iO (p0::pr)=if pr.all (λq=>decide (q=p0))=true then p0 else if pr.all (λq=>decide (q.around=p0.around))=true then .hole p0.around else .hole 2:=rfl;by_cases O:pr.all (λq=>decide (q=p0))=true
   ·rw[O];refine b9 ⟨_,rfl,a,_,0,v,rfl,rfl,e.seq G,cA (j:=0) rfl,k v F e ?_⟩;rw[ej,Zj O];exact L.same e
   ·rw[SI.mpr O];refine br ?_;refine⟨_,rfl,a,rfl,⟨_,e.seq G⟩,λX R=>?_⟩;refine aK (K:=K) (xs:=v::xr) (λi b d N=>(∃u,d=[u])/\af F N/\b=((p0::pr).take i).map λp=>V.str (cx p.around)) ab ⟨⟨_,rfl⟩,af.new R,rfl⟩ (λi b d N _ _ q=>(e.trans q.2.1).seq G) (λi x b d N m C q=>?_) (λb d N C q=>?_)
    ·obtain⟨z,Y,rfl⟩:=q;apply dJ z;clear z;intro u;obtain⟨p,c,B⟩:=jW o m;have hi:=aG c;refine cq ⟨_,rfl,x,p,rfl,B.same (e.trans Y),f.2 p (Sd c),?_⟩;refine⟨_,C,small (by simp only[R8,Sx];lia),_,ab,⟨_,rfl⟩,ax R Y,?_⟩;rw[dO c]
    ·obtain⟨_,Y,rfl⟩:=q;rw[So (by lia)]at C;have Z:=e.trans Y;refine⟨_,rfl,X,rfl,⟨_,.of C⟩,λD4 I=>?_⟩;refine aK (K:=K) (xs:=(p0::pr).map λp=>V.str (cx p.around)) (λi b d W=>(∃u,d=[u,some (.ref X)])/\af N W/\b=(((p0::pr).take i).map λp=>decide (p.around=p0.around)).map V.bl) ab ⟨⟨_,rfl⟩,af.new I,rfl⟩ (λi b d W _ _ q=>.of (q.2.1 _ _ C)) (λi x b d W m S q=>?_) (λb d W S q=>?_)
     ·obtain⟨z,J,rfl⟩:=q;apply dJ z;clear z;intro u;rw[Se]at m;cases c:(p0::pr)[i]? with
      | none=>rw[c]at m;cases m
      | some p=>
       rw[c]at m;cases m;have hi:=aG c;refine cq ⟨_,rfl,_,rfl,X,_,0,V.str (cx p0.around),rfl,rfl,.of (J _ _ C),cA (j:=0) rfl,rfl,?_⟩;have e2:decide (V.str (cx p.around)=V.str (cx p0.around))=decide (p.around=p0.around):=by
        rw[SR,decide_eq_true_eq,decide_eq_true_eq];exact⟨λh=>vQ (qh (f.2 p (Sd c))) (qh MY) (by injection h),λh=>by rw[h]⟩
       rw[e2];refine⟨_,S,small (by simp only[R8,Sx];lia),_,ab,⟨_,rfl⟩,ax I J,?_⟩;rw[dO c,Sm];rfl
     ·obtain⟨_,J,rfl⟩:=q;have a4:((p0::pr).map λp=>V.str (cx p.around)).length=(p0::pr).length:=by rw[R8]
      rw[a4,So (Sb _)]at S;refine⟨D4,_,rfl,.of S,_,rfl,?_⟩;have e3:(((p0::pr).map λp=>decide (p.around=p0.around)).all id)=pr.all λq=>decide (q.around=p0.around):=by
       rw[List.all_map,Uj];simp
      rw[e3];have M:=Z.trans J;by_cases U:pr.all (λq=>decide (q.around=p0.around))=true
      ·rw[U];refine b9 ⟨_,rfl,X,_,0,V.str (cx p0.around),rfl,rfl,.of (J _ _ C),cA (j:=0) rfl,(by show 2<=Zc;decide),λt ht=>?_⟩;refine k _ _ (M.trans (af.new ht)) ?_;rw[ej,Zk O,Zj U];exact .tup (.of ab) (.cons (.str (by decide +kernel)) (.cons (.str tq) .nil))
      ·rw[SI.mpr U];refine br ⟨(by show 2<=Zc;decide),λt ht=>?_⟩;refine k _ _ (M.trans (af.new ht)) ?_;rw[ej,Zk O,Zk U];exact .tup (.of ab) (.cons (.str (by decide +kernel)) (.cons (.str (by decide +kernel)) .nil))
theorem we:aD ["patterns","width"] ["patterns"] (ag (top 30)):=by refine⟨rfl,rfl,rfl,?_,rfl,?_,?_⟩<;>decide +kernel
theorem Ea (T:Tx K mg A):aA P w K mg base CX0 5 A.tS A.sf ["patterns"] (vR K):=by
 have uR:aA P w K mg base CX0 4 _ _ _ _:=(rY T).mono (by decide);refine T.joined.fn.ok we (λvs H Q E h=>?_) (λ_ _ _ s H vs Q E hr h=>?_)
 ·obtain⟨a,xs,pss,n,rfl,_⟩:=h;rfl
 ·obtain⟨a,xs,pss,n,rfl,W,t,Y,aw,l,k⟩:=h;have b5:xs.length=pss.length:=by rw[t.length,R8]
  have OH:0<pss.length:=Ug.mpr Y;obtain⟨x0,a7⟩:∃x0,xs[0]? = some x0:=⟨_,R9 (by lia)⟩;obtain⟨N,LI,ah⟩:=gF t a7;obtain⟨a0,a5,rfl,au,Pn⟩:=fc ah;have a8:a5.length=n:=by rw[Pn.length,R8];exact(l N (Sd LI)).2
  have b6:n<=10000:=by rw[<-(l N (Sd LI)).2];exact(l N (Sd LI)).1.1
  refine⟨_,aj (bB (aP iS (aH (r:=d4 K) bh (by rfl) T.dv Yb (aa (pv 0) ae)) ap (aQ _)) (ak e7) aO)
   (aj (bf (i:=1) we.nd rfl (Or.inr rfl) (aH (r:=d4 K) bh (by rfl) T.dv Yb (aa (bi (r:=dQ K) a9 (pv 0) ap (λ_ _=>rfl)) ae)))
   (aj (bB (cU (aH (r:=OK K) (ET rfl) (by rfl) T.Ni Ly (aa (aU (N':=["pattern","width"]) (n:=1) (fi:=[1]) (g:=aN 0) rfl (aY (ag (top 30)) ["patterns","width"] (by decide +kernel)) (aM (pv 0)) (λs H G=>av (i:=0) (show(["pattern","width"]:List Str).Nodup by decide +kernel) rfl (Or.inl rfl) (.inr rfl)) (λs H G=>aL) (λs H G=>cQ m5 (aH (r:=d4 K) bh (by rfl) T.dv Yb (aa (pv 0) ae)) (pv 1) (aQ _))) ae))) (ak e7) aO)
   (ak (aC (aU (N':=["at","patterns"]) (n:=1) (fi:=[0]) (g:=aN 0) rfl (aY (ag (top 30)) ["patterns","width"] (by decide +kernel)) (dN (by rfl) T.g6 (aa (pv 1) ae)) (λs H G=>av (i:=0) (show(["at","patterns"]:List Str).Nodup by decide +kernel) rfl (Or.inr rfl) (.inl rfl)) (λs H G=>aL) (λs H G=>ar uR hr (by rfl) T.iR.mg T.iR.fn.kp T.iR.bd .nil ay (aa (aU (wi:=CD K (qX 1)) (N':=["pattern","at"]) (n:=1) (fi:=[0]) (g:=aN 0) rfl (ym (ag (top 30)) (by decide +kernel)) (aM (pv 1)) (λs H G=>av (i:=0) (show(["pattern","at"]:List Str).Nodup by decide +kernel) rfl (Or.inl rfl) (.inr rfl)) (λs H G=>aL) (λs H G=>bi (r:=dQ K) a9 (pv 0) (pv 1) (λ_ _=>rfl))) ae))))))),?_⟩
  refine⟨_,rfl,a,xs,rfl,.inl W,rfl,_,rfl,?_⟩;have e0:decide (V.int (xs.length:Int)=V.int 0)=false:=Zh (λq=>by injection q with q;lia);rw[e0];refine br ?_;refine⟨_,rfl,a,xs,0,_,rfl,rfl,W,cA (j:=0) a7,a0,a5,rfl,.inl au,?_⟩;rw[a8];refine⟨_,rfl,a,rfl,⟨_,W⟩,λD hD=>?_⟩;refine aK (K:=K) (xs:=xs) (λi c f C=>(∃u,f=[u,some (.int n)])/\af H C/\c=((pss.take i).map λ_=>false).map V.bl) ab ⟨⟨_,rfl⟩,af.new hD,rfl⟩ (λi c f C _ _ q=>q.2.1.seq W) (λi x c f C hx L q=>?_) (λc f C L q=>?_)
  ·obtain⟨F,S,rfl⟩:=q;apply dJ F;clear F;intro u;obtain⟨ps,e,M⟩:=gF t hx;obtain⟨ai,yi,rfl,R,O⟩:=fc M;have hi:=aG e;have b2:yi.length=n:=by rw[O.length,R8];exact(l ps (Sd e)).2
   refine cq ⟨_,rfl,ai,yi,rfl,.inl (S.seq R),_,rfl,rfl,?_⟩;rw[b2,Zg rfl];refine⟨_,L,small (by simp only[R8,Sx];lia),_,ab,⟨_,rfl⟩,ax hD S,?_⟩;rw[dO e,Sm];rfl
  ·obtain⟨_,S,rfl⟩:=q;refine⟨D,_,rfl,.of L,_,rfl,?_⟩;have e1:(((pss.take xs.length).map λ_=>false).any id)=false:=by
    rw[SI];intro q;obtain⟨b,hb,as⟩:=Tj.mp q;obtain⟨_,_,rfl⟩:=Si.mp hb;cases as
   rw[e1];refine br ?_;refine⟨_,rfl,n,rfl,by lia,by lia,λD3 J=>?_⟩;have Z:af C (upd C D3 (.lst [])):=af.new J;refine eQ (λi c f X=>(∃u,f=[u,some (.ref a)])/\af C X/\aE K (lim (upd C D3 (.lst [])) X) c ((bu pss i).map Pt.dat)) ab ⟨⟨_,rfl⟩,Z,.nil⟩ (λi c f X hi I q=>?_) (λc f X I q=>?_)
   ·obtain⟨F,s4,dn⟩:=q;apply dJ F;clear F;intro u;have b3:i<n:=by simpa using hi
    have b4:c.length=i:=by rw[dn.length,R8];simp[bu]
    have B:=S.trans s4;refine cq ?_;refine⟨_,rfl,a,rfl,⟨_,B.seq W⟩,λD5 a4=>?_⟩;refine aK (K:=K) (xs:=xs) (λm U f H5=>(∃u,f=[u,some (.int (0+(i:Int)))])/\af X H5/\aE K H U (((pss.take m).map λps=>ps.getD i (.hole 2)).map Pt.dat)) ab ⟨⟨_,rfl⟩,af.new a4,.nil⟩ (λm U f H5 _ _ q=>(B.trans q.2.1).seq W) (λm x U f H5 hx L5 q=>?_) (λU f H5 L5 q=>?_)
    ·obtain⟨F,s5,o⟩:=q;apply dJ F;clear F;intro u;obtain⟨ps,e,M⟩:=gF t hx;obtain⟨ai,yi,rfl,R,O⟩:=fc M;have hm:=aG e;have a6:=(l ps (Sd e)).2;have b0:ps[i]? = some (ps.getD i (.hole 2)):=by
      rw[R9 (by lia)];simp[YD,R9 (show i<ps.length by lia)]
     obtain⟨y,hy,aq⟩:=O.getD (i:=i) (d:=(ps.getD i (.hole 2)).dat) (by rw[Se,b0];rfl);have R0:U.length=m:=by rw[o.length,R8,R8,Sx];lia
     refine cq ⟨_,rfl,_,rfl,ai,yi,_,y,rfl,rfl,(B.trans s5).seq R,?_,U,L5,small (by lia),_,ab,⟨_,rfl⟩,ax a4 s5,?_⟩
     ·rw[Int.zero_add];exact cA hy
     ·rw[dO e,Sm];exact o.append (.cons aq .nil)
    ·obtain⟨_,s5,o⟩:=q;rw[So (by lia)]at o;have az:=B.trans s5;refine⟨D5,U,pss.map (λps=>ps.getD i (.hole 2)),rfl,.of L5,o.same az,by intro z;exact Y (Tp.mp z),⟨by rw[R8];exact aw,λp hp=>?_⟩,λr H6 s6 dr=>?_⟩
     ·obtain⟨ps,ao,rfl⟩:=Si.mp hp;have a6:=l ps ao;have b1:i<ps.length:=by lia
      have:ps.getD i (.hole 2)∈ps:=by simp[YD,R9 b1]
      exact a6.1.2 _ this
     ·have v:=s5.trans s6;have a3:H6 D3=some (.lst c):=v _ _ I;refine⟨c,a3,small (by lia),_,ab,⟨_,rfl⟩,ax J (s4.trans v),?_⟩;rw[oV (ys:=[]) ab,wD,Sm];exact(dn.same (cZ v)).append (.cons (Jm (EQ (s4.trans v) a3) (af.refl _) dr) .nil)
   ·obtain⟨_,s4,dn⟩:=q;refine k D3 c X (S.free J) (S.trans s4) I ?_;have e3:(n:Int).toNat=n:=Te n;rw[e3]at dn;exact dn.same (fu (S.trans Z).ll)
theorem Ao:aD ["word"] ["word"] (ag (top 18)):=by refine⟨rfl,rfl,rfl,?_,rfl,?_,?_⟩<;>decide +kernel
theorem qH (T:Tx K mg A):aA P w K mg base CX0 1 A.kE A.jE ["word"] (lu K):=by
 refine T.jt.fn.ok Ao (λc H Q E h=>?_) (λ_ _ _ s H c Q E _ h=>?_)
 ·obtain⟨x,rfl,_⟩:=h;rfl
 ·obtain⟨x,rfl,b,k⟩:=h;refine⟨_,ak (aC (dD (aa (aH o4 (by rfl) T.dv Yb (aa (pv 0) ae)) (aa (pv 0) ae)))),?_⟩;exact⟨_,rfl,x,rfl,b.s,_,rfl,(by show 2<=Zc;decide),λp a=>k p a⟩
theorem lE:aD ["part","length","text"] ["part"] (ag (top 31)):=by refine⟨rfl,rfl,rfl,?_,rfl,?_,?_⟩<;>decide +kernel
theorem yZ (T:Tx K mg A):aA P w K mg base CX0 2 A.m9 A.nJ ["part"] (qy K):=by
 have t:aA P w K mg base CX0 1 _ _ _ _:=(ij T).mono (by decide);have u:aA P w K mg base CX0 1 _ _ _ _:=(qH T).mono (by decide);refine T.oo.fn.ok lE (λB H Q E h=>?_) (λ_ _ _ s H B Q E q h=>?_)
 ·obtain⟨v,f,rfl,_⟩:=h;rfl
 ·obtain⟨v,f,rfl,j,d,k⟩:=h;obtain⟨a,x,y,g,o,_,_,n⟩:=qg j;refine⟨_,aj (bB (cU (ar t q (by rfl) T.cC.mg T.cC.fn.kp T.cC.bd .nil ay (aa (pv 0) ae))) (ak (aC (dD (aa ap (aa (ee (r:=Gz K) PySem.F.plainAttrs_tuple PySem.F.slot_tuple_index PySem.F.type_tuple_index GO (gp (v:=.ref A.bV) (by rfl) T.kg rfl) (aa (bi (r:=m8 K) fA (pv 0) ap (λ_ _=>rfl)) ae)) (aa aJ ae)))))) aO)
   (aj (nv (ar u q (by rfl) T.jt.mg T.jt.fn.kp T.jt.bd .nil ay (aa (bi (r:=m8 K) fA (pv 0) ap (λ_ _=>rfl)) ae)) (c7 rfl (aI (av (i:=1) lE.nd rfl (Or.inl rfl)) (aI (av (i:=2) lE.nd rfl (Or.inl rfl)) bU))))
   (ak (aC (dD (aa ap (aa (pv 1) (aa (pv 2) ae))))))),?_⟩
  refine⟨_,rfl,v,f,rfl,j,_,rfl,?_⟩;cases f with
  | hole m=>
   obtain⟨rfl,rfl⟩:=n;refine b9 ?_;subst g;have e:m<3:=d;refine⟨.inr (.inl ⟨rfl,T.yf⟩),_,rfl,a,_,1,_,rfl,rfl,o,rfl,A.bV,_,_,m,rfl,rfl,T.jR _,rfl,Io,e,LN e,Oz e,(by show 3<=Zc;decide),λp c=>?_⟩;exact k _ _ (af.new c) (.tup (.of ((g7 c).trans ab)) (.cons (.int 1) (.cons (.int _) (.cons (.str (by decide +kernel)) .nil))))
  | word z=>
   obtain⟨rfl,rfl⟩:=n;refine br ?_;subst g;have l:TOk y:=d;refine⟨_,rfl,a,_,1,_,rfl,rfl,o,rfl,y,rfl,l.1,λp c=>?_⟩;refine⟨p,_,rfl,.of ab,rfl,_,_,rfl,_,_,rfl,rfl,?_⟩;refine⟨_,rfl,_,rfl,(by show 3<=Zc;decide),λ_ b=>?_⟩;exact k _ _ ((af.new c).trans (af.new b)) (.tup (.of ((g7 ((af.new c).free b)).trans ab)) (.cons (.int 0) (.cons (.int _) (.cons (.str l.2) .nil))))
theorem tX:aD ["pattern"] ["pattern"] (ag (top 32)):=by refine⟨rfl,rfl,rfl,?_,rfl,?_,?_⟩<;>decide +kernel
theorem ug (T:Tx K mg A):aA P w K mg base CX0 3 A.jg A.i9 ["pattern"] (lj K):=by
 have I:aA P w K mg base CX0 2 _ _ _ _:=(yZ T).mono (by decide);refine T.kW.fn.ok tX (λR H Q E h=>?_) (λ_ _ _ s H R Q E S h=>?_)
 ·obtain⟨v,ps,rfl,_⟩:=h;rfl
 ·obtain⟨v,ps,rfl,J,l,k⟩:=h;obtain⟨a,xs,G,B,j⟩:=fc J;refine⟨_,ak (aC (dD (aa (aH (r:=d4 K) bh (by rfl) T.dv Yb (aa (pv 0) ae)) (aa (aU (N':=["part"]) (n:=1) (fi:=[]) (g:=aN 0) rfl (aY (ag (top 32)) ["pattern"] (by decide +kernel)) (aM (pv 0)) (λs H F=>av (i:=0) (show(["part"]:List Str).Nodup by decide +kernel) rfl (Or.inl rfl) (.inr rfl)) (λs H F=>aL) (λs H F=>ar I S (by rfl) T.oo.mg T.oo.fn.kp T.oo.bd .nil ay (aa (pv 0) ae))) ae)))),?_⟩;subst G;have f:xs.length=ps.length:=by rw[j.length,R8]
  have L:=l.1;refine⟨_,rfl,a,xs,rfl,.inl B,?_⟩;refine⟨_,rfl,a,rfl,⟨_,B⟩,λD m=>?_⟩;refine aK (K:=K) (xs:=xs) (λi b q d=>(∃u,q=[u])/\af H d/\aE K (lim (upd H D (.lst [])) d) b ((ps.take i).map Pt.key)) ab ⟨⟨_,rfl⟩,af.new m,.nil⟩ (λi b q d _ _ p=>p.2.1.seq B) (λi x b q d M c p=>?_) (λb q d c p=>?_)
  ·obtain⟨⟨u,rfl⟩,p⟩:=p;obtain⟨C,e,U⟩:=jW j M;have V:i<ps.length:=aG e;have O:b.length=i:=by rw[p.2.length,R8,Sx];lia
   refine cq ⟨_,rfl,x,C,rfl,U.same p.1,l.2 C (Sd e),λr _ y dr=>⟨b,y _ _ c,small (by lia),_,ab,⟨_,rfl⟩,ax m (p.1.trans y),?_⟩⟩;rw[oV (ys:=[]) ab,dO e];exact(p.2.same (cZ y)).append (.cons (dr.same (fu (EQ p.1 c))) .nil)
  ·obtain⟨_,p⟩:=p;refine⟨(by show 2<=Zc;decide),λt o=>?_⟩;have N:af H (upd d t (.tup [.int xs.length,.ref D])):=p.1.trans (af.new o);rw[So (by lia)]at p;refine k _ _ N ?_;have e:k5 ps = .tuple [.int xs.length,.list (ps.map Pt.key)]:=by rw[f];rfl
   rw[e];have z:(upd d t (.tup [.int xs.length,.ref D])) D=some (.lst b):=by rw[aq (aw c o)];exact c
   refine .tup (.of ((g7 (p.1.free o)).trans ab)) (.cons (.int _) (.cons (.lst (.of ((g7 m).trans z)) ?_) .nil));exact(p.2.same (cZ (af.new o))).same (fu (af.new m).ll)
theorem A0:aD ["patterns"] ["patterns"] (ag (top 33)):=by refine⟨rfl,rfl,rfl,?_,rfl,?_,?_⟩<;>decide +kernel
theorem nA (T:Tx K mg A):aA P w K mg base CX0 6 A.jv A.jw ["patterns"] (jZ K):=by
 have rX:aA P w K mg base CX0 3 _ _ _ _:=(ug T).mono (by decide);refine T.ordered.fn.ok A0 (λvs H Q E h=>?_) (λ_ _ _ s H vs Q E hr h=>?_)
 ·obtain⟨a,xs,pss,rfl,_⟩:=h;rfl
 ·obtain⟨a,xs,pss,rfl,hq,J,F,U,k⟩:=h;refine⟨_,ak (aC (aU (N':=["pattern"]) (n:=1) (fi:=[]) (g:=aN 0) rfl (aY (ag (top 33)) ["patterns"] (by decide +kernel)) (aM (Gp (a:=.int) (r:=E3) .int rX hr T.kW.bd (by rfl) T.kU (by rfl) T.kW.mg (aa (pv 0) ae))) (λs H fp=>av (i:=0) (show(["pattern"]:List Str).Nodup by decide +kernel) rfl (Or.inl rfl) (.inr rfl)) (λs H fp=>aL) (λs H fp=>ia (r:=oX K) j7 (by rfl) T.nr ku (aa (pv 0) ae)))),?_⟩;have N:xs.length=pss.length:=by rw[F.length,R8]
  refine⟨_,rfl,_,rfl,a,xs,rfl,hq,J,?_⟩;refine qa (K:=K) (H0:=H) xs (pss.map k5) [] [] H (by rw[R8];exact N) (af.refl H) .nil (λi x d f _ c I y kk=>?_) (λks H1 s1 d1=>?_)
  ·obtain⟨o,e,bN⟩:=gF F c;rw[Se,e]at I;cases I;exact⟨x,o,rfl,bN.same y,U o (Sd e),λr H' sr dr=>kk r H' sr (dr.same dA)⟩
  ·have a6:aE K H1 ks (pss.map k5):=by simpa using d1
   refine⟨pss.map k5,a6,λd I=>?_,λd I=>?_,λY p a0 hp ho=>?_⟩
   ·obtain⟨o,_,rfl⟩:=Si.mp I;exact ER o
   ·obtain⟨o,_,rfl⟩:=Si.mp I;exact EU o
   ·refine⟨Y,rfl,⟨_,.of ab⟩,λD hD=>?_⟩;have V:p.length=xs.length:=by rw[hp.length_eq,TK]
    have B:p.Perm (Y7 pss.length):=by rw[<-N];exact hp
    have a5:(sel pss p).length=xs.length:=by unfold sel;rw[R8,V]
    have z:af H (upd H1 Y (.lst (picked xs p))):=s1.trans (af.new a0);generalize hHb:upd H1 Y (HO.lst (picked xs p))=Hb at z hD;have IV:Hb Y=some (.lst (picked xs p)):=by rw[<-hHb];exact ab
    have m:af Hb (upd Hb D (.lst [])):=af.new hD;refine aK (K:=K) (xs:=picked xs p) (λi b W f=>(∃u,W=[u])/\af Hb f/\GP (upd Hb D (.lst [])) f b/\aE K (lim (upd Hb D (.lst [])) f) b (((sel pss p).take i).map bx)) ab ⟨⟨_,rfl⟩,m,(λx c=>by cases c),.nil⟩ (λi b W f _ _ q=>.of (q.2.1 _ _ IV)) (λi x b W f c j q=>?_) (λb W f j q=>?_)
    ·obtain⟨q0,y,Z,L⟩:=q;apply dJ q0;clear q0;intro u;obtain⟨o,C,Hj,bN⟩:=JP F B c;obtain⟨a',G,rfl,a4,O⟩:=fc bN;have a7:b.length=i:=by rw[L.length,R8,Sx];have:=aG C;lia
     have a8:i<xs.length:=by rw[<-a5];exact aG C
     refine cq ⟨_,rfl,a',G,rfl,.inl ((z.trans y).seq a4),λl hl=>?_⟩;have R:l≠D:=(aw j hl).symm;have S:(upd Hb D (.lst [])) l=none:=by rw[aq R];exact y.free hl
     have M:af f (upd f l (.lst G)):=af.new hl;refine⟨b,M _ _ j,small (by lia),_,ab,⟨_,rfl⟩,ax hD (y.trans M),?_,?_⟩
     ·intro x c;rcases Sz.mp c with c | c
      ·obtain⟨t,ys,rfl,v,h2,X⟩:=Z x c;have a3:t≠D:=λe=>by subst e;rw[ab]at v;cases v
       exact⟨t,ys,rfl,v,by rw[aq a3];exact M _ _ h2,X⟩
      ·simp only[Sg]at c;subst c;exact⟨l,G,rfl,S,by rw[aq R];exact ab,by rw[O.length,R8];exact(U o Hj).1⟩
     ·rw[oV (ys:=[]) ab,dO C];exact(L.same (cZ M)).append (.cons (.lst (.of ((g7 S).trans ab)) (rL (z.trans m) ((z.trans y).trans M) O)) .nil)
    ·obtain⟨_,y,Z,L⟩:=q;have a9:(picked xs p).length=xs.length:=by rw[nZ,V]
     rw[So (by lia)]at L;refine k D b f (sel pss p) (z.free hD) (z.trans y) j (Hw B) (Ba B ho) (λx c=>?_) (λx c=>?_) (L.same (fu (z.trans m).ll))
     ·obtain⟨t,ys,rfl,v,h2,X⟩:=Z x c;exact⟨t,ys,rfl,(z.trans m).free v,h2,X⟩
     ·obtain⟨t,ys,rfl,v,h2,X⟩:=Z x c;intro e;cases e;rw[ab]at v;cases v
theorem lQ:aD ["line","patterns","fitting"] ["line","patterns"] (ag (top 47)):=by refine⟨rfl,rfl,rfl,?_,rfl,?_,?_⟩<;>decide +kernel
theorem uw (T:Tx K mg A):aA P w K mg base CX0 7 A.i5 A.i7 ["line","patterns"] (lH K):=by
 have jz:aA P w K mg base CX0 6 _ _ _ _:=(nA T).mono (by decide);have xH:aA P w K mg base CX0 5 _ _ _ _:=(xE T).mono (by decide);have Me:aA P w K mg base CX0 6 _ _ _ _:=(HK T).mono (by decide);refine T.dz.fn.ok lQ (λvs H Q E h=>?_) (λ_ _ _ s H vs Q E Y h=>?_)
 ·obtain⟨z,a,xs,pss,rfl,_⟩:=h;rfl
 ·obtain⟨z,a,xs,pss,rfl,N,_,J,C,hz,Z,k⟩:=h;have a4:xs.length=pss.length:=by rw[J.length,R8]
  refine⟨_,aj (bf (i:=2) lQ.nd rfl (Or.inl rfl) (ar jz Y (by rfl) T.ordered.mg T.ordered.fn.kp T.ordered.bd .nil ay (aa (aU (N':=["pattern","line"]) (n:=1) (fi:=[0]) (g:=aN 0) rfl (aY (ag (top 47)) ["line","patterns","fitting"] (by decide +kernel)) (aM (pv 1)) (λs H fp=>av (i:=0) (show(["pattern","line"]:List Str).Nodup by decide +kernel) rfl (Or.inl rfl) (.inr rfl)) (λs H fp=>eC (cU (ar Me Y (by rfl) T.fits.mg T.fits.fn.kp T.fits.bd .nil ay (aa (pv 0) (aa (pv 1) ae))))) (λs H fp=>pv 0)) ae)))
   (ak (aC (HX xH Y T.qb.bd rfl (by rfl) T.J0 (by rfl) T.qb.mg (aa (pv 2) ae)))),?_⟩
  refine⟨_,rfl,a,rfl,⟨_,N⟩,λD hD=>?_⟩;refine aK (K:=K) (xs:=xs) (λi b M O=>(∃u,M=[u,some (.str z)])/\af H O/\aE K H b (((pss.take i).filter (cL z)).map bx)) ab ⟨⟨_,rfl⟩,af.new hD,.nil⟩ (λi b M O _ _ q=>q.2.1.seq N) (λi x b M O r f q=>?_) (λb M O f q=>?_)
  ·obtain⟨q0,o,v⟩:=q;apply dJ q0;clear q0;intro u;obtain⟨ps,F,I⟩:=gF J r;have hi:=aG F;have X:b.length<=i:=by
    rw[v.length,R8];exact Sl (S0 _ _) (by rw[Sx];lia)
   have et:pss.take (i+1)=pss.take i++[ps]:=by rw[SG,F];rfl
   refine⟨_,rfl,_,rfl,x,z,ps,rfl,I.same o,(C ps (Sd F)).2,hz,Z,λ_ R=>⟨_,rfl,?_⟩⟩;by_cases V:cL z ps=true
   ·have y:aW ps (Y4 z " ")=true:=V;rw[y];refine b9 ?_;refine⟨_,rfl,b,R _ _ f,small (by lia),_,ab,⟨_,rfl⟩,ax hD (o.trans R),?_⟩;rw[et,S8,Sm];have e2:[ps].filter (cL z)=[ps]:=by simp[V]
    rw[e2];exact v.append (.cons I .nil)
   ·have y:aW ps (Y4 z " ")=false:=SI.mpr V;rw[y];refine br ⟨b,R _ _ f,⟨_,rfl⟩,o.trans R,?_⟩;have e2:[ps].filter (cL z)=[]:=by simp[V]
    rw[et,S8,e2,S3];exact v
  ·obtain⟨_,o,v⟩:=q;rw[So (by lia)]at v;have a3:(pss.filter (cL z)).length<=pss.length:=S0 _ _;have X:b.length=(pss.filter (cL z)).length:=by rw[v.length,R8]
   refine⟨D,b,pss.filter (cL z),rfl,.of f,by lia,v.same o,λps c=>C ps ((SM.mp c).1),λ_ fw H5 l _ s5 Ri U iq fr _ B=>?_⟩;have j:fw.length=l.length:=by rw[B.length,R8]
   have Q5:∀ps∈l,POk ps:=λps c=>C ps ((SM.mp (U.mem_iff.mp c)).1);refine⟨_,rfl,_,rfl,?_⟩;refine wc (kds:=l.map looseD) (Sh.ok (.list .int)) (.of Ri) (by rw[R8];exact j) (λd S=>?_) (λm x d H6 _ r S L kk=>?_) (λMn=>?_) (λW H6 L=>?_)
   ·obtain⟨ps,_,rfl⟩:=Si.mp S;exact⟨tm ps,DG ps⟩
   ·obtain⟨ps,G,bN⟩:=gF B r;rw[Se,G]at S;cases S;exact⟨x,ps,rfl,(bN.same dA).same L,Q5 ps (Sd G),λD7 H7 _ s7 PB=>kk (.ref D7) H7 s7 (.lst (.of PB) vo)⟩
   ·subst Mn;have p:l=[]:=Tb (by rw[<-j];rfl);subst p;exact k .non H5 (o.trans s5) (.inl ⟨U.symm.eq_nil,rfl⟩)
   ·have p:l≠[]:=λe=>W (Tb (by rw[j,e];rfl));obtain⟨ps,c,FO⟩:=Hu p iq;have a0:cn (l.map looseD)<fw.length:=by rw[j];exact aG c
    have r:fw[cn (l.map looseD)]? = some fw[cn (l.map looseD)]:=R9 a0;have kK:fw.getD (cn (l.map looseD)) .non=fw[cn (l.map looseD)]:=by simp[YD,r]
    rw[kK];obtain⟨t,ys,ht,h1,h2,_⟩:=fr _ (Sd r);obtain⟨_,JV,bN⟩:=gF B r;rw[c]at JV;cases JV;refine k _ H6 ((o.trans s5).trans L) (.inr ⟨t,ys,ps,ht,o.free h1,L _ _ h2,⟨U.mem_iff.mp FO.1,λq N=>FO.2 q (U.mem_iff.mpr N)⟩,?_⟩);exact(bN.same (cZ L)).same (fu o.ll)
def nE (K:Vz):Sp:=λvs H Q _=>∃(a b:Z6) (xs:List V) (ks:List Key),vs=[.ref a,.ref b]/\SqL K H a xs/\SqL K H b (ks.map kV)/\ks.length=xs.length/\xs.length<=1000 /\
 ∀(D:Z6) (as:List Z6) H',H D=none->af H H'->H' D=some (.lst (as.map V.ref))->(∀a∈as,H a=none)->gC (λa g=>H' a=some (.lst g)) as (grp ks xs)->Q (.ref D) H'
theorem kz:aD ["rows","keys","groups","row","key"] ["rows","keys"] (ag (top 36)):=by refine⟨rfl,rfl,rfl,?_,rfl,?_,?_⟩<;>decide +kernel
theorem tR (T:Tx K mg A):aA P w K mg base CX0 1 A.mw A.mD ["rows","keys"] (nE K):=by
 refine T.kC.fn.ok kz (λvs H Q E h=>?_) (λ_ _ _ s H vs Q E _ h=>?_)
 ·obtain⟨a,b,xs,d,rfl,_⟩:=h;rfl
 ·obtain⟨a,b,xs,d,rfl,a3,U,_,_,k⟩:=h;refine⟨_,aj (bf (i:=2) kz.nd rfl (Or.inl rfl) zc)
   (aj (fT Ys rfl (sQ (by rfl) T.vw (aa (pv 0) (aa (pv 1) ae))) (c7 rfl (aI (av (i:=3) kz.nd rfl (Or.inl rfl)) (aI (av (i:=4) kz.nd rfl (Or.inl rfl)) bU))) (ak (cm (ee Y9 Yj Yk cJ (IK (pv 2) (pv 4) (bC ae) ⟨rfl,rfl,rfl,rfl⟩) (aa (pv 3) ae)))))
   (ak (aC (E1 rfl (by rfl) T.nr ku (pv 2))))),?_⟩
  intro G hG;have sG:af H (upd H G (.dK [])):=af.new hG;have S:(upd H G (.dK [])) G=some (.dK []):=ab;refine⟨_,rfl,_,rfl,a,b,rfl,⟨_,sG.seq a3⟩,⟨_,sG.seq U⟩,?_⟩;generalize upd H G (.dK [])=H1 at sG S ⊢;refine C3 (K:=K) (xs:=xs) (ys:=d.map kV) (λi σ f=>(∃u v,σ=[some (.ref a),some (.ref b),some (.ref G),u,v])/\af H f/\∃(as:List Z6) (kvs:List (Key×V)),f G=some (.dK kvs)/\GL H f G as kvs (b7 ((d.zip xs).take i))/\kvs.length<=i/\∀g∈(b7 ((d.zip xs).take i)).map (·.2),g.length<=i)
   ⟨⟨_,_,rfl⟩,sG,[],[],S,.nil,Sb _,λg hg=>by cases hg⟩ (λi σ f q=>⟨q.2.1.seq a3,q.2.1.seq U⟩) (λi x y σ f p hx W q hp=>?_) (λσ f q=>?_)
  ·obtain⟨Y,s2,as,kvs,r,M,a8,n⟩:=q;apply wH Y;clear Y;intro u v;have hi:=aG hx;rw[Se]at W;obtain⟨ky,a5,rfl⟩:∃ky,d[i]? = some ky/\y=kV ky:=by
    cases e:d[i]? with
    | none=>rw[e]at W;cases W
    | some ky=>rw[e]at W;cases W;exact⟨ky,rfl,rfl⟩
   have hz:(d.zip xs)[i]? = some (ky,x):=by rw[SU];exact⟨a5,hx⟩
   have sp:af f (upd f p (.tup [x,kV ky])):=af.new hp;have Z:(upd f p (.tup [x,kV ky])) p=some (.tup [x,kV ky]):=ab;have ai:G≠p:=aw r hp;have s3:=s2.trans sp;have t:=sp _ _ r;have o:GL H (upd f p (.tup [x,kV ky])) G as kvs (b7 ((d.zip xs).take i)):=M.keep λc l=>by
    obtain⟨⟨g,e⟩,_⟩:=M.mem c l;exact aq (aw e hp)
   generalize upd f p (.tup [x,kV ky])=H3 at sp Z s3 t o ⊢;refine⟨p,_,rfl,.of Z,rfl,_,_,rfl,_,_,rfl,rfl,?_⟩;refine⟨_,rfl,G,rfl,.inl ⟨kvs,.of t⟩,_,rfl,Sy _,λL hL=>?_⟩;have sL:af H3 (upd H3 L (.lst [])):=af.new hL;have X:(upd H3 L (.lst [])) L=some (.lst []):=ab;have J:L≠G:=(aw t hL).symm;have NC:L∉as:=λz=>by
    obtain⟨⟨g,e⟩,_⟩:=o.mem L z;rw[hL]at e;cases e
   have N:H L=none:=s3.free hL;have s4:=s3.trans sL;have C:=sL _ _ t;have j:GL H (upd H3 L (.lst [])) G as kvs (b7 ((d.zip xs).take i)):=o.keep λc l=>by
    obtain⟨⟨g,e⟩,_⟩:=o.mem c l;exact aq (aw e hL)
   generalize upd H3 L (.lst [])=H4 at sL X s4 C j ⊢;have m:b7 ((d.zip xs).take (i+1))=bL (b7 ((d.zip xs).take i)) ky x:=zd hz;have B:∀g∈(bL (b7 ((d.zip xs).take i)) ky x).map (·.2),g.length<=i+1:=λg hg=>by
    obtain⟨q,hq,rfl⟩:=Si.mp hg;unfold bL at hq
    split at hq
    ·obtain⟨q',a9,rfl⟩:=Si.mp hq;have:=n q'.2 (TY a9)
     split
     ·show(q'.2++[x]).length<=_;rw[Sj,Sw];lia
     ·lia
    ·rcases Sz.mp hq with z | z
     ·have:=n q.2 (TY z);lia
     ·rw[Sg.mp z];show 1<=_;lia
   refine⟨kvs,ky,C,rfl,small (by lia),λ_ a7=>?_,λhn=>?_⟩
   ·obtain⟨c,g,rfl,l,a0,a4,I⟩:=j.grow (x:=x) a7;have O:=j.mem c l;refine⟨.inl ⟨rfl,_,.of a0⟩,_,rfl,c,g,_,rfl,rfl,a0,small (by have:=n g a4;lia),?_⟩;refine⟨⟨_,_,rfl⟩,ax O.2.1 s4,as,kvs,by rw[aq O.2.2.symm];exact C,by rw[m];exact I,by lia,by rw[m];exact B⟩
   ·have ag:H G=none:=hG;have R:(upd H4 G (.dK (putK kvs ky (.ref L)))) L=some (.lst []):=by rw[aq J];exact X
    refine⟨.inl ⟨rfl,_,.of R⟩,_,rfl,L,[],_,rfl,rfl,R,small (by decide),?_⟩;have a6:(upd (upd H4 G (.dK (putK kvs ky (.ref L)))) L (.lst ([]++[x]))) L=some (.lst [x]):=ab;have ah:GL H (upd (upd H4 G (.dK (putK kvs ky (.ref L)))) L (.lst ([]++[x]))) G as kvs (b7 ((d.zip xs).take i)):=j.keep λc l=>by
     have:=j.mem c l;rw[aq (λ(z:c=L)=>NC (z ▸ l)),aq this.2.2]
    obtain⟨e1,I⟩:=ah.more hn a6 N J NC;refine⟨⟨_,_,rfl⟩,ax N (ax ag s4),as++[L],kvs++[(ky,.ref L)],by rw[aq J.symm,ab,e1],by rw[m];exact I,by rw[Sj,Sw];lia,by rw[m];exact B⟩
  ·obtain⟨Y,s2,as,kvs,r,M,a8,n⟩:=q;apply wH Y;clear Y;intro u v;have hm:min xs.length (d.map kV).length=(d.zip xs).length:=by rw[R8,T5,Nat.min_comm]
   rw[hm,So (Sb _)]at M;refine⟨_,rfl,G,kvs,rfl,.of r,λD hD=>?_⟩;rw[M.vals];have sD:af f (upd f D (.lst (as.map V.ref))):=af.new hD;exact k D as _ (s2.free hD) (s2.trans sD) ab (λc l=>(M.mem c l).2.1) (M.lists.mono λc g e=>sD _ _ e)
def iT (K:Vz):Sp:=λvs H Q _=>∃(u:V) (p n:Nat) (wss:List (List Str)),vs=[u,.int p]/\Den K H u (gD wss)/\GOk n wss/\p<n /\
 ∀(D:Z6) H',H D=none->af H H'->H' D=some (.lst ((wAt wss p).map V.str))->Q (.ref D) H'
def iN (K:Vz):Sp:=λvs H Q _=>∃(u:V) (p n:Nat) (wss:List (List Str)),vs=[u,.int p]/\Den K H u (gD wss)/\GOk n wss/\p<n /\
 ∀H',af H H'->Q (.int (uAt wss p).length) H'
def gA (K:Vz):Sp:=λvs H Q _=>∃(u:V) (p n:Nat) (wss:List (List Str)) (t:Z6) (s l:Int),vs=[u,.int p,.ref t]/\Den K H u (gD wss)/\GOk n wss/\p<n/\SqT K H t [.int s,.int l] /\
 ∀H',af H H'->Q (.bl (gY wss p s l)) H'
theorem yB:aD ["group","place"] ["group","place"] (ag (top 37)):=by refine⟨rfl,rfl,rfl,?_,rfl,?_,?_⟩<;>decide +kernel
theorem lh (T:Tx K mg A):aA P w K mg base CX0 1 A.ie A.iF ["group","place"] (iT K):=by
 refine T.eD.fn.ok yB (λL H Q E h=>?_) (λ_ _ _ s H L Q E _ h=>?_)
 ·obtain⟨u,p,n,wss,rfl,_⟩:=h;rfl
 ·obtain⟨u,p,n,wss,rfl,J,z,_,k⟩:=h;obtain⟨a,xs,rfl,G,e⟩:=C8 J;have t:xs.length=wss.length:=by rw[e.length,R8]
  refine⟨_,ak (aC (aU (N':=["words","place"]) (n:=1) (fi:=[1]) (g:=aN 0) rfl (aY (ag (top 37)) ["group","place"] (by decide +kernel)) (aM (pv 0)) (λs H F=>av (i:=0) (show(["words","place"]:List Str).Nodup by decide +kernel) rfl (Or.inl rfl) (.inr rfl)) (λs H F=>aL) (λs H F=>bi (r:=dQ K) a9 (pv 0) (pv 1) (λ_ _=>rfl)))),?_⟩;refine⟨_,rfl,a,rfl,⟨_,G⟩,λD l=>?_⟩;refine aK (K:=K) (xs:=xs) (λi b j d=>(∃u,j=[u,some (.int p)])/\af H d/\b=(wAt (wss.take i) p).map V.str) ab ⟨⟨_,rfl⟩,af.new l,rfl⟩ (λi b j d _ _ q=>q.2.1.seq G) (λi x b j d C m q=>?_) (λb j d c q=>?_)
  ·obtain⟨I,f,rfl⟩:=q;apply dJ I;clear I;intro u;have O:=aG C;obtain⟨ws,r,B,rfl,y⟩:=pe e C;have N:=z.row ws (Sd B);have o:p<ws.length:=by lia
   have v:(ws.map V.str)[p]? = some (.str (ws.getD p Yh)):=by rw[Se,Sr,R9 o];rfl
   have M:=z.le;refine cq ⟨_,rfl,_,rfl,r,_,_,_,rfl,rfl,f.seq y,cA v,_,m,small (by unfold wAt;rw[R8,R8,Sx];lia),_,ab,⟨_,rfl⟩,ax l f,?_⟩;rw[zO B,Sm];rfl
  ·obtain⟨_,f,rfl⟩:=q;rw[t,So (Sb _)]at c;exact k D d l f c
theorem oR:aD ["group","place"] ["group","place"] (ag (top 38)):=by refine⟨rfl,rfl,rfl,?_,rfl,?_,?_⟩<;>decide +kernel
theorem oq (T:Tx K mg A):aA P w K mg base CX0 2 A.fW A.fY ["group","place"] (iN K):=by
 have e:aA P w K mg base CX0 1 _ _ _ _:=(lh T).mono (by decide);refine T.fe.fn.ok oR (λg H Q E h=>?_) (λ_ _ _ s H g Q E i h=>?_)
 ·obtain⟨u,p,n,a,rfl,_⟩:=h;rfl
 ·obtain⟨u,p,n,a,rfl,d,c,j,k⟩:=h;refine⟨_,ak (aC (wF D6 rfl (by rfl) T.dv Yb (by rfl) T.E7 AD (aa (ar e i (by rfl) T.eD.mg T.eD.fn.kp T.eD.bd .nil ay (aa (pv 0) (aa (pv 1) ae))) ae))),?_⟩;refine⟨_,rfl,_,rfl,u,p,n,a,rfl,d,c,j,λD f _ l b=>⟨D,_,rfl,.of b,Ua (c.LJ p) (by decide),k f l⟩⟩
theorem Fc {α:Type}{l m:List α}{f:α->Bool} (h:l.Perm m):l.all f=m.all f:=by
 rw[SR,SJ,SJ];exact⟨λq x hx=>q x (h.mem_iff.mpr hx),λq x hx=>q x (h.mem_iff.mp hx)⟩
theorem Dj (ws:List Str):(ws.map V.str).all iB=true:=by
 rw[SJ];intro x hx;obtain⟨w,_,rfl⟩:=Si.mp hx;rfl
theorem AS (ws:List Str) (w:Str):(ws.map V.str).countP (λz=>eqV z (.str w))=ws.countP λz=>decide (z=w):=by
 rw[List.countP_map];rfl
theorem bJ:aD ["group","place","sieve","spread","least","words","unlike"] ["group","place","sieve"] (ag (top 39)):=by refine⟨rfl,rfl,rfl,?_,rfl,?_,?_⟩<;>decide +kernel
theorem kQ (T:Tx K mg A):aA P w K mg base CX0 2 A.d8 A.d9 ["group","place","sieve"] (gA K):=by
 have iC:aA P w K mg base CX0 1 _ _ _ _:=(lh T).mono (by decide);refine T.dq.fn.ok bJ (λvs H Q E h=>?_) (λ_ _ _ s H vs Q E hr h=>?_)
 ·obtain⟨u,p,n,a,t,s,l,rfl,_⟩:=h;rfl
 ·obtain⟨u,p,n,a,t,s,l,rfl,hd,G,hp,M,k⟩:=h;refine⟨_,aj (nv (pv 2) (c7 rfl (aI (av (i:=3) bJ.nd rfl (Or.inl rfl)) (aI (av (i:=4) bJ.nd rfl (Or.inr rfl)) bU))))
   (aj (bf (i:=5) bJ.nd rfl (Or.inr rfl) (ar iC hr (by rfl) T.eD.mg T.eD.fn.kp T.eD.bd .nil ay (aa (pv 0) (aa (pv 1) ae))))
   (aj (bf (i:=6) bJ.nd rfl (Or.inl rfl) (wF (og rfl hr) rfl (by rfl) T.kU p5 (by rfl) T.E7 AD (aa (pv 5) ae)))
   (ak (aC (nR (Ax sX sX ap (aH (r:=d4 K) bh (by rfl) T.dv Yb (aa (pv 6) ae)) (pv 3)) (kY (aH (r:=EH K) (lB rfl) (by rfl) T.Am uo (aa (aU (N':=["word","least","words"]) (n:=1) (fi:=[4,5]) (g:=aN 0) rfl (aY (ag (top 39)) ["group","place","sieve","spread","least","words","unlike"] (by decide +kernel)) (aM (pv 6)) (λs H Y=>av (i:=0) (show(["word","least","words"]:List Str).Nodup by decide +kernel) rfl (Or.inl rfl) (.inr rfl)) (λs H Y=>aL) (λs H Y=>cQ Cz (wO (K:=K) rfl (r:=E2 K) Y9 YK PySem.F.type_list_count F0 (pv 2) (aa (pv 0) ae)) (pv 1) (aQ _))) ae)))))))),?_⟩
  refine⟨_,rfl,t,_,rfl,M,rfl,_,_,rfl,_,_,rfl,rfl,?_⟩;refine⟨_,rfl,_,rfl,u,p,n,a,rfl,hd,G,hp,λW I _ s1 o=>?_⟩;refine⟨_,rfl,W,_,rfl,.of o,Ua (G.LJ p) (by decide),G.Mv p,λU b hU X _=>?_⟩;have O:af I (upd I U (.lst (b.map V.str))):=af.new hU;have c:(upd I U (.lst (b.map V.str))) U=some (.lst (b.map V.str)):=ab;have v:=O _ _ o;have D:=s1.trans O;generalize upd I U (.lst (b.map V.str))=H2 at O c v D ⊢;have N:b.length=(uAt a p).length:=X.length_eq;have m:((b.map V.str).length:Int)=((uAt a p).length:Int):=by rw[R8,N]
  refine⟨_,rfl,U,_,rfl,.inl (.of c),_,_,rfl,rfl,_,rfl,?_⟩;rw[m];cases c1:decide ((2:Int)<=((uAt a p).length:Int))with
  | false=>
   refine br ⟨_,rfl,br ?_⟩;have e:gY a p s l=false:=by unfold gY;rw[c1];rfl
   rw[<-e];exact k H2 D
  | true=>
   refine b9 ⟨_,rfl,_,_,rfl,rfl,_,rfl,?_⟩;cases c2:decide (((uAt a p).length:Int)<=s)with
   | false=>
    refine br ?_;have e:gY a p s l=false:=by unfold gY;rw[c1,c2];rfl
    show Q (.bl false) H2;rw[<-e];exact k H2 D
   | true=>
    refine b9 ⟨_,rfl,U,rfl,⟨_,.of c⟩,λB R=>?_⟩;refine aK (K:=K) (xs:=b.map V.str) (λi d J y=>(∃u,J=[u,some (.int l),some (.ref W)])/\af H2 y/\d=((b.take i).map λw=>decide (l<=((wAt a p).countP λz=>decide (z=w):Nat))).map V.bl) ab ⟨⟨_,rfl⟩,af.new R,rfl⟩ (λi d J y _ _ q=>.of (q.2.1 _ _ c)) (λi x d J y hx L q=>?_) (λd J y f q=>?_)
    ·obtain⟨Z,C,rfl⟩:=q;apply dJ Z;clear Z;intro _;obtain⟨_,S,rfl⟩:=e9 hx;have hi:=aG S;have hu:=G.Mv p;have j:=C _ _ v;refine cq ⟨_,rfl,.inl ⟨rfl,_,.of j⟩,_,rfl,W,_,_,rfl,rfl,.of j,rfl,Dj _,_,rfl,_,_,rfl,rfl,?_⟩;refine⟨_,L,small (by rw[R8,R8,Sx];lia),_,ab,⟨_,rfl⟩,ax R C,?_⟩;rw[AS,SG,S];simp
    ·obtain⟨_,C,rfl⟩:=q;rw[R8,So (Sb _)]at f;refine⟨B,_,rfl,.of f,?_⟩;have e:gY a p s l=((b.map λw=>decide (l<=((wAt a p).countP λz=>decide (z=w):Nat))).all id):=by
      unfold gY;rw[c1,c2,List.all_map,TX,TX];exact(Fc X).symm
     rw[<-e];exact k y (D.trans C)
def Nx:Str:=("place_to_part_at" : Str) ++ ".<locals>." ++ "<lambda>"
def cY (P:Z6) (H:Hp):Prop:=gU P ⟨120,27,120,69⟩ Nx H
def gR (K:Vz) (P:Z6):Sp:=λvs H Q _=>∃(u:V) (n:Nat) (wss:List (List Str)) (t:Z6) (s l:Int),vs=[u,.ref t]/\Den K H u (gD wss)/\GOk n wss/\SqT K H t [.int s,.int l]/\cY P H /\
 ∀H',af (wo P H) H'->cY P H'->Q (Pl (plc wss n s l)) H'
theorem gT:aD ["group","sieve","places"] ["group","sieve"] (ag (top 40)):=by refine⟨rfl,rfl,rfl,?_,rfl,?_,?_⟩<;>decide +kernel
theorem mJ (T:Tx K mg A):aA P w K mg base CX0 5 A.eR A.cS ["group","sieve"] (gR K A.aB):=by
 have mK:aA P w K mg base CX0 4 _ _ _ _:=(kQ T).mono (by decide);have pj:aA P w K mg base CX0 2 _ _ _ _:=(oq T).mono (by decide);refine T.dU.fn.okC T.lam.code gT (λvs H Q E h=>?_) (λ_ _ s H vs Q E hr h=>?_)
 ·obtain⟨u,n,wss,t,s,l,rfl,_⟩:=h;rfl
 ·obtain⟨u,n,wss,t,b,l,rfl,f,I,Z,a0,k⟩:=h;obtain⟨a,X,rfl,hq,M⟩:=C8 f;have ao:X.length=wss.length:=by rw[M.length,R8]
  have ai:0<wss.length:=Ug.mpr I.ne;have z:X[0]? = some X[0]:=R9 (by lia);obtain⟨a3,r0,a4,ah,PF⟩:=pe M z;have MS:=I.row a3 (Sd a4);have as:=I.DX;refine⟨_,aj (hJ (i:=2) (N':=["place","group","sieve"]) (n:=1) (fi:=[0,1]) (g:=aN 0) gT.nd rfl (Or.inl rfl) rfl (aY (ag (top 40)) ["group","sieve","places"] (by decide +kernel)) (dN (by rfl) T.g6 (aa (aH (r:=d4 K) bh (by rfl) T.dv Yb (aa (bi (r:=dQ K) a9 (pv 0) ap (λ_ _=>rfl)) ae)) ae)) (λs H fp=>av (i:=0) (show(["place","group","sieve"]:List Str).Nodup by decide +kernel) rfl (Or.inl rfl) (.inr rfl)) (λs H fp=>eC (cU (ar mK hr (by rfl) T.dq.mg T.dq.fn.kp T.dq.bd .nil ay (aa (pv 1) (aa (pv 0) (aa (pv 2) ae)))))) (λs H fp=>pv 0))
   (ak (aC (IA (P:=A.aB) (y:= "place") (N':=["place","group"]) (fi:=[0]) rfl hr (Lj (ag (top 40)) ["group","sieve","places"] (by decide +kernel)) rfl T.lam.hd T.lam.bm (λq _ s H=>ar pj (hr.in1.deeper _) (by rfl) T.fe.mg T.fe.fn.kp T.fe.bd .nil ay (aa (pv 1) (aa (pv 0) ae))) (by rfl) T.J0 (aa (pv 2) ae)))),?_⟩
  rw[ah]at z;refine⟨_,rfl,a,X,0,_,rfl,rfl,hq,cA (j:=0) z,r0,_,rfl,.inl PF,(n:Int),?_,by lia,by lia,λD hD=>?_⟩
  ·rw[R8,MS.1]
  refine eQ (λi v σ H4=>(∃u,σ=[u,some (.ref a),some (.ref t)])/\af H H4/\v=(jy wss i b l).map λp=>V.int (p:Nat)) ab ⟨⟨_,rfl⟩,af.new hD,rfl⟩ (λi v σ H4 _ B q=>?_) (λv σ H4 Y q=>?_)
  ·obtain⟨q0,o,rfl⟩:=q;apply dJ q0;clear q0;intro _;have a7:i<n:=by lia
   have aq:=Hz (wss:=wss) (i:=i) (s:=b) (l:=l);have e0:((0:Int)+(i:Int))=((i:Nat):Int):=by lia
   refine⟨_,rfl,_,rfl,_,rfl,.ref a,i,n,wss,t,b,l,?_,f.same o,I,a7,o.gL Z,λH5 W=>⟨_,rfl,?_⟩⟩
   ·rw[e0];rfl
   rw[DT];cases hf:gY wss i b l with
   | true=>
    refine b9 ⟨_,rfl,_,W _ _ B,small (by rw[R8];lia),_,ab,⟨_,rfl⟩,ax hD (o.trans W),?_⟩;have S:[i].filter (λp=>gY wss p b l)=[i]:=by simp[hf]
    rw[S,Sm,e0];rfl
   | false=>
    refine br ⟨_,W _ _ B,⟨_,rfl⟩,o.trans W,?_⟩;have S:[i].filter (λp=>gY wss p b l)=[]:=by simp[hf]
    rw[S,S3]
  ·obtain⟨_,o,rfl⟩:=q;have N:cY A.aB H4:=aV a0 o;refine⟨_,rfl,.ref D,rfl,N,λc H5 hn O a8=>?_⟩;have sw:af (wo A.aB H4) H5:=Fs hn;obtain⟨_,L⟩:=bj N;have a5:Den K H5 (.ref a) (gD wss):=(CM L (f.same o)).same sw;have a6:H5 D=_:=yg sw L Y λ_ e=>by cases e
   have G:af (wo A.aB H) H5:=(jF o).trans sw;have U:(n:Int).toNat=n:=by lia
   refine wc (kds:=(jy wss n b l).map λp=>.int (uAt wss p).length) (Sh.ok .int) (.of a6) (by rw[R8,R8,U]) (λd f=>?_) (λm x d H6 _ J f R kk=>?_) (λMn=>?_) (λC H6 R=>?_)
   ·obtain⟨p,_,rfl⟩:=Si.mp f;exact⟨⟨_,rfl⟩,Jq _⟩
   ·rw[U,Se]at J;rw[Se]at f;cases e:(jy wss n b l)[m]? with
    | none=>rw[e]at J;cases J
    | some p=>
     rw[e]at J f;cases J;cases f;have hp:=(zU (Sd e)).1;exact⟨_,rfl,R _ _ a8,_,rfl,_,rfl,.ref a,p,n,wss,rfl,a5.same R,I,hp,λH7 s7=>kk _ H7 s7 (.int _)⟩
   ·have e:plc wss n b l=none:=by
     unfold plc;rw[if_pos];have:=Tp.mp Mn
     rwa [U]at this
    have:=k H5 G O;rw[e]at this;exact this
   ·rw[U]at C ⊢;have F:jy wss n b l≠[]:=λe=>C (by rw[e];rfl);have hl:=yA wss _ F;have e:plc wss n b l=some ((jy wss n b l).getD (cn ((jy wss n b l).map λp=>.int (uAt wss p).length)) 0):=by unfold plc;rw[Zk F]
    have:=k H6 (G.trans R) (aV O R);rw[e]at this;have S:((jy wss n b l).map λp=>V.int (p:Nat)).getD (cn ((jy wss n b l).map λp=>.int (uAt wss p).length)) .non=V.int ((jy wss n b l).getD (cn ((jy wss n b l).map λp=>.int (uAt wss p).length)) 0:Nat):=by
     rw[Sr,Se,Sr,R9 hl];rfl
    rw[S];exact this
def rG (N:Nat) (K:Vz) (P:Z6):Sp:=λvs H Q _=>∃(B:Hp) (u:V) (n:Nat) (wss:List (List Str)) (t:Z6) (s l:Int),vs=[u,.ref t]/\af B H/\B P=none/\Den K B u (gD wss)/\GOk n wss/\SqT K H t [.int s,.int l]/\cY P H/\mu n wss<N /\
 ∀(D:Z6) (ys:List V) (C H':Hp),H D=none->af (wo P H) H'->cY P H'->H' D=some (.lst ys)->af B C->af C H'->(∀b,C b≠none->B b≠none\/H b=none)->C P=none->aE K C ys ((prt n s l N wss).map gD)->Q (.ref D) H'
def vq (K:Vz) (P:Z6):Sp:=rG 13 K P
theorem my:aD ["group","sieve","place","groups","smaller"] ["group","sieve"] (ag (top 41)):=by refine⟨rfl,rfl,rfl,?_,rfl,?_,?_⟩<;>decide +kernel
theorem B9 (T:Tx K mg A):∀N,aA P w K mg base CX0 (6+N) A.jD A.jr ["group","sieve"] (rG N K A.aB)
 | 0=>⟨λvs H Q E h=>by obtain⟨B,u,n,wss,t,s,l,rfl,_⟩:=h;rfl,λ_ _ _ _ _ _ _ _ _ _ _ _ _ h=>by obtain⟨B,u,n,wss,t,s,l,_,_,_,_,_,_,_,r,_⟩:=h;lia⟩
 | N+1=>by
  have nc:aA P w K mg base CX0 (6+N) A.eR A.cS ["group","sieve"] (gR K A.aB):=(mJ T).mono (by lia);have pZ:aA P w K mg base CX0 (6+N) A.mw A.mD ["rows","keys"] (nE K):=(tR T).mono (by lia);have iC:aA P w K mg base CX0 (6+N) A.ie A.iF ["group","place"] (iT K):=(lh T).mono (by lia);have r6:aA P w K mg base CX0 (6+N) A.jD A.jr ["group","sieve"] (rG N K A.aB):=B9 T N;show aA P w K mg base CX0 ((6+N)+1) A.jD A.jr ["group","sieve"] (rG (N+1) K A.aB);refine T.parted.fn.ok my (λvs H Q E h=>?_) (λ_ _ _ s H vs R E hr h=>?_)
  ·obtain⟨B,u,n,wss,t,s,l,rfl,_⟩:=h;rfl
  ·obtain⟨B,u,n,wss,t,j,l,rfl,Z,a3,L,ok,Y,a8,_,k⟩:=h;refine⟨_,aj (bf (i:=2) my.nd rfl (Or.inl rfl) (ar nc hr (by rfl) T.dU.mg T.dU.fn.kp T.dU.bd .nil ay (aa (pv 0) (aa (pv 1) ae))))
   (aj (bB (aP B6 (pv 2) uu (aQ _)) (ak (aC (bC (aa (pv 0) ae)))) aO)
   (aj (bf (i:=3) my.nd rfl (Or.inl rfl) (bC ae))
   (aj (fT Ys rfl (aM (ar pZ hr (by rfl) T.kC.mg T.kC.fn.kp T.kC.bd .nil ay (aa (pv 0) (aa (ar iC hr (by rfl) T.eD.mg T.eD.fn.kp T.eD.bd .nil ay (aa (pv 0) (aa (pv 2) ae))) ae)))) (av (i:=4) my.nd rfl (Or.inl rfl)) (ak (cm (ee Y9 PySem.F.slot_list_extend PySem.F.type_list_extend vM (pv 3) (aa (ar r6 hr (by rfl) T.parted.mg T.parted.fn.kp T.parted.bd .nil ay (aa (pv 4) (aa (pv 1) ae))) ae)))))
   (ak (aC (pv 3)))))),?_⟩
   obtain⟨a,xs,rfl,hqB,Mt⟩:=C8 L;have bo:xs.length=wss.length:=by rw[Mt.length,R8]
   obtain⟨_,az⟩:=bj a8;have bt:af B (wo A.aB H):=gm a3 Z;refine⟨_,rfl,_,rfl,.ref a,n,wss,t,j,l,rfl,L.same Z,ok,Y,a8,λH1 s1 a0=>?_⟩;have U:af B H1:=bt.trans s1;have Pw:SqT K H1 t [.int j,.int l]:=s1.gL (pO az Y);obtain⟨_,NM⟩:=bj a0;have y:∀{b:Z6}{H':Hp},af (wo A.aB H) H'->H' b=none->b≠A.aB->H b=none:=λ{b H'} j e ne=>by
    have:=j.free e
    rwa [au ne]at this
   refine⟨_,rfl,rfl,_,rfl,?_⟩;cases hpl:plc wss n j l with
   | none=>
    refine b9 ⟨_,rfl,(by show 1<=Zc;decide),λD hD=>?_⟩;have sD:af H1 (upd H1 D (.lst [.ref a])):=af.new hD;have e:prt n j l (N+1) wss=[wss]:=by unfold prt;rw[hpl]
    exact k D _ B _ (y s1 hD (aw NM hD).symm) (s1.trans sD) (aV a0 sD) ab (af.refl B) (U.trans sD) (λb h=>.inl h) a3 (by rw[e];exact .cons L .nil)
   | some p=>
    obtain⟨hp,N1⟩:=xa hpl;have bg:prt n j l (N+1) wss=(byW wss p).flatMap (prt n j l N):=by
     conv=>lhs;unfold prt
     rw[hpl]
    refine br ?_;refine⟨Sy _,λG hG=>?_⟩;have sG:af H1 (upd H1 G (.lst [])):=af.new hG;have ap:(upd H1 G (.lst [])) G=some (.lst []):=ab;have S:G≠A.aB:=(aw NM hG).symm;have b3:=aV a0 sG;have s2:af (wo A.aB H) (upd H1 G (.lst [])):=s1.trans sG;generalize upd H1 G (.lst [])=H2 at sG ap b3 s2 ⊢;refine⟨_,rfl,_,rfl,_,rfl,.ref a,p,n,wss,rfl,L.same (U.trans sG),ok,hp,λW _ _ s3 aq=>?_⟩;have bb:=sG.trans s3;have ek:((wAt wss p).map V.str)=((wAt wss p).map (Sum.inr:Str->Key)).map kV:=by rw[SS];rfl
    rw[ek]at aq;have c4:=ok.le;refine⟨a,W,xs,(wAt wss p).map Sum.inr,rfl,(U.trans bb).seq hqB,.of aq,by rw[R8];unfold wAt;rw[R8,bo],by lia,λD as H4 hD s4 M c0 fC=>⟨D,rfl,⟨_,.of M⟩,?_⟩⟩;have a9:=bb.trans s4;have b8:=s3 _ _ ap;have b0:=s4 _ _ b8;have b5:cY A.aB H4:=aV b3 (s3.trans s4);have a4:af (wo A.aB H) H4:=s2.trans (s3.trans s4);obtain⟨_,xQ⟩:=bj b5;have bx:af B H4:=U.trans a9;have MO:=a9.gL Pw;have m:H G=none:=y s1 hG S;have bz:B G=none:=by
     cases e:B G with
     | none=>rfl
     | some o=>rw[Z _ _ e]at m;cases m
    have hC:∃d:Hp,af B d/\af d H4/\d G=none/\d A.aB=none/\(∀b,d b≠none->B b≠none\/H b=none)/\∀c∈as,(∀g,H4 c=some (.lst g)->g≠[]->d c=H4 c):=by
     refine⟨λb=>if b=G\/b=A.aB then none else if B b≠none\/b∈as then H4 b else none,λb o e=>?_,λb o e=>?_,by simp,by simp,λb hb=>?_,λc hc g hg bh=>?_⟩
     ·have r:b≠G:=λz=>by rw[z,bz]at e;cases e
      have h2:b≠A.aB:=λz=>by rw[z,a3]at e;cases e
      show(if b=G\/b=A.aB then none else _)=_;rw[Zk (by rintro(z | z) <;> contradiction),Zj (.inl (by rw[e];simp))];exact bx _ _ e
     ·dsimp only at e
      split at e
      ·cases e
      ·split at e
       ·exact e
       ·cases e
     ·dsimp only at hb
      split at hb
      ·exact absurd rfl hb
      ·rename_i hn
       split at hb
       ·rename_i hor;rcases hor with z | z
        ·exact .inl z
        ·refine .inr (y (s2.trans s3) (c0 b z) λw=>hn (.inr w))
       ·exact absurd rfl hb
     ·have r:c≠G:=λz=>by rw[z,b0]at hg;cases hg;exact bh rfl
      have h2:c≠A.aB:=λz=>by rw[z,xQ]at hg;cases hg
      show(if c=G\/c=A.aB then none else _)=_;rw[Zk (by rintro(z | z) <;> contradiction),Zj (.inr hc)]
    obtain⟨d,ba,c1,ah,b2,be,bk⟩:=hC;have Ho:=CP (vN (Mt.same ba)) ((wAt wss p).map Sum.inr);refine gz (K:=K) (xs:=as.map V.ref) (λi σ H5=>(∃v,σ=[some (.ref a),some (.ref t),some (.int p),some (.ref G),v])/\af (wo A.aB (wo G H4)) H5/\cY A.aB H5/\∃(acc:List V) (C:Hp),H5 G=some (.lst acc)/\af d C/\af C H5/\C G=none/\C A.aB=none/\(∀b,C b≠none->B b≠none\/H b=none)/\aE K C acc ((((byW wss p).take i).flatMap (prt n j l N)).map gD))
     ⟨⟨_,rfl⟩,bc.trans bc,b5,[],d,b0,af.refl _,c1,ah,b2,be,.nil⟩ (λi σ H5 _ q=>.of (q.2.1 _ _ (by
      have r:D≠G:=λz=>by rw[z,b8]at hD;cases hD
      have h2:D≠A.aB:=λz=>by rw[z,xQ]at M;cases M
      rw[au h2,au r];exact M))) (λi x σ H5 hx q=>?_) (λσ H5 q=>?_)
    ·obtain⟨q0,s5,O,acc,C,f,sC,J,cG,cP,cb,dn⟩:=q;apply dJ q0;clear q0;intro v;rw[Se]at hx;obtain⟨c,b4,rfl⟩:∃c,as[i]? = some c/\x = .ref c:=by
      cases e:as[i]? with
      | none=>rw[e]at hx;cases hx
      | some c=>rw[e]at hx;cases hx;exact⟨c,rfl,rfl⟩
     obtain⟨g,bw,b6⟩:=fC.at b4;obtain⟨wg,ag,a5⟩:=Ho.at bw;have X:wg∈byW wss p:=Sd ag;have GR:=(pP X).1;have LC:g≠[]:=λe=>by
      have:=a5.len;rw[e]at this;exact GR (TZ.mp this.symm)
     have bl:d c=some (.lst g):=(bk c (Sd b4) g b6 LC).trans b6;have bp:Den K d (.ref c) (gD wg):=.lst (.of bl) (wj a5);have bi:af d H5:=sC.trans J;have I:af (wo A.aB H) H5:=λb o e=>by
      by_cases r:b=G
      ·rw[r,au S,m]at e;cases e
      ·have h2:=(aZ e).1;exact s5 b o (by rw[au h2,au r];exact a4 b o e)
     have Qy:SqT K H5 t [.int j,.int l]:=I.gL (pO az Y);refine⟨_,rfl,.inl ⟨rfl,_,.of f⟩,_,rfl,_,rfl,d,.ref c,n,wg,t,j,l,rfl,bi,b2,bp,ok.sub X,Qy,O,by have:=Ke hp (wA N1) X;lia,λD2 ys C' H6 _ s6 bu Iz _ Nr b1 ai a7=>?_⟩;obtain⟨_,GK⟩:=bj O;have ao:H6 G=some (.lst acc):=yg s6 GK f λ_ e=>by cases e
     have b7:af C H6:=(gm cP J).trans s6;have a6:C' G=none:=by
      cases e:C' G with
      | none=>rfl
      | some o=>
       rcases b1 G (by rw[e];simp)with z | z
       ·exact absurd ah z
       ·rw[f]at z;cases z
     have c2:acc.length<=wss.length:=by rw[dn.length,R8];exact HE i
     have c5:ys.length<=wg.length:=by rw[a7.length,R8];exact oA GR
     have c3:=(pP X).2.1;refine⟨G,D2,acc,ys,rfl,rfl,ao,Iz,Sl (show _<=1000 by lia) (by decide),?_⟩;refine⟨⟨_,rfl⟩,ax (by rw[au S,eJ]) (bG s5 s6),rJ bu ao,acc++ys,hU C C',ab,sC.trans N2,ax (xn cG a6) (M3 b7 Nr),xn cG a6,xn cP ai,λb hb=>?_,?_⟩
     ·rcases N4 hb with z | z
      ·exact cb b z
      ·rcases b1 b z with w | w
       ·exact be b w
       ·refine .inr (y I w λe=>z (by rw[e];exact ai))
     ·rw[SG,show(byW wss p)[i]? = some wg from ag];simp only[Option.toList,List.flatMap_append,Sm,T7,List.flatMap_nil,S3];exact(dn.same N2).append (a7.same (QN b7 Nr))
    ·obtain⟨q0,s5,O,acc,C,f,sC,J,cG,cP,cb,dn⟩:=q;apply dJ q0;clear q0;intro v;have bq:as.length=(byW wss p).length:=by rw[fC.len,Ho.len];rfl
     rw[R8,bq,So (Sb _)]at dn;have I:af (wo A.aB H) H5:=λb o e=>by
      by_cases r:b=G
      ·rw[r,au S,m]at e;cases e
      ·have h2:=(aZ e).1;exact s5 b o (by rw[au h2,au r];exact a4 b o e)
     refine⟨_,rfl,k G acc C H5 m I O f (ba.trans sC) J cb cP ?_⟩;rw[bg];exact dn
theorem EF (T:Tx K mg A):aA P w K mg base CX0 19 A.jD A.jr ["group","sieve"] (vq K A.aB):=B9 T 13
def gW (K:Vz):Sp:=λvs H Q _=>∃(u:V) (n:Nat) (wss:List (List Str)),vs=[u]/\Den K H u (gD wss)/\GOk n wss /\
 ∀D acc H',H D=none->af H H'->H' D=some (.lst acc)->aE K (lim H H') acc ((bu (wss.map iH) n).map Pt.dat)->Q (.ref D) H'
theorem MZ {H:Hp}{M:Z6}{xs:List V} (h:H M=some (.lst xs)):af (tO H) (wo M H):=λb o e=>by
 obtain⟨n,e⟩:=CB e;have:b≠M:=λz=>by rw[z,h]at e;cases e;exact n _ rfl
 rw[au this];exact e
theorem mO:aD ["group"] ["group"] (ag (top 42)):=by refine⟨rfl,rfl,rfl,?_,rfl,?_,?_⟩<;>decide +kernel
theorem mR (T:Tx K mg A):aA P w K mg base CX0 6 A.eO A.eL ["group"] (gW K):=by
 have E5:aA P w K mg base CX0 5 _ _ _ _:=(Ea T).mono (by decide);refine T.dX.fn.ok mO (λvs H Q E h=>?_) (λ_ _ _ s H vs Q E hr h=>?_)
 ·obtain⟨u,n,wss,rfl,_⟩:=h;rfl
 ·obtain⟨u,n,wss,rfl,hd,J,k⟩:=h;obtain⟨a,xs,rfl,hq,N⟩:=C8 hd;have a5:xs.length=wss.length:=by rw[N.length,R8]
  have aj:=J.le;have ai:=J.DX;refine⟨_,ak (aC (ar E5 hr (by rfl) T.joined.mg T.joined.fn.kp T.joined.bd .nil ay (aa (aU (N':=["words"]) (n:=1) (fi:=[]) (g:=aN 0) rfl (aY (ag (top 42)) ["group"] (by decide +kernel)) (aM (pv 0)) (λs H U=>av (i:=0) (show(["words"]:List Str).Nodup by decide +kernel) rfl (Or.inl rfl) (.inr rfl)) (λs H U=>aL) (λs H U=>aU (wi:=CD K (qX 0)) (N':=["word"]) (n:=1) (fi:=[]) (g:=aN 0) rfl (ym (ag (top 42)) (by decide +kernel)) (aM (pv 0)) (λs H U=>av (i:=0) (show(["word"]:List Str).Nodup by decide +kernel) rfl (Or.inl rfl) (.inr rfl)) (λs H U=>aL) (λs H U=>dD (aa aJ (aa (pv 0) ae))))) ae))),?_⟩;refine⟨_,rfl,a,rfl,⟨_,hq⟩,λM hM=>?_⟩;refine aK (K:=K) (xs:=xs) (λi c X F=>(∃u,X=[u])/\af H F/\aE K (wo M F) c (((wss.take i).map iH).map bx)) ab ⟨⟨_,rfl⟩,af.new hM,.nil⟩ (λi c X F _ _ q=>q.2.1.seq hq) (λi x c X F hx G q=>?_) (λc X F a9 q=>?_)
  ·obtain⟨O,B,f⟩:=q;apply dJ O;clear O;intro u;obtain⟨o,r,Y,rfl,R⟩:=pe N hx;have hi:=aG Y;have W:=J.row o (Sd Y);have ah:c.length<=64:=by rw[f.length,R8,R8,Sx];lia
   refine cq ⟨_,rfl,r,rfl,⟨_,B.seq R⟩,λI hI=>?_⟩;have a0:I≠M:=(aw G hI).symm;refine aK (K:=K) (xs:=o.map V.str) (λj C m l=>(∃u,m=[u])/\af F l/\aE K (tO l) C (((o.take j).map Pt.word).map Pt.dat)) ab ⟨⟨_,rfl⟩,af.new hI,.nil⟩ (λj C m l _ _ q=>(B.trans q.2.1).seq R) (λj y C m l hy a8 q=>?_) (λC m l Z q=>?_)
   ·obtain⟨O,z,b⟩:=q;apply dJ O;clear O;intro u;obtain⟨v,d,rfl⟩:=e9 hy;have hj:=aG d;have a7:=W.2 v (Sd d);have R7:C.length+1<=20:=by rw[b.length,R8,R8,Sx];lia
    refine cq ⟨_,rfl,(by show 2<=Zc;decide),λt ht=>?_⟩;have st:af l (upd l t (.tup [.str "word",.str v])):=af.new ht;have pt:K1 (upd l t (.tup [.str "word",.str v])) (.ref t) (.word v):=⟨t,rfl,ab⟩;have L:=st _ _ a8;refine⟨_,L,small (by lia),_,ab,⟨_,rfl⟩,ax hI (z.trans st),?_⟩;have et:(o.take (j+1)).map Pt.word=(o.take j).map Pt.word++[.word v]:=by rw[SG,d];simp
    rw[et,Sm];have tt:=Ma (ys:=C++[.ref t]) L;exact(b.same ((Ob st).trans tt)).append (.cons ((pt.den a7).same tt) .nil)
   ·obtain⟨_,z,b⟩:=q;rw[R8,So (Sb _)]at b;have S:=z _ _ G;refine⟨_,S,small (by lia),_,ab,⟨_,rfl⟩,ax hM (B.trans z),?_⟩;rw[A9,SG,Y];simp only[Option.toList,Sm,Sv,Tw];refine(f.same (jF z)).append (.cons (.lst (xs:=C) (.of (by rw[au a0];exact Z)) (b.same (MZ S))) .nil)
  ·obtain⟨_,B,f⟩:=q;rw[a5,So (Sb _)]at f;refine⟨M,c,wss.map iH,n,rfl,.of a9,f.same bc,λe=>J.ne (Tp.mp e),by rw[R8];lia,λ_ a4=>?_,λD Rb l hD z a6 b=>?_⟩
   ·obtain⟨o,a3,rfl⟩:=Si.mp a4;have W:=J.row o a3;refine⟨⟨by unfold iH;rw[R8];lia,λp hp=>?_⟩,by unfold iH;rw[R8];exact W.1⟩;obtain⟨v,d,rfl⟩:=Si.mp hp;exact(W.2 v d).ok
   ·exact k D Rb l (B.free hD) (B.trans z) a6 (b.same (fu B.ll))
def pB (K:Vz) (P:Z6):Sp:=λvs H Q _=>∃(a t:Z6) (zs:List Str) (s l:Int),vs=[.ref a,.ref t]/\Rd H a (.lst (zs.map V.str))/\zs.length<64/\(∀z∈zs,∃ws,ir 12 z ws)/\SqT K H t [.int s,.int l]/\cY P H /\
 ∀(D:Z6) (ms:List Str) (acc:List V) (H':Hp) (ps:List (List Pt)),ms.Perm (fP [] zs)->UpS ms->H D=none->af (wo P H) H'->cY P H'->H' D=some (.lst acc)->ps.Perm (gth s l (ms.map λz=>Y4 z " "))->zf ps->pQ ps->ps.length<64->GP H H' acc->(∀x∈acc,x ≠ .ref D)->aE K (lim H H') acc (ps.map bx)->Q (.ref D) H'
theorem BG {ms:List Str}{z:Str}{i:Nat} (h:ms[i]? = some z):(ms.take (i+1)).map (λz=>Y4 z " ")=(ms.take i).map (λz=>Y4 z " ")++[Y4 z " "]:=by
 rw[SG,h];simp
theorem iW:aD ["lines","sieve","rows","patterns","group"] ["lines","sieve"] (ag (top 43)):=by refine⟨rfl,rfl,rfl,?_,rfl,?_,?_⟩<;>decide +kernel
theorem Ag (T:Tx K mg A):aA P w K mg base CX0 20 A.nN A.nM ["lines","sieve"] (pB K A.aB):=by
 have pZ:aA P w K mg base CX0 19 _ _ _ _:=(tR T).mono (by decide);have jz:aA P w K mg base CX0 19 _ _ _ _:=(nA T).mono (by decide);have eV:aA P w K mg base CX0 19 _ _ _ _:=(iU T).mono (by decide);have nL:aA P w K mg base CX0 19 _ _ _ _:=(mR T).mono (by decide);have r6:aA P w K mg base CX0 19 _ _ _ _:=(EF T).mono (by decide);refine T.gathered.fn.ok iW (λvs H Q E h=>?_) (λ_ _ _ s H vs Q E hr h=>?_)
 ·obtain⟨a,t,zs,s,l,rfl,_⟩:=h;rfl
 ·obtain⟨a,t,zs,U,l,rfl,df,_,dg,c3,b6,k⟩:=h;refine⟨_,aj (hJ (i:=2) (N':=["line"]) (n:=1) (fi:=[]) (g:=aN 0) iW.nd rfl (Or.inl rfl) rfl (aY (ag (top 43)) ["lines","sieve","rows","patterns","group"] (by decide +kernel)) (aM (wF (og rfl hr) rfl (by rfl) T.kU p5 (by rfl) T.E7 AD (aa (pv 0) ae))) (λs H fp=>av (i:=0) (show(["line"]:List Str).Nodup by decide +kernel) rfl (Or.inl rfl) (.inr rfl)) (λs H fp=>aL) (λs H fp=>ar eV hr (by rfl) T.words_of.mg T.words_of.fn.kp T.words_of.bd .nil ay (aa (pv 0) ae)))
   (aj (bf (i:=3) iW.nd rfl (Or.inl rfl) (bC ae))
   (aj (fT Ys rfl (aM (ar pZ hr (by rfl) T.kC.mg T.kC.fn.kp T.kC.bd .nil ay (aa (pv 2) (aa (aU (N':=["words"]) (n:=1) (fi:=[]) (g:=aN 0) rfl (aY (ag (top 43)) ["lines","sieve","rows","patterns","group"] (by decide +kernel)) (aM (pv 2)) (λs H fp=>av (i:=0) (show(["words"]:List Str).Nodup by decide +kernel) rfl (Or.inl rfl) (.inr rfl)) (λs H fp=>aL) (λs H fp=>aH (r:=d4 K) bh (by rfl) T.dv Yb (aa (pv 0) ae))) ae)))) (av (i:=4) iW.nd rfl (Or.inl rfl)) (ak (cm (ee Y9 PySem.F.slot_list_extend PySem.F.type_list_extend vM (pv 3) (aa (aU (N':=["smaller"]) (n:=1) (fi:=[]) (g:=aN 0) rfl (aY (ag (top 43)) ["lines","sieve","rows","patterns","group"] (by decide +kernel)) (aM (ar r6 hr (by rfl) T.parted.mg T.parted.fn.kp T.parted.bd .nil ay (aa (pv 4) (aa (pv 1) ae)))) (λs H fp=>av (i:=0) (show(["smaller"]:List Str).Nodup by decide +kernel) rfl (Or.inl rfl) (.inr rfl)) (λs H fp=>aL) (λs H fp=>ar nL hr (by rfl) T.dX.mg T.dX.fn.kp T.dX.bd .nil ay (aa (pv 0) ae))) ae)))))
   (ak (aC (ar jz hr (by rfl) T.ordered.mg T.ordered.fn.kp T.ordered.bd .nil ay (aa (pv 3) ae)))))),?_⟩
  have dk:=sN zs;refine⟨_,rfl,a,zs,rfl,df,by lia,by lia,λS ms hS bq cv=>⟨S,rfl,⟨_,.of ab⟩,λR hR=>?_⟩⟩;have dm:=bq.length_eq;have bg:∀z∈ms,∃ws,ir 12 z ws:=λz hz=>dg z ((j5.mp (bq.mem_iff.mp hz)).resolve_left (by simp));obtain⟨tb,bk⟩:=bj b6;have sS:af H (upd H S (.lst (ms.map V.str))):=af.new hS;have b5:(upd H S (.lst (ms.map V.str))) S=some (.lst (ms.map V.str)):=ab;generalize upd H S (.lst (ms.map V.str))=H1 at sS b5 hR ⊢;refine aK (K:=K) (xs:=ms.map V.str) (λi m B Y=>(∃u,B=[u])/\af H1 Y/\aE K (wo R Y) m (((ms.take i).map λz=>Y4 z " ").map wsD)) ab ⟨⟨_,rfl⟩,af.new hR,.nil⟩ (λi m B Y _ _ q=>.of (q.2.1 _ _ b5)) (λi x m B Y hx bo q=>?_) (λm B Y cn q=>?_)
  ·obtain⟨O,s2,a4⟩:=q;apply dJ O;clear O;intro u;obtain⟨z,hz,rfl⟩:=e9 hx;have hi:=aG hz;obtain⟨ws,f⟩:=bg z (Sd hz);have ct:=f.ok (by decide);have b8:m.length<=64:=by rw[a4.length,R8,R8,Sx];lia
   refine cq ⟨_,rfl,z,rfl,Sl ct.2 (by decide),λL hL=>?_⟩;have sL:af Y (upd Y L (.lst ((Y4 z " ").map V.str))):=af.new hL;have c9:L≠R:=(aw bo hL).symm;refine⟨_,sL _ _ bo,small (by lia),_,ab,⟨_,rfl⟩,ax hR (s2.trans sL),?_⟩;rw[A9,BG hz,Sm];refine(a4.same (jF sL)).append (.cons (.lst (xs:=(Y4 z " ").map V.str) (.of (by rw[au c9];exact ab)) ?_) .nil);rw[f.split];exact mi λw hw=>(f.wd w hw).ok
  ·obtain⟨_,s2,a4⟩:=q;rw[R8,So (Sb _)]at a4;have a9:aE K Y m ((ms.map λz=>Y4 z " ").map wsD):=a4.same bc;have a0:iD (ms.map λz=>Y4 z " "):=⟨by rw[R8];lia,λws c8=>by
    obtain⟨z,hz,rfl⟩:=Si.mp c8;obtain⟨ws,f⟩:=bg z hz;rw[f.split];exact⟨f.pos,f.le,λw hw=>⟨(f.wd w hw).word,Sl (f.wd w hw).len (by decide),(f.wd w hw).ok⟩⟩⟩
   have dh:(ms.map λz=>Y4 z " ").length=ms.length:=R8 _;have kk:=k;generalize hrs:(ms.map λz=>Y4 z " ")=rss at a9 a0 dh;have P5:m.length=rss.length:=by rw[a9.length,R8]
   have b1:=sS.trans s2;refine⟨Sy _,λG hG=>?_⟩;have sG:af Y (upd Y G (.lst [])):=af.new hG;have az:(upd Y G (.lst [])) G=some (.lst []):=ab;have di:=b1.trans sG;have ai:=sG _ _ cn;generalize upd Y G (.lst [])=H3 at sG az di ai ⊢;refine⟨_,rfl,_,rfl,R,rfl,⟨_,.of ai⟩,λKL bw=>?_⟩;refine aK (K:=K) (xs:=m) (λi W B H4=>(∃u,B=[u])/\af H3 H4/\W=((rss.take i).map λws=>(Sum.inl (ws.length:Int):Key)).map kV) ab ⟨⟨_,rfl⟩,af.new bw,rfl⟩ (λi W B H4 _ _ q=>.of (q.2.1 _ _ ai)) (λi x W B H4 hx cj q=>?_) (λW B H4 bt q=>?_)
   ·obtain⟨O,s4,rfl⟩:=q;apply dJ O;clear O;intro u;have hi:=aG hx;obtain⟨ws,r,hw,rfl,d2⟩:=pe a9 hx;refine cq ⟨_,rfl,r,_,rfl,.inl ((sG.trans s4).seq d2),_,cj,small (by rw[R8,R8,Sx];lia),_,ab,⟨_,rfl⟩,ax bw s4,?_⟩;rw[SG,hw];simp[kV]
   ·obtain⟨_,s4,rfl⟩:=q;rw[P5,So (Sb _)]at bt;refine⟨R,KL,m,_,rfl,.of (s4 _ _ ai),.of bt,by rw[R8];lia,by lia,λD as H5 hD s5 ah _ fC=>⟨D,rfl,⟨_,.of ah⟩,?_⟩⟩;have c1:af Y H5:=sG.trans (s4.trans s5);have a7:af H H5:=b1.trans c1;have a6:=(s4.trans s5) _ _ az;have cx:cY A.aB H5:=aV b6 a7;have GK:=a7 _ _ bk;have b2:G≠A.aB:=λe=>by rw[e,GK]at a6;cases a6
    have c0:H G=none:=b1.free hG;have d8:D≠G:=λe=>by rw[e,s4 _ _ az]at hD;cases hD
    have dd:D≠A.aB:=λe=>by rw[e,GK]at ah;cases ah
    have cc:aE K (wo G H5) m (rss.map wsD):=a9.same (gm hG c1);have Ho:=CP (vN cc) (rss.map λws=>(Sum.inl (ws.length:Int):Key));have br:(wo G H5) A.aB=some (.tbl tb):=by rw[au b2.symm];exact GK
    refine gz (K:=K) (xs:=as.map V.ref) (λi B H6=>(∃v,B=[some (.ref a),some (.ref t),some (.ref R),some (.ref G),v])/\af (wo A.aB (wo G H5)) H6/\cY A.aB H6/\∃sM:List V,H6 G=some (.lst sM)/\aE K (wo G H6) sM ((((byL rss).take i).flatMap (xc U l)).map bx))
     ⟨⟨_,rfl⟩,bc.trans bc,cx,[],a6,.nil⟩ (λi B H6 _ q=>.of (q.2.1 _ _ (by rw[au dd,au d8];exact ah))) (λi x B H6 hx q=>?_) (λB H6 q=>?_)
    ·obtain⟨O,s6,a3,sM,a8,Z⟩:=q;apply dJ O;clear O;intro v;rw[Se]at hx;obtain⟨c,cu,rfl⟩:∃c,as[i]? = some c/\x = .ref c:=by
      cases e:as[i]? with
      | none=>rw[e]at hx;cases hx
      | some c=>rw[e]at hx;cases hx;exact⟨c,rfl,rfl⟩
     obtain⟨g,d3,b3⟩:=fC.at cu;obtain⟨I,b9,b4⟩:=Ho.at d3;have c2:I∈byL rss:=Sd b9;have GR:=(B3 c2).1;have LC:g≠[]:=λe=>by
      have:=b4.len;rw[e]at this;exact GR (TZ.mp this.symm)
     have d0:c≠G:=λz=>by rw[z,a6]at b3;cases b3;exact LC rfl
     have ck:Den K (wo A.aB (wo G H5)) (.ref c) (gD I):=CM br (.lst (.of (by rw[au d0];exact b3)) (wj b4));have J:=qR a0 c2;have Q1:SqT K H6 t [.int U,.int l]:=s6.gL (pO br ((gm c0 a7).gL c3));refine⟨_,rfl,.inl ⟨rfl,_,.of a8⟩,_,rfl,_,rfl,wo A.aB (wo G H5),.ref c,gn I,I,t,U,l,rfl,s6,eJ,ck,J,Q1,a3,by have:=Kg (gn I) I;have:=J.DX;lia,λD2 ys C H7 _ s7 be Iz _ cs _ _ bz=>⟨D2,rfl,⟨_,.of Iz⟩,λM hM=>?_⟩⟩;obtain⟨bb,DA⟩:=bj a3;obtain⟨_,_⟩:=bj be;have ao:H7 G=some (.lst sM):=yg s7 DA a8 λ_ e=>by cases e
     have d1:M≠G:=(aw ao hM).symm;have dj:ys.length=(prt (gn I) U l 13 I).length:=by rw[bz.length,R8]
     have d9:=oA (n:=gn I) (s:=U) (l:=l) (N:=13) GR;have cf:=J.le;have c6:(upd H7 M (.lst [])) M=some (.lst []):=ab;refine aK (K:=K) (xs:=ys) (λj W B H8=>(∃u,B=[u])/\af H7 H8/\aE K (lim (upd H7 M (.lst [])) H8) W ((((prt (gn I) U l 13 I).take j).map λg'=>bu (g'.map iH) (gn I)).map bx)) ab ⟨⟨_,rfl⟩,af.new hM,.nil⟩ (λj W B H8 _ _ q=>.of (q.2.1 _ _ Iz)) (λj y W B H8 hy ap q=>?_) (λW B H8 de q=>?_)
     ·obtain⟨O,s8,X⟩:=q;apply dJ O;clear O;intro u;have hj:=aG hy;obtain⟨d,a5,c5⟩:=bz.get hy;rw[Se]at a5;obtain⟨g',bl,rfl⟩:∃g',(prt (gn I) U l 13 I)[j]? = some g'/\d=gD g':=by
       cases e:(prt (gn I) U l 13 I)[j]? with
       | none=>rw[e]at a5;cases a5
       | some g'=>rw[e]at a5;cases a5;exact⟨g',rfl,rfl⟩
      have b8:W.length<=64:=by rw[X.length,R8,R8,Sx];lia
      refine cq ⟨_,rfl,y,gn I,g',rfl,c5.same (cs.trans s8),j4 J g' (Sd bl),λDp PM H9 ba s9 Pu cy=>?_⟩;have cz:=s9 _ _ ap;have QR:Dp≠M:=(aw ap ba).symm;refine⟨_,cz,small (by lia),_,ab,⟨_,rfl⟩,ax hM (s8.trans s9),?_⟩;rw[oV c6,SG,bl];simp only[Option.toList,Sm,Sv,Tw];have da:LL (upd H7 M (.lst [])) H8:=λb zs e=>by
       by_cases hb:b=M
       ·exact⟨W,by rw[hb];exact ap⟩
       ·rw[aq hb]at e;exact⟨zs,s8 _ _ e⟩
      have cw:(upd H7 M (.lst [])) Dp=none:=by rw[aq QR];exact s8.free ba
      exact(X.same (cZ s9)).append (.cons (.lst (xs:=PM) (.of ((g7 cw).trans Pu)) (cy.same (fu da))) .nil)
     ·obtain⟨_,s8,X⟩:=q;rw[dj,So (Sb _)]at X;have bp:=s8 _ _ ao;have RQ:sM.length<=rss.length:=by rw[Z.length,R8];exact Ac U l rss i
      have b8:W.length<=64:=by rw[X.length,R8,R8];lia
      have Pa:=a0.1;refine⟨G,M,sM,W,rfl,rfl,bp,de,Sl (show _<=1000 by lia) (by decide),?_⟩;have d7:(wo A.aB (wo G H5)) G=none:=by rw[au b2,eJ]
      refine⟨⟨_,rfl⟩,ax d7 ((bG s6 s7).trans s8),rJ (aV be s8) bp,sM++W,ab,?_⟩;rw[A9,SG,show(byL rss)[i]? = some I from b9];simp only[Option.toList,List.flatMap_append,Sm,T7,List.flatMap_nil,S3];have d6:(wo G H6) A.aB=some (.tbl bb):=by rw[au b2.symm];exact DA
      have sa:af (wo A.aB (wo G H6)) (wo G H8):=λb o e=>by
       obtain⟨h1,e⟩:=aZ e;obtain⟨h2,e⟩:=aZ e;rw[au h2];exact s8 _ _ (s7 _ _ (by rw[au h1];exact e))
      have d5:(upd H7 M (.lst [])) G=some (.lst sM):=by rw[aq d1.symm];exact ao
      exact((yC d6 Z).same sa).append (X.same (Kr d5))
    ·obtain⟨O,s6,a3,sM,a8,Z⟩:=q;apply dJ O;clear O;intro v;have cp:as.length=(byL rss).length:=by rw[fC.len,Ho.len];rfl
     rw[R8,cp,So (Sb _)]at Z;have cf:(gth U l rss).length<=rss.length:=by
      have:=Ac U l rss (byL rss).length
      rwa [So (Sb _)]at this
     have d9:sM.length=(gth U l rss).length:=by rw[Z.length,R8];rfl
     have Pa:=a0.1;have J:pQ (gth U l rss):=Gc a0;have b0:af (wo A.aB H) H6:=λb o e=>by
      obtain⟨h1,e⟩:=aZ e;have h2:b≠G:=λz=>by rw[z,c0]at e;cases e
      exact s6 b o (by rw[au h1,au h2];exact a7 b o e)
     refine⟨_,rfl,G,sM,gth U l rss,rfl,.of a8,by lia,Z.same bc,λps bi=>⟨Sl (J ps bi).2.2 (by decide),λp hp=>((J ps bi).1 p hp).ok⟩,λD9 Qt H9 ps dc s9 Ng AY iq fr c7 cg=>?_⟩;obtain⟨bb,DA⟩:=bj a3;have c4:=s9 _ _ DA;have b7:∀{b:Z6}{zs:List V},H6 b=none->H9 b=some (.lst zs)->H b=none:=λ{b zs} e1 e2=>by
      have h1:b≠A.aB:=λz=>by rw[z,c4]at e2;cases e2
      have:=b0.free e1
      rwa [au h1]at this
     refine k D9 ms Qt H9 ps bq cv (b7 dc Ng) (b0.trans s9) (aV a3 s9) Ng (by rw[hrs];exact AY) iq (λq hq=>J q (AY.mem_iff.mp hq)) (by rw[AY.length_eq];lia) (λx hx=>?_) c7 (cg.same (fu λb zs e=>?_))
     ·obtain⟨t',ys,e1,e2,e3,e4⟩:=fr x hx;exact⟨t',ys,e1,b7 e2 e3,e3,e4⟩
     ·have h1:b≠A.aB:=λz=>by rw[z,bk]at e;cases e
      exact⟨zs,b0 _ _ (by rw[au h1];exact e)⟩
def tM (K:Vz):Sp:=λvs H Q _=>∃z:Str,vs=[.str z]/\LOk z/\Y1 z=true/\(Y4 z " ").length<=12/\(∀w∈Y4 z " ",dE w=true)/\∀H',af H H'->Q (.bl true) H'
theorem CF (n:Nat):(List.replicate n true).all id=true:=by
 rw[SJ];intro x hx;exact(List.mem_replicate.mp hx).2
theorem ul:aD ["thing","words"] ["thing"] (ag (top 17)):=by refine⟨rfl,rfl,rfl,?_,rfl,?_,?_⟩<;>decide +kernel
theorem Bj (T:Tx K mg A):aA P w K mg base CX0 3 A.pY A.p9 ["thing"] (tM K):=by
 have N:aA P w K mg base CX0 2 _ _ _ _:=(iU T).mono (by decide);have L:aA P w K mg base CX0 2 _ _ _ _:=(nz T).mono (by decide);refine T.rC.fn.ok ul (λR H Q E h=>?_) (λ_ _ _ s H R Q E J h=>?_)
 ·obtain⟨z,rfl,_⟩:=h;rfl
 ·obtain⟨z,rfl,G,t,O,F,k⟩:=h;refine⟨_,aj (bB (ip (cU (aH (r:=LH K) yp (by rfl) T.g5 gc (aa (pv 0) (aa (rO (v:=.ty "str") (by rfl) T.Ko GH rfl) ae))))) (ak (aC kF)) aO)
   (aj (bf (i:=1) ul.nd rfl (Or.inl rfl) (ar N J (by rfl) T.words_of.mg T.words_of.fn.kp T.words_of.bd .nil ay (aa (pv 0) ae)))
   (ak (aC (nR (cQ sX (aH (r:=d4 K) bh (by rfl) T.dv Yb (aa (pv 1) ae)) (gp (v:=.int 12) (by rfl) (YI T.wW) ⟨_,rfl⟩) (aQ _)) (kY (aH (r:=EH K) (lB rfl) (by rfl) T.Am uo (aa (aU (N':=["word"]) (n:=1) (fi:=[]) (g:=aN 0) rfl (aY (ag (top 17)) ["thing","words"] (by decide +kernel)) (aM (pv 1)) (λs H I=>av (i:=0) (show(["word"]:List Str).Nodup by decide +kernel) rfl (Or.inl rfl) (.inr rfl)) (λs H I=>aL) (λs H I=>ar L J (by rfl) T.gh.mg T.gh.fn.kp T.gh.bd .nil ay (aa (pv 0) ae))) ae))))))),?_⟩
  refine⟨_,rfl,_,"str",_,true,rfl,.str z,by rfl,_,rfl,br ?_⟩;refine⟨_,rfl,z,rfl,G,λl B=>?_⟩;have q:af H (upd H l (.lst ((Y4 z " ").map V.str))):=af.new B;have e:=uq (y:= " ") t;generalize Y4 z " " = ws at q O F e;have j:SqL K (upd H l (.lst (ws.map V.str))) l (ws.map V.str):=.of ab;refine⟨_,rfl,l,_,rfl,.inl j,_,_,rfl,rfl,_,rfl,?_⟩;rw[R8,Zg (show(ws.length:Int)<=12 by lia)];refine b9 ?_;refine⟨_,rfl,l,rfl,⟨_,j⟩,λD o=>?_⟩;generalize upd H l (.lst (ws.map V.str))=H1 at q j o;refine aK (K:=K) (xs:=ws.map V.str) (λi a f c=>(∃u,f=[u])/\af H1 c/\a=(List.replicate i true).map V.bl) ab ⟨⟨_,rfl⟩,af.new o,rfl⟩ (λi a f c _ _ p=>p.2.1.seq j) (λi x a f c M b p=>?_) (λa f c b p=>?_)
  ·obtain⟨⟨u,rfl⟩,m,rfl⟩:=p;obtain⟨w,d,rfl⟩:=e9 M;have S:=aG d;have C:=Sd d;refine cq ⟨_,rfl,w,rfl,Sl (e w C).2 G,_,b,small (by rw[R8,Us];lia),_,ab,⟨_,rfl⟩,ax o m,?_⟩;rw[F w C,List.replicate_succ',Sm];rfl
  ·obtain⟨_,m,rfl⟩:=p;refine⟨D,_,rfl,.of b,?_⟩;rw[CF];exact k c (q.trans m)
def jl (K:Vz) (A:Ad):Sp:=λvs H Q _=>∃(x t r b dx:Z6) (rv bv:List V) (rs:List (Int×Str)) (bs:List (List Pt)) (s l:Int),vs=[.ref x,.ref t,.ref r,.ref b]/\H x=some (.ins A.aT dx [])/\SqT K H t [.int s,.int l]/\H r=some (.lst rv)/\aE K H rv (rs.map Bb)/\H b=some (.lst bv)/\aE K H bv (bs.map bx)/\rs.length<64/\(∀q∈rs,∃ws,ir 12 q.2 ws)/\bs.length<64/\pQ bs/\cY A.aB H /\
 ∀(H':Hp) (f fl:Z6) (fv lv:List V) (fnd:List (List Pt)) (fls:List (Option (List Pt))),H f=none->H fl=none->af (wo x (wo A.aB H)) H'->cY A.aB H'->H' x=some (.ins A.aT dx [("rows",.ref r),("by_hand",.ref b),("found",.ref f),("falls",.ref fl)]) ->
  H' f=some (.lst fv)->aE K (lim H H') fv (fnd.map bx)->H' fl=some (.lst lv)->aE K (lim H H') lv (fls.map oP)->m4 s l (oM bs (rs.map (·.2))) fnd->BV bs fnd (rs.map (·.2)) fls->Q .non H'
theorem ES {bs:List (List Pt)}{zs:List Str}{i:Nat}{z:Str} (h:zs[i]? = some z):oM bs (zs.take (i+1))=oM bs (zs.take i)++if (bs.filter (cL z)).isEmpty then[z]else[]:=by
 unfold oM;rw[SG,h,S8]
 congr 1
 show List.filter _ [z]=_;rw[TR,List.filter_nil]
theorem B8 {bs:List (List Pt)}{zs:List Str}:(oM bs zs).length<=zs.length:=S0 _ _
theorem ja:aD ["self","sieve","rows","by_hand","lines","first"] ["self","sieve","rows","by_hand"] (ag (mIn 53 0)):=by refine⟨rfl,rfl,rfl,?_,rfl,?_,?_⟩<;>decide +kernel
theorem mX (T:Tx K mg A):aA P w K mg base CX0 21 A.fq A.gZ ["self","sieve","rows","by_hand"] (jl K A):=by
 have BL:aA P w K mg base CX0 20 _ _ _ _:=(Ag T).mono (by decide);have mT:aA P w K mg base CX0 20 _ _ _ _:=(uw T).mono (by decide);refine T.nI.fn.ok ja (λvs H Q E h=>?_) (λ_ _ _ s H vs Q E hr h=>?_)
 ·obtain⟨x,t,r,b,M,rv,bv,rs,bs,s0,l0,rfl,_⟩:=h;rfl
 ·obtain⟨x,t,r,b,M,rv,bv,rs,bs,s0,l0,rfl,hx,cx,c2,cn,hb,cs,dr,d9,_,bz,bl,k⟩:=h;have PV:rv.length=rs.length:=by rw[cn.length,R8]
  have RT:bv.length=bs.length:=by rw[cs.length,R8]
  have dm:∀p∈bs,POk p:=λp hp=>⟨Sl (bz p hp).2.2 (by decide),λq hq=>((bz p hp).1 q hq).ok⟩;obtain⟨_,a8⟩:=bj bl;have d6:x≠A.aB:=λe=>by rw[<-e,hx]at a8;cases a8
  refine⟨_,aj (hJ (i:=4) (N':=["moment","line"]) (n:=2) (fi:=[]) (g:=oY K 2 (cF (aN 0) (cF (aN 1) pH))) ja.nd rfl (Or.inl rfl) rfl (aY (ag (mIn 53 0)) ["self","sieve","rows","by_hand","lines","first"] (by decide +kernel)) (aM (pv 2)) (λs H fp=>c7 rfl (aI (av (i:=0) (show(["moment","line"]:List Str).Nodup by decide +kernel) rfl (Or.inl rfl) (.inr rfl)) (aI (av (i:=1) (show(["moment","line"]:List Str).Nodup by decide +kernel) rfl (Or.inl rfl) (.inr rfl)) bU))) (λs H fp=>aL) (λs H fp=>pv 1))
   (aj (hJ (i:=5) (N':=["line","by_hand"]) (n:=1) (fi:=[3]) (g:=aN 0) ja.nd rfl (Or.inl rfl) rfl (aY (ag (mIn 53 0)) ["self","sieve","rows","by_hand","lines","first"] (by decide +kernel)) (aM (pv 4)) (λs H fp=>av (i:=0) (show(["line","by_hand"]:List Str).Nodup by decide +kernel) rfl (Or.inl rfl) (.inr rfl)) (λs H fp=>aL) (λs H fp=>ar mT hr (by rfl) T.dz.mg T.dz.fn.kp T.dz.bd .nil ay (aa (pv 0) (aa (pv 1) ae))))
   (aj (kI T.bP T.eu (pv 0) (pv 2))
   (aj (kI T.bP T.cE (pv 0) (pv 3))
   (aj (kI T.bP T.iE (pv 0) (ar BL hr (by rfl) T.gathered.mg T.gathered.fn.kp T.gathered.bd .nil ay (aa (aU (N':=["line","fall"]) (n:=2) (fi:=[]) (g:=oY K 2 (cF (aN 0) (cF (aN 1) pH))) rfl (aY (ag (mIn 53 0)) ["self","sieve","rows","by_hand","lines","first"] (by decide +kernel)) (sQ (by rfl) T.vw (aa (pv 4) (aa (pv 5) ae))) (λs H fp=>c7 rfl (aI (av (i:=0) (show(["line","fall"]:List Str).Nodup by decide +kernel) rfl (Or.inl rfl) (.inr rfl)) (aI (av (i:=1) (show(["line","fall"]:List Str).Nodup by decide +kernel) rfl (Or.inl rfl) (.inr rfl)) bU))) (λs H fp=>eC (aP B6 (pv 1) uu (aQ _))) (λs H fp=>pv 0)) (aa (pv 1) ae))))
   (ak (kI T.bP T.iz (pv 0) (aU (N':=["line","fall","self"]) (n:=2) (fi:=[0]) (g:=oY K 2 (cF (aN 0) (cF (aN 1) pH))) rfl (aY (ag (mIn 53 0)) ["self","sieve","rows","by_hand","lines","first"] (by decide +kernel)) (sQ (by rfl) T.vw (aa (pv 4) (aa (pv 5) ae))) (λs H fp=>c7 rfl (aI (av (i:=0) (show(["line","fall","self"]:List Str).Nodup by decide +kernel) rfl (Or.inl rfl) (.inr rfl)) (aI (av (i:=1) (show(["line","fall","self"]:List Str).Nodup by decide +kernel) rfl (Or.inl rfl) (.inr rfl)) bU))) (λs H fp=>aL) (λs H fp=>l7 (aP B6 (pv 1) uu (aQ _)) (ar mT hr (by rfl) T.dz.mg T.dz.fn.kp T.dz.bd .nil ay (aa (pv 0) (aa (cw T.bP T.iE (pv 2)) ae))) (pv 1))))))))),?_⟩
  refine⟨_,rfl,r,rfl,⟨_,.of c2⟩,λL hL=>?_⟩;refine aK (K:=K) (xs:=rv) (λi a J H1=>(∃u v,J=[u,v])/\af H H1/\a=((rs.take i).map (·.2)).map V.str) ab ⟨⟨_,_,rfl⟩,af.new hL,rfl⟩ (λi a J H1 _ _ q=>.of (q.2.1 _ _ c2)) (λi y a J H1 hy d0 q=>?_) (λa J H1 W q=>?_)
  ·obtain⟨q0,s1,rfl⟩:=q;apply wH q0;clear q0;intro u v;obtain⟨p,_,hp,rfl,dp,_⟩:=Ap cn hy;have hi:=aG hp;refine E9 (s1.gL dp) ⟨_,rfl,_,d0,small (by simp only[R8,Sx];lia),_,ab,⟨_,_,rfl⟩,ax hL s1,?_⟩;rw[SG,hp];simp
  obtain⟨_,s1,rfl⟩:=q;rw[PV,So (Sb _)]at W;have b8:∀z∈rs.map (·.2),∃ws,ir 12 z ws:=λz I=>by
   obtain⟨q,hq,rfl⟩:=Si.mp I;exact d9 q hq
  have cz:(rs.map (·.2)).length<64:=by rw[R8];exact dr
  generalize rs.map (·.2)=zs at W b8 cz k
  have bo:∀z∈zs,LOk z/\Y1 z=true:=λz I=>by
   obtain⟨ws,hw⟩:=b8 z I;have:=hw.ok (by decide);exact⟨Sl this.2 (by decide),this.1⟩
  refine⟨_,rfl,L,rfl,⟨_,.of W⟩,λF hF=>?_⟩;refine aK (K:=K) (xs:=zs.map V.str) (λi a J U=>(∃u,J=[u,some (.ref b)])/\af H1 U/\∃os:List (Option (List Pt)),aE K (wo F (lim H U)) a (os.map oP)/\os.length=i/\∀(j:Nat) z o,zs[j]? = some z->os[j]? = some o->Dq bs z o) ab ⟨⟨_,rfl⟩,af.new hF,[],.nil,rfl,λj z o _ e=>by cases e⟩ (λi a J U _ _ q=>.of (q.2.1 _ _ W)) (λi y a J U hy bw q=>?_) (λfo J U Z q=>?_)
  ·obtain⟨q0,s2,os,dn,a3,b3⟩:=q;apply dJ q0;clear q0;intro u;obtain⟨z,I,rfl⟩:=e9 hy;have a0:=bo z (Sd I);have hi:=aG I;have m:=s1.trans s2;refine cq ⟨_,rfl,_,rfl,z,b,bv,bs,rfl,.of (m _ _ hb),by lia,cs.same m,dm,a0.1,a0.2,λrr H3 s3 hf=>?_⟩;obtain⟨o,ho,bN⟩:=zL hf;have ah:a.length=i:=by rw[dn.length,R8];exact a3
   refine⟨_,s3 _ _ bw,small (by lia),_,ab,⟨_,rfl⟩,ax hF (s2.trans s3),os++[o],?_,by rw[Sj,a3];rfl,λj z' o' S l=>?_⟩
   ·rw[rD,Sm];exact(dn.same (jF (cZ s3))).append (.cons (bN.same (GY m bw)) .nil)
   ·by_cases hj:j<os.length
    ·rw[SW hj]at l;exact b3 j z' o' S l
    ·have ap:=aG l;rw[Sj,Sw]at ap;have ai:j=i:=by lia
     rw[S1 (by lia),show j - os.length=0 by lia]at l;cases l;rw[ai,I]at S;cases S;exact ho
  obtain⟨_,s2,os,bh,a3,b3⟩:=q;rw[R8]at a3;have dF:aE K (lim H U) fo (os.map oP):=bh.same bc;have bp:fo.length=zs.length:=by rw[dF.length,R8];exact a3
  have m:=s1.trans s2;have a7:=m _ _ hx;have as:=s2 _ _ W;have c3:=aV bl m;clear bh s1 s2 W;refine⟨_,rfl,_,rfl,x,M,_,rfl,a7,by decide,?_⟩;refine eG c3 a7 λH3 a5 f3 cg=>?_;replace a5:H3 x=some (.ins A.aT M [("rows",.ref r)]):=a5;refine⟨_,rfl,_,rfl,x,M,_,rfl,a5,by simp,?_⟩;refine eG cg a5 λH4 aq f0 c6=>?_;replace aq:H4 x=some (.ins A.aT M [("rows",.ref r),("by_hand",.ref b)]):=aq;have f4:∀c,c≠x->H4 c=U c:=λc h=>(f0 c h).trans (f3 c h);clear cg a5 f3;have c5:L≠x:=λe=>by rw[e,hx]at hL;cases hL
  have bi:F≠x:=λe=>by rw[e,a7]at Z;cases Z
  have c1:H4 L=some (.lst (zs.map V.str)):=by rw[f4 _ c5];exact as
  have bt:H4 F=some (.lst fo):=by rw[f4 _ bi];exact Z
  have MO:SqT K H4 t [.int s0,.int l0]:=by
   have f:=rE hx cx;exact(show af (wo x H) H4 fromλc o e=>by
    obtain⟨B,e⟩:=aZ e;rw[f4 c B];exact m _ _ e).gL f
  have c4:∀(i:Nat) z y,zs[i]? = some z->fo[i]? = some y->∃o,Dq bs z o/\os[i]? = some o/\decide (y=V.non)=o.isNone:=λi z y I hy=>by
   obtain⟨o,ho,hd⟩:=wV dF hy;exact⟨o,b3 i z o I ho,ho,A1 hd⟩
  refine⟨_,rfl,_,rfl,L,F,rfl,⟨_,.of c1⟩,⟨_,.of bt⟩,λGL cj=>?_⟩;refine ua (K:=K) (xs:=zs.map V.str) (ys:=fo) (λi a J H5=>(∃u v,J=[u,v])/\af H4 H5/\a=(oM bs (zs.take i)).map V.str) ab ⟨⟨_,_,rfl⟩,af.new cj,rfl⟩ (λi a J H5 _ q=>⟨.of (q.2.1 _ _ c1),.of (q.2.1 _ _ bt)⟩) (λi xx y a J H5 tt bb hy R q b4=>?_) (λa J H5 bf q=>?_)
  ·obtain⟨q0,s5,rfl⟩:=q;apply wH q0;clear q0;intro u v;obtain⟨z,I,rfl⟩:=e9 bb;obtain⟨o,ho,c9,Le⟩:=c4 i z y I hy;have st:af H5 (upd H5 tt (.tup [.str z,y])):=af.new b4;have hi:=aG I;have ah:=B8 (bs:=bs) (zs:=zs.take i);rw[Sx]at ah;refine⟨tt,_,rfl,.of ab,rfl,_,_,rfl,_,_,rfl,rfl,_,rfl,rfl,_,rfl,?_⟩;rw[Le,ho.none];have a6:=ES (bs:=bs) I;cases he:(bs.filter (cL z)).isEmpty with
   | true=>
    rw[he]at a6;refine b9 ⟨_,rfl,_,st _ _ R,small (by rw[R8];lia),_,ab,⟨_,_,rfl⟩,ax cj (s5.trans st),?_⟩;rw[a6,Sm];rfl
   | false=>
    rw[he]at a6;refine br ⟨_,st _ _ R,⟨_,_,rfl⟩,s5.trans st,?_⟩;rw[a6];simp
  obtain⟨_,s5,rfl⟩:=q;rw[R8,bp,TU,So (Sb _)]at bf;have Rz:=B8 (bs:=bs) (zs:=zs);refine⟨_,rfl,GL,t,oM bs zs,s0,l0,rfl,.inl bf,by lia,λz I=>b8 z (SM.mp I).1,s5.gL MO,aV c6 s5,λD ms EW H6 ps cv hu hD s6 cm dh d7 dg aw O7 _ _ ao=>?_⟩;have BX:m4 s0 l0 (oM bs zs) ps:=⟨⟨ms,cv,hu,d7⟩,dg,aw,O7⟩;have b1:=s5 _ _ aq;have b5:H6 x=some (.ins A.aT M [("rows",.ref r),("by_hand",.ref b)]):=s6 _ _ (by rw[au d6];exact b1);have a9:D≠x:=λe=>by rw[e,b1]at hD;cases hD
  have R4:EW.length=ps.length:=by rw[ao.length,R8]
  refine⟨_,rfl,x,M,_,rfl,b5,by simp,?_⟩;refine eG cm b5 λH7 O f7 bq=>?_;replace O:H7 x=some (.ins A.aT M [("rows",.ref r),("by_hand",.ref b),("found",.ref D)]):=O;obtain⟨bk,By⟩:=bj bq;have N:∀c o,c≠x->c≠A.aB->U c=some o->H7 c=some o:=λc o f B e=>by
   rw[f7 c f];refine s6 _ _ ?_;rw[au B];refine s5 _ _ ?_;rw[f4 c f];exact e
  have du:∀c o,c≠x->c≠A.aB->H5 c=some o->H7 c=some o:=λc o f B e=>by
   rw[f7 c f];exact s6 _ _ (by rw[au B];exact e)
  have b2:∀c o,c≠x->H6 c=some o->H7 c=some o:=λc o f e=>by rw[f7 c f];exact e
  have cf:∀{c:Z6}{ys:List V},U c=some (.lst ys)->c≠A.aB:=λ{c ys} h e=>by
   obtain⟨q,hq⟩:=bj c3;rw[e,hq]at h;cases h
  have cc:H7 L=some (.lst (zs.map V.str)):=N _ _ c5 (cf as) as;have ct:H7 F=some (.lst fo):=N _ _ bi (cf Z) Z;have bu:H7 D=some (.lst EW):=b2 _ _ a9 dh;have cu:∀d,H x≠some (.lst d):=λd e=>by rw[hx]at e;cases e
  have c8:∀d,H A.aB≠some (.lst d):=λd e=>by rw[a8]at e;cases e
  have d8:∃C M fs,lim H U x=some (.ins C M fs):=⟨_,_,_,by rw[bK cu];exact a7⟩;have de:∃ps,lim H U A.aB=some (.tbl ps):=⟨_,by rw[bK c8];exact m _ _ a8⟩;have cb:∃C M fs,lim H5 H6 x=some (.ins C M fs):=⟨_,_,_,by rw[bK λd e=>by rw[b1]at e;cases e];exact b5⟩;have bg:∃ps,lim H5 H6 A.aB=some (.tbl ps):=by
   obtain⟨_,d5⟩:=bj (aV c6 s5);obtain⟨q6,d4⟩:=bj cm;exact⟨q6,by rw[bK λd e=>by rw[d5]at e;cases e];exact d4⟩
  have dq:∀c d,(∀ys,H5 c≠some (.lst ys))->c≠x->H c≠some (.lst d):=λc d f B e=>f d (s5 _ _ (by rw[f4 c B];exact m _ _ e));have da:aE K H7 EW (ps.map bx):=pG ao cb bg λc o f _ _ e=>b2 c o f e;have dk:∀p∈ps,POk p:=λp hp=>⟨Sl (aw p hp).2.2 (by decide),λq hq=>((aw p hp).1 q hq).ok⟩;refine⟨_,rfl,_,rfl,L,F,rfl,⟨_,.of cc⟩,⟨_,.of ct⟩,λG hG=>?_⟩;have df:∀c o,c≠x->c≠A.aB->U c=some o->c≠G:=λc o f B e z=>by rw[<-z,N c o f B e]at hG;cases hG
  refine ua (K:=K) (xs:=zs.map V.str) (ys:=fo) (λi a J H8=>(∃u v,J=[u,v,some (.ref x)])/\af H7 H8/\∃ls:List (Option (List Pt)),aE K (wo G (lim H H8)) a (ls.map oP)/\ls.length=i/\∀(j:Nat) z o,zs[j]? = some z->ls[j]? = some o->CK bs ps z o) ab ⟨⟨_,_,rfl⟩,af.new hG,[],.nil,rfl,λj z o _ e=>by cases e⟩ (λi a J H8 _ q=>⟨.of (q.2.1 _ _ cc),.of (q.2.1 _ _ ct)⟩) (λi xx y a J H8 tt bb hy R q b4=>?_) (λlv J H8 dd q=>?_)
  ·obtain⟨q0,s8,ls,dn,X,az⟩:=q;apply wH q0;clear q0;intro u v;obtain⟨z,I,rfl⟩:=e9 bb;obtain⟨o,ho,c9,Le⟩:=c4 i z y I hy;have st:af H8 (upd H8 tt (.tup [.str z,y])):=af.new b4;have cp:SqT K (upd H8 tt (.tup [.str z,y])) tt [.str z,y]:=.of ab;have Y:=s8.trans st;generalize upd H8 tt (.tup [.str z,y])=H9 at st cp Y ⊢;have hi:=aG I;have ah:a.length=i:=by rw[dn.length,R8];exact X
   have a0:=bo z (Sd I);have b6:=st _ _ R;have ck:∀{o':Option (List Pt)},CK bs ps z o'->∀(j:Nat) z' o2,zs[j]? = some z'->(ls++[o'])[j]? = some o2->CK bs ps z' o2:=λ{o'} h' j z' o2 S l=>by
    by_cases hj:j<ls.length
    ·rw[SW hj]at l;exact az j z' o2 S l
    ·have ap:=aG l;rw[Sj,Sw]at ap;have ai:j=i:=by lia
     rw[S1 (by lia),show j - ls.length=0 by lia]at l;cases l;rw[ai,I]at S;cases S;exact h'
   refine E9 cp ⟨_,rfl,rfl,_,rfl,?_⟩;rw[Le];cases o with
   | none=>
    have di:bs.filter (cL z)=[]:=by
     rcases ho with⟨e,_⟩ | ⟨p,e,_⟩
     ·exact e
     ·cases e
    refine b9 ⟨_,rfl,_,rfl,x,M,_,.ref D,rfl,Y _ _ O,rfl,z,D,EW,ps,rfl,.of (Y _ _ bu),by lia,da.same Y,dk,a0.1,a0.2,λrr c0 a4 hf=>?_⟩;obtain⟨o',l,bN⟩:=zL hf;refine⟨_,a4 _ _ b6,small (by lia),_,ab,⟨_,_,rfl⟩,ax hG (Y.trans a4),ls++[o'],?_,by rw[Sj,X];rfl,ck (.inr ⟨di,l⟩)⟩;rw[rD,Sm];refine(dn.same (jF (cZ (st.trans a4)))).append (.cons ?_ .nil);have d3:∃C M fs,lim H9 c0 x=some (.ins C M fs):=⟨_,_,_,by rw[bK λd e=>by rw[Y _ _ O]at e;cases e];exact a4 _ _ (Y _ _ O)⟩;have dj:∃ps,lim H9 c0 A.aB=some (.tbl ps):=⟨bk,by rw[bK λd e=>by rw[Y _ _ By]at e;cases e];exact a4 _ _ (Y _ _ By)⟩;refine Co bN d3 dj λc o2 f B h3 e=>?_;rw[au λe2=>h3 _ (by rw[e2];exact b6),bK λd e2=>h3 d (Y _ _ (N _ _ f B (m _ _ e2)))];exact e
   | some p=>
    have d2:Den K (lim H U) y (oP (some p)):=by
     obtain⟨o2,be,hd⟩:=wV dF hy;rw[c9]at be;cases be;exact hd
    refine br ⟨_,rfl,_,b6,small (by lia),_,ab,⟨_,_,rfl⟩,ax hG Y,ls++[some p],?_,by rw[Sj,X];rfl,ck (.inl ?_)⟩
    ·rw[rD,Sm];refine(dn.same (jF (cZ st))).append (.cons ?_ .nil);refine Co d2 d8 de λc o2 f B h3 e=>?_;rw[au (df c o2 f B e),bK h3];exact Y _ _ (N c o2 f B e)
    ·rcases ho with⟨_,e⟩ | ⟨_,e,hl⟩
     ·cases e
     ·cases e;exact⟨p,rfl,hl⟩
  obtain⟨_,s8,ls,cy,X,az⟩:=q;rw[R8,bp,TU]at X;have ba:=s8 _ _ O;have R:G≠x:=λe=>by rw[e,O]at hG;cases hG
  refine⟨_,rfl,x,M,_,rfl,ba,by simp,?_⟩;refine eG (aV bq s8) ba λH9 b7 f9 dc=>?_;replace b7:H9 x=some (.ins A.aT M [("rows",.ref r),("by_hand",.ref b),("found",.ref D),("falls",.ref G)]):=b7;have b0:∀c o,c≠x->H7 c=some o->H9 c=some o:=λc o f e=>by rw[f9 c f];exact s8 _ _ e
  refine k H9 D G EW lv ps ls ?_ ?_ ?_ dc b7 (b0 _ _ a9 bu) ?_ (by rw[f9 _ R];exact dd) ?_ BX ⟨X,az⟩
  ·cases e:H D with
   | none=>rfl
   | some o=>
    have:=s5 _ _ (show H4 D=some o by rw[f4 _ a9];exact m _ _ e);rw[hD]at this;cases this
  ·cases e:H G with
   | none=>rfl
   | some o=>
    by_cases B:G=A.aB
    ·rw[B,By]at hG;cases hG
    ·have:=N _ _ R B (m _ _ e);rw[hG]at this;cases this
  ·intro c o e;obtain⟨f,e⟩:=aZ e;obtain⟨B,e⟩:=aZ e;exact b0 _ _ f (N _ _ f B (m _ _ e))
  ·exact pG ao cb bg λc o f B h3 e=>by
    rw[bK λd=>dq c d h3 f];exact b0 _ _ f (b2 _ _ f e)
  ·have d1:∃C M fs,lim H H8 x=some (.ins C M fs):=⟨_,_,_,by rw[bK cu];exact ba⟩;have dt:∃ps,lim H H8 A.aB=some (.tbl ps):=⟨bk,by rw[bK c8];exact s8 _ _ By⟩;exact pG (cy.same bc) d1 dt λc o f B h3 e=>by
    rw[bK h3,f9 c f];exact e
def qS (K:Vz) (A:Ad):Sp:=λvs H Q _=>∃(g dx st dx2:Z6) (fs gs:List (Str×V)) (rr bb:V),vs=[.ref g]/\H g=some (.ins A.be dx fs)/\YS ("state" : Str) fs=some (.ref st)/\H st=some (.ins A.aT dx2 gs)/\YS ("rows" : Str) gs=some rr/\YS ("by_hand" : Str) gs=some bb/\∀p,H p=none->Q (.ref p) (upd H p (.tup [rr,bb]))
def lV (K:Vz) (A:Ad):Sp:=λvs H Q _=>∃(g h dx t st ah pa tb r b:Z6) (rv bv:List V) (rs:List (Int×Str)) (bs:List (List Pt)) (s l:Int),vs=[.ref g,.ref h]/\H g=some (.ins A.be dx [("sieve",.ref t),("state",.ref st),("ahead",.ref ah),("past",.ref pa),("taken_back",.ref tb)])/\SqT K H h [.ref r,.ref b]/\SqT K H t [.int s,.int l] /\
 H r=some (.lst rv)/\aE K H rv (rs.map Bb)/\H b=some (.lst bv)/\aE K H bv (bs.map bx)/\rs.length<64/\(∀q∈rs,∃ws,ir 12 q.2 ws)/\bs.length<64/\pQ bs/\cY A.aB H /\
 ∀(H':Hp) (x dx' f fl:Z6) (fv lv:List V) (fnd:List (List Pt)) (fls:List (Option (List Pt))),H x=none->H f=none->H fl=none->af (wo g (wo A.aB H)) H'->cY A.aB H'->H' g=some (.ins A.be dx [("sieve",.ref t),("state",.ref x),("ahead",.ref st),("past",.ref pa),("taken_back",.ref tb)]) ->
  H' x=some (.ins A.aT dx' [("rows",.ref r),("by_hand",.ref b),("found",.ref f),("falls",.ref fl)])->H' f=some (.lst fv)->aE K (lim H H') fv (fnd.map bx)->H' fl=some (.lst lv)->aE K (lim H H') lv (fls.map oP)->m4 s l (oM bs (rs.map (·.2))) fnd->BV bs fnd (rs.map (·.2)) fls->Q .non H'
def iA (K:Vz) (A:Ad):Sp:=λvs H Q _=>∃(B:Hp) (g pa tb r b:Z6) (v:km) (rv bv:List V) (rs:List (Int×Str)) (bs:List (List Pt)),vs=[.ref g,.ref r,.ref b]/\bO K A.be A.aT B H g pa tb v/\B A.aB=none/\B r=some (.lst rv)/\aE K B rv (rs.map Bb)/\B b=some (.lst bv)/\aE K B bv (bs.map bx)/\rs.length<64/\(∀q∈rs,∃ws,ir 12 q.2 ws)/\bs.length<64/\pQ bs/\v.past.length<=100000/\cY A.aB H /\
 ∀(H' B':Hp) (tb':Z6) (cur:StV),af (wo g (wo pa (wo A.aB H))) H'->cY A.aB H'->H tb' = none->af B B'->(∀c o,B c=none->H c=some o->sJ o->B' c=none)->cur.rs=rs->cur.bs=bs->bO K A.be A.aT B' H' g pa tb' ⟨v.s,v.l,cur,v.cur,v.past++[(v.cur.rs,v.cur.bs)],[]⟩->Q .non H'
def qQ (K:Vz) (A:Ad):Sp:=λvs H Q _=>∃(B:Hp) (g pa tb:Z6) (v:km) (m:Int) (z:Str),vs=[.ref g,.int m,.str z]/\bO K A.be A.aT B H g pa tb v/\B A.aB=none/\(∃ws,ir 12 z ws)/\v.cur.rs.length<63/\(∀q,v.cur.rs.getLast? = some q->q.1<=m)/\v.past.length<=100000/\cY A.aB H /\
 ∀(H' B':Hp) (tb':Z6) (cur:StV),af (wo g (wo pa (wo A.aB H))) H'->cY A.aB H'->H tb' = none->af B B'->(∀c o,B c=none->H c=some o->sJ o->B' c=none)->cur.rs=v.cur.rs++[(m,z)]->cur.bs=v.cur.bs->bO K A.be A.aT B' H' g pa tb' ⟨v.s,v.l,cur,v.cur,v.past++[(v.cur.rs,v.cur.bs)],[]⟩->Q (.int (v.cur.rs.length:Int)) H'
def qU (K:Vz) (A:Ad):Sp:=λvs H Q _=>∃(g t dx:Z6) (s l:Int),vs=[.ref g,.ref t]/\H g=some (.ins A.be dx [])/\SqT K H t [.int s,.int l]/\cY A.aB H /\
 ∀(H' B':Hp) (pa tb:Z6) (cur:StV),af (wo g (wo A.aB H)) H'->cY A.aB H'->H pa=none->H tb=none->(∀c o,H c=some o->sJ o->B' c=none)->cur.rs=[]->cur.bs=[]->bO K A.be A.aT B' H' g pa tb ⟨s,l,cur,cur,[],[]⟩->Q .non H'
def cW (K:Vz) (A:Ad):Sp:=λvs H Q _=>∃(B:Hp) (g pa tb:Z6) (v:km),vs=[.ref g]/\bO K A.be A.aT B H g pa tb v /\
 ∀(D:Z6) (acc:List V) (H':Hp),H D=none->af H H'->H' D=some (.lst acc)->aE K (lim H H') acc ((v.cur.bs++v.cur.fs).map bx)->Q (.ref D) H'
def oZ (K:Vz) (A:Ad):Sp:=λvs H Q _=>∃(B:Hp) (g pa tb:Z6) (v:km) (i:Nat) (ps:List Pt),vs=[.ref g,.int i]/\bO K A.be A.aT B H g pa tb v/\v.cur.os[i]? = some (some ps) /\
 ∀(D:Z6) (ys:List V) (H':Hp),H D=none->af H H'->H' D=some (.lst ys)->aE K (lim H H') ys (ps.map Pt.dat)->Q (.ref D) H'
theorem yu:aD ["self"] ["self"] (ag (mIn 54 3)):=by refine⟨rfl,rfl,rfl,?_,rfl,?_,?_⟩<;>decide +kernel
theorem yY (T:Tx K mg A):aA P w K mg base CX0 1 A.jU A.ny ["self"] (qS K A):=by
 refine T.yr.fn.ok yu (λq H Q E h=>?_) (λ_ _ _ s H q Q E _ h=>?_)
 ·obtain⟨g,f,c,a,e,d,l,j,rfl,_⟩:=h;rfl
 ·obtain⟨g,f,c,a,e,d,l,j,rfl,i,b,m,n,o,k⟩:=h;refine⟨_,ak (aC (dD (aa (cw T.bP T.eu (cw T.a8 T.bg (pv 0))) (aa (cw T.bP T.cE (cw T.a8 T.bg (pv 0))) ae)))),?_⟩;exact⟨_,rfl,g,f,e,.ref c,rfl,i,b,c,a,d,l,rfl,m,n,_,rfl,g,f,e,.ref c,rfl,i,b,c,a,d,j,rfl,m,o,(by show 2<=Zc;decide),λp r=>k p r⟩
theorem ik:aD ["self","held","rows","by_hand"] ["self","held"] (ag (mIn 54 5)):=by refine⟨rfl,rfl,rfl,?_,rfl,?_,?_⟩<;>decide +kernel
theorem su (T:Tx K mg A):aA P w K mg base CX0 23 A.fZ A.i4 ["self","held"] (lV K A):=by
 have i8:aA P w K mg base CX0 21 _ _ _ _:=(mX T).mono (by decide);refine T.qT.fn.ok ik (λvs H Q E h=>?_) (λ_ _ _ s H vs Q E hr h=>?_)
 ·obtain⟨g,h,l,t,y,ah,W,S,r,b,rv,bv,rs,bs,s0,l0,rfl,_⟩:=h;rfl
 ·obtain⟨g,h,l,t,y,ah,W,S,r,b,rv,bv,rs,bs,s0,l0,rfl,m,ar,X,J,ap,hb,aw,ax,a6,a4,a5,D,k⟩:=h;obtain⟨_,mL⟩:=bj D;have ai:g≠A.aB:=λe=>by rw[<-e,m]at mL;cases mL
  refine⟨_,aj (nv (pv 1) (c7 rfl (aI (av (i:=2) ik.nd rfl (Or.inl rfl)) (aI (av (i:=3) ik.nd rfl (Or.inl rfl)) bU))))
   (aj (kI T.a8 T.pq (pv 0) (cw T.a8 T.bg (pv 0)))
   (ak (kI T.a8 T.bg (pv 0) (xV T.zk i8 hr (by rfl) T.Cb T.nI.bd .nil ay (aa (cw T.a8 T.ki (pv 0)) (aa (pv 2) (aa (pv 3) ae))))))),?_⟩
  refine⟨_,rfl,h,_,rfl,ar,rfl,_,_,rfl,_,_,rfl,rfl,?_⟩;refine⟨_,rfl,g,l,_,.ref y,rfl,m,rfl,_,rfl,g,l,_,rfl,m,by simp,?_⟩;refine eG D m λH2 a f2 a7=>?_;replace a:H2 g=some (.ins A.be l [("sieve",.ref t),("state",.ref y),("ahead",.ref y),("past",.ref W),("taken_back",.ref S)]):=a;have s2:af (wo g H) H2:=λc o e=>by
   obtain⟨j,e⟩:=aZ e;rw[f2 c j];exact e
  refine⟨_,rfl,g,l,_,.ref t,rfl,a,rfl,_,rfl,_,rfl,λx I U a3 Y=>?_⟩;obtain⟨Hx,eq,C,az⟩:=AA A.aT U a3 Y;rw[eq];have n:af (wo g H) Hx:=s2.trans C;have F:∀{c:Z6}{R:List V},H c=some (.lst R)->c≠g:=λ{c R} h e=>by rw[e,m]at h;cases h
  have B:x≠g:=λe=>by rw[e,a]at U;cases U
  have G:H x=none:=by rw[<-f2 x B];exact U
  refine⟨x,t,r,b,I,rv,bv,rs,bs,s0,l0,rfl,az,n.gL (rE m X),n _ _ (by rw[au (F J)];exact J),(uz m ap).same n,n _ _ (by rw[au (F hb)];exact hb),(uz m aw).same n,ax,a6,a4,a5,aV a7 C,λH3 f Z fv lv ag ao hf q s3 ab as a0 df PD dl BX tT=>⟨rfl,?_⟩⟩;have p:H3 g=some (.ins A.be l [("sieve",.ref t),("state",.ref y),("ahead",.ref y),("past",.ref W),("taken_back",.ref S)]):=s3 _ _ (by rw[au B.symm,au ai];exact C _ _ a);refine⟨_,rfl,g,l,_,rfl,p,by simp,?_⟩;refine eG ab p λH4 u O a9=>?_;replace u:H4 g=some (.ins A.be l [("sieve",.ref t),("state",.ref x),("ahead",.ref y),("past",.ref W),("taken_back",.ref S)]):=u;have N:∀{c:Z6},Hx c=none->H c=none:=λ{c} e=>by
   cases e2:H c with
   | none=>rfl
   | some o=>
    by_cases j:c=g
    ·rw[j,C _ _ a]at e;cases e
    ·rw[n c o (by rw[au j];exact e2)]at e;cases e
  have aq:f≠g:=λe=>by rw[e,C _ _ a]at hf;cases hf
  have Pq:Z≠g:=λe=>by rw[e,C _ _ a]at q;cases q
  have go:∀{v:List V}{ds:List Zb},aE K (lim Hx H3) v ds->aE K (lim H H4) v ds:=λ{v ds} d=>rM d λc o j M _ h3 _=>by
   have L:c≠g:=λe=>by rw[e,p]at M;cases M;exact h3 _ _ _ rfl
   rw[bK λR e=>j R (n _ _ (by rw[au L];exact e)),O c L];exact M
  refine k H4 x I f Z fv lv ag ao G (N hf) (N q) (λc o e=>?_) a9 u (by rw[O x B];exact as) (by rw[O f aq];exact a0) (go df) (by rw[O Z Pq];exact PD) (go dl) BX tT;obtain⟨j,e⟩:=aZ e;obtain⟨M,e⟩:=aZ e;rw[O c j];exact s3 _ _ (by rw[au (λz=>by rw[z,G]at e;cases e),au M];exact n _ _ (by rw[au j];exact e))
theorem tV:aD ["self","rows","by_hand"] ["self","rows","by_hand"] (ag (mIn 54 6)):=by refine⟨rfl,rfl,rfl,?_,rfl,?_,?_⟩<;>decide +kernel
theorem lF (T:Tx K mg A):aA P w K mg base CX0 24 A.eA A.gj ["self","rows","by_hand"] (iA K A):=by
 have uP:aA P w K mg base CX0 23 _ _ _ _:=(su T).mono (by decide);have AI:aA P w K mg base CX0 23 _ _ _ _:=(yY T).mono (by decide);refine T.l3.fn.ok tV (λvs H Q E h=>?_) (λ_ _ _ s H vs Q E hr h=>?_)
 ·obtain⟨B,g,pa,tb,r,b,v,rv,bv,rs,bs,rfl,_⟩:=h;rfl
 ·obtain⟨B,g,pa,tb,r,b,v,rv,bv,rs,bs,rfl,ck,bo,b3,b5,ar,b6,b7,ax,as,av,bl,ag,k⟩:=h;obtain⟨W,t,st,ah,D,_,hg,m,_,sB,a7,wL,_,_,a5,ao,_,ai,_,bc,_⟩:=ck;have uC:=ao;obtain⟨ba,N,M,_,_,bq,br,_,_,q1,q2,q3,q4,q5,_,_,_,_⟩:=uC;obtain⟨_,mL⟩:=bj ag;have bw:g≠A.aB:=λe=>by rw[<-e,hg]at mL;cases mL
  have bt:pa≠A.aB:=λe=>by rw[<-e,m]at mL;cases mL
  have a0:pa≠g:=λe=>by rw[e,hg]at m;cases m
  have NZ:D.length<=100000:=by rw[ai.1];exact bl
  refine⟨_,aj (cm (ee Y9 Yj Yk cJ (cw T.a8 T.qI (pv 0)) (aa (gv (pv 0) T.a8 T.zw AI hr T.yr.bd .nil ay) ae)))
   (aj (kI T.a8 T.iP (pv 0) (bC ae))
   (ak (cm (fk (pv 0) T.a8 T.rT uP hr T.qT.bd .nil ay (aa (dD (aa (pv 1) (aa (pv 2) ae))) ae))))),?_⟩
  refine⟨_,rfl,g,W,_,.ref pa,rfl,hg,rfl,.inl ⟨rfl,_,.of m⟩,_,rfl,g,W,_,rfl,hg,rfl,g,W,st,ba,_,_,.ref N,.ref M,rfl,hg,rfl,sB _ _ q1,rfl,rfl,λp L=>?_⟩;have U:p≠pa:=λe=>by rw[e,m]at L;cases L
  have O:p≠g:=λe=>by rw[e,hg]at L;cases L
  refine⟨pa,D,_,rfl,rfl,by rw[aq U.symm];exact m,small (by lia),?_⟩;have f2:∀c,c≠pa->c≠p->(upd (upd H p (.tup [.ref N,.ref M])) pa (.lst (D++[.ref p]))) c=H c:=λc i j=>by rw[aq i,aq j]
  have KG:(upd (upd H p (.tup [.ref N,.ref M])) pa (.lst (D++[.ref p]))) pa=some (.lst (D++[.ref p])):=ab;have Z:(upd (upd H p (.tup [.ref N,.ref M])) pa (.lst (D++[.ref p]))) p=some (.tup [.ref N,.ref M]):=by rw[aq U];exact ab
  have az:cY A.aB (upd (upd H p (.tup [.ref N,.ref M])) pa (.lst (D++[.ref p]))):=rJ (aV ag (af.new L)) (xs:=D) (by rw[aq U.symm];exact m);generalize upd (upd H p (.tup [.ref N,.ref M])) pa (.lst (D++[.ref p]))=H2 at f2 KG Z az ⊢;have ap:H2 g=_:=(f2 g a0.symm O.symm).trans hg;refine⟨Sy _,λtb' X=>?_⟩;have b2:tb'≠g:=λe=>by rw[e,ap]at X;cases X
  have a9:tb'≠pa:=λe=>by rw[e,KG]at X;cases X
  have NT:tb'≠p:=λe=>by rw[e,Z]at X;cases X
  have yD:H tb' = none:=by rw[<-f2 tb' a9 NT];exact X
  have s3:af H2 (upd H2 tb' (.lst [])):=af.new X;have OL:(upd H2 tb' (.lst [])) tb' = some (.lst []):=ab;generalize upd H2 tb' (.lst [])=H3 at s3 OL ⊢;have a6:=s3 _ _ ap;refine⟨_,rfl,g,W,_,rfl,a6,by simp,?_⟩;refine eG (aV az s3) a6 λH4 J f4 b1=>?_;replace J:H4 g=some (.ins A.be W [("sieve",.ref t),("state",.ref st),("ahead",.ref ah),("past",.ref pa),("taken_back",.ref tb')]):=J;have R:∀c o,c≠g->c≠pa->H c=some o->H4 c=some o:=λc o i j e=>by
   rw[f4 c i];refine s3 _ _ ?_;rw[f2 c j λz=>by rw[z,L]at e;cases e];exact e
  refine⟨_,rfl,g,W,_,rfl,J,rfl,_,rfl,_,rfl,(by show 2<=Zc;decide),λh hh=>?_⟩;obtain⟨H5,eq,u,bf⟩:=fF (.tup [.ref r,.ref b]) hh;rw[eq];have G:∀{c:Z6}{o:HO},B c=some o->c≠g/\c≠pa/\c≠A.aB:=λ{c o} e=>⟨(λz=>by rw[z,a7]at e;cases e),(λz=>by rw[z,wL]at e;cases e),λz=>by rw[z,bo]at e;cases e⟩;have I:af B H5:=λc o e=>u _ _ (R c o (G e).1 (G e).2.1 (sB _ _ e));refine⟨g,h,W,t,st,ah,pa,tb',r,b,rv,bv,rs,bs,v.s,v.l,rfl,u _ _ J,.of bf,I.gL a5,I _ _ b3,b5.same I,I _ _ ar,b6.same I,b7,ax,as,av,aV b1 u,λn x bb f fl fv lv bi bk hx hf b8 s6 b4 aw bp bh df Qf dl BX tT=>?_⟩;have S:∀c o,c≠g->c≠pa->c≠A.aB->H c=some o->n c=some o:=λc o i j y e=>s6 _ _ (by rw[au i,au y];exact u _ _ (R c o i j e));have a3:∀c o,c≠g->c≠A.aB->H4 c=some o->n c=some o:=λc o i y e=>s6 _ _ (by rw[au i,au y];exact u _ _ e);have Nf:B tb' = none:=sB.free yD;have NN:∀c o,B c=some o->n c=some o:=λc o e=>S c o (G e).1 (G e).2.1 (G e).2.2 (sB _ _ e);have a:=Ab (H':=n) sB a7 wL Nf NN;have kP:=rK (B:=B) (H:=H) (H':=n) (g:=g) (pa:=pa) (tb:=tb');have Hm:H4 pa=some (.lst (D++[.ref p])):=by rw[f4 pa a0];exact s3 _ _ KG
  have xQ:H4 tb' = some (.lst []):=by rw[f4 tb' b2];exact OL
  have bu:tb'≠A.aB:=λe=>by
   obtain⟨q,hq⟩:=bj b1;rw[<-e,xQ]at hq;cases hq
  have Pd:=a3 _ _ a0 bt Hm;have DA:=a3 _ _ b2 bu xQ;have h0:∀{c:Z6},H5 c=none->H c=none/\c≠g/\c≠pa/\c≠tb':=λ{c} e=>by
   have n1:c≠g:=λz=>by rw[z,u _ _ J]at e;cases e
   have Y:c≠pa:=λz=>by rw[z,u _ _ Hm]at e;cases e
   have n3:c≠tb':=λz=>by rw[z,u _ _ xQ]at e;cases e
   refine⟨?_,n1,Y,n3⟩;cases e2:H c with
   | none=>rfl
   | some o=>rw[u _ _ (R c o n1 Y e2)]at e;cases e
  have a4:∀{c:Z6},H5 c=none->nxt B H n g pa tb' c=n c:=λ{c} e=>by
   obtain⟨i,j,y,h4⟩:=h0 e;exact iJ j y h4 (λ_ z=>by rw[i]at z;cases z) (λ_ _ _ z=>by rw[i]at z;cases z) λ_ z=>by rw[i]at z;cases z
  have go:∀{v:List V}{ds:List Zb},aE K (lim H5 n) v ds->aE K (nxt B H n g pa tb') v ds:=λ{v ds} d=>rM d λc o i j _ y h4=>by
   have n1:c≠g:=λe=>by rw[e,aw]at j;cases j;exact y _ _ _ rfl
   have Y:c≠pa:=λe=>i _ (by rw[e];exact u _ _ Hm);have n3:c≠tb':=λe=>i _ (by rw[e];exact u _ _ xQ);have n4:c≠A.aB:=λe=>by
    obtain⟨q,hq⟩:=bj b4;rw[e,hq]at j;cases j;exact h4 _ rfl
   rw[iJ n1 Y n3 (λys e=>i ys (u _ _ (R _ _ n1 Y e))) (λC _ _ e=>?_) (λ_ e=>?_)]
   ·exact j
   ·have:=S _ _ n1 Y n4 e;rw[j]at this;cases this;exact y _ _ _ rfl
   ·have:=S _ _ n1 Y n4 e;rw[j]at this;cases this;exact h4 _ rfl
  have PH:p≠A.aB:=λe=>by rw[e,mL]at L;cases L
  have bg:n p=some (.tup [.ref N,.ref M]):=a3 _ _ O PH (by rw[f4 p O];exact s3 _ _ Z);have b9:nxt B H n g pa tb' p=some (.tup [.ref N,.ref M]):=by
   rw[iJ O U NT.symm (λ_ z=>by rw[L]at z;cases z) (λ_ _ _ z=>by rw[L]at z;cases z) λ_ z=>by rw[L]at z;cases z];exact bg
  refine k n (nxt B H n g pa tb') tb' ⟨rs,bs,bi,bk⟩ (λc o e=>?_) b4 yD a (λc o i j y=>xM i j y) rfl rfl
   ⟨W,t,x,st,D++[.ref p],[],aw,Pd,DA,A4 NN,kP.1,kP.2.1,kP.2.2,a9.symm,a.gL a5,
    ⟨bb,r,b,f,fl,rv,bv,fv,lv,by rw[a4 hx];exact bp,a _ _ b3,b5.same a,a _ _ ar,b6.same a,by rw[a4 hf];exact bh,go df,by rw[a4 b8];exact Qf,go dl⟩,
    ao.same a,?_,.nil,⟨BX,tT,ax,av,b7,as⟩,bc⟩
  ·obtain⟨i,e⟩:=aZ e;obtain⟨j,e⟩:=aZ e;obtain⟨y,e⟩:=aZ e;exact S c o i j y e
  ·exact(ai.same a).snoc ⟨p,N,M,bq,br,rfl,.of b9,a _ _ q2,q3.same a,a _ _ q4,q5.same a⟩
theorem Ej {N:Hp->Prop}{G:Prop} (Pre:Hp->Prop) (rest:∀H,Pre H->N H) (f:(∀H,Pre H->N H)->G):G:=f rest
theorem qO:aD ["self","moment","line","rows"] ["self","moment","line"] (ag (mIn 54 7)):=by refine⟨rfl,rfl,rfl,?_,rfl,?_,?_⟩<;>decide +kernel
theorem Ak (T:Tx K mg A):aA P w K mg base CX0 25 A.jJ A.nK ["self","moment","line"] (qQ K A):=by
 have jd:aA P w K mg base CX0 24 _ _ _ _:=(lF T).mono (by decide);have EG:aA P w K mg base CX0 24 _ _ _ _:=(Bj T).mono (by decide);refine T.zS.fn.ok qO (λvs H Q E h=>?_) (λ_ _ _ s H vs Q E hr h=>?_)
 ·obtain⟨B,g,pa,tb,v,m,z,rfl,_⟩:=h;rfl
 ·obtain⟨B,g,pa,tb,v,m,z,rfl,ck,b5,hz,_,O2,b3,W,k⟩:=h;have Fj:=ck;obtain⟨dx,t,st,_,_,_,hg,I,J,sB,a5,wL,Be,_,_,a7,_,_,_,L,_⟩:=Fj;have uC:=a7;obtain⟨a0,S,b0,_,_,a,b7,_,_,q1,q2,q3,q4,q5,_,_,_,_⟩:=uC;obtain⟨ws,M⟩:=hz;have C:=M.ok (by decide);have D:a.length=v.cur.rs.length:=by rw[q3.length,R8]
  refine⟨_,aj (bf (i:=3) qO.nd rfl (Or.inl rfl) (cw T.bP T.eu (cw T.a8 T.bg (pv 0))))
   (aj (bB (ip (cU (ar EG hr (by rfl) T.rC.mg T.rC.fn.kp T.rC.bd .nil ay (aa (pv 2) ae)))) (ak e7) aO)
   (aj (bB ((pw_and (He (pv 3) (λ_=>rfl)) (pw_and1 (aP mW (pv 1) (bi (r:=m8 K) fA (bi (r:=dQ K) a9 (pv 3) (CH xm ap) (λ_ _=>rfl)) ap (λ_ _=>rfl)) (aQ _)))).pt) (ak e7) aO)
   (aj (bB (aP Cz (aH (r:=d4 K) bh (by rfl) T.dv Yb (aa (pv 3) ae)) (gp (v:=.int 120) (by rfl) (YI T.wB) ⟨_,rfl⟩) (aQ _)) (ak e7) aO)
   (aj (cm (fk (pv 0) T.a8 T.lT jd hr T.l3.bd .nil ay (aa (bw (r:=vd K) o9 (pv 3) (bC (aa (dD (aa (pv 1) (aa (pv 2) ae))) ae))) (aa (cw T.bP T.cE (cw T.a8 T.bg (pv 0))) ae))))
   (ak (aC (aH (r:=d4 K) bh (by rfl) T.dv Yb (aa (pv 3) ae)))))))),?_⟩
  refine⟨_,rfl,g,dx,_,.ref st,rfl,hg,rfl,st,a0,_,.ref S,rfl,sB _ _ q1,rfl,?_⟩;refine⟨_,rfl,z,rfl,Sl C.2 (by decide),C.1,by rw[M.split];exact M.le,by rw[M.split];exactλw h=>(M.wd w h).word,λH1 G=>⟨_,rfl,br ?_⟩⟩;have d:=sB.trans G;have l:H1 S=some (.lst a):=d _ _ q2;apply Ej (λH2:Hp=>H2=H1)
  case f=>
   intro rest;refine⟨_,rfl,_,.inl ⟨a,.of l,rfl⟩,?_⟩;cases hq:a with
   | nil=>exact br (br (rest _ rfl))
   | cons y _=>
    have V:a≠[]:=λe=>by rw[e]at hq;cases hq
    obtain⟨F,x',e'⟩:∃F x',a=F++[x']:=⟨a.dropLast,a.getLast V,(List.dropLast_concat_getLast V).symm⟩;have av:a[F.length]? = some x':=by rw[e'];simp
    obtain⟨p,ty,hp,rfl,b6,_⟩:=Ap q3 av;have b8:p.1<=m:=O2 p (by
     rw[List.getLast?_eq_getElem?,<-D,e',Sj,Sw,Nat.add_sub_cancel];exact hp)
    refine b9 ⟨_,rfl,_,rfl,(1:Int),rfl,S,_,(-1:Int),.ref ty,rfl,rfl,.of l,?_,ty,_,0,_,rfl,rfl,d.gL b6,rfl,_,_,rfl,rfl,_,rfl,?_⟩
    ·rw[e'];exact JJ
    ·rw[Zh (by lia)];exact br (rest _ rfl)
  intro H2 e2;subst e2;refine⟨_,rfl,S,_,rfl,.inl (.of l),_,_,rfl,rfl,_,rfl,?_⟩;rw[Zh (by rw[D];lia)];refine br ?_;have ax:=aV W G;have Rq:=ck.same G;have a4:=G _ _ hg;refine⟨_,rfl,g,dx,_,rfl,a4,rfl,_,rfl,_,rfl,_,rfl,(by show 2<=Zc;decide),λtt u=>?_⟩;obtain⟨_,eq,s2,Z⟩:=fF (.tup [.int m,.str z]) u;rw[eq];refine⟨(by show 1<=Zc;decide),λll b4=>?_⟩;obtain⟨_,eq,O,b1⟩:=fF (.lst [.ref tt]) b4;rw[eq];refine⟨S,ll,_,_,rfl,rfl,.of ((s2.trans O) _ _ l),.of b1,Sl (show a.length+1<=100 by lia) (by decide),λR N=>?_⟩;obtain⟨H5,eq,s4,b2⟩:=fF (.lst (a++[.ref tt])) N;rw[eq];have x:=(s2.trans O).trans s4;have a3:=d.trans x;have PZ:B tt=none:=d.free u;have ai:B R=none:=(d.trans (s2.trans O)).free N;have Y:R≠tt:=λe=>by rw[e,(O _ _ Z)]at N;cases N
  have as:=x _ _ a4;refine⟨_,rfl,g,dx,_,.ref st,rfl,as,rfl,st,a0,_,.ref b0,rfl,a3 _ _ q1,rfl,?_⟩;have U:af B (upd (upd B tt (.tup [.int m,.str z])) R (.lst (a++[.ref tt]))):=(af.new PZ).trans (af.new (by rw[aq Y];exact ai));have bR:(upd (upd B tt (.tup [.int m,.str z])) R (.lst (a++[.ref tt]))) R=some (.lst (a++[.ref tt])):=ab;have bt:(upd (upd B tt (.tup [.int m,.str z])) R (.lst (a++[.ref tt]))) tt=some (.tup [.int m,.str z]):=by rw[aq Y.symm];exact ab
  have bo:∀c,c≠R->c≠tt->(upd (upd B tt (.tup [.int m,.str z])) R (.lst (a++[.ref tt]))) c=B c:=λc n j=>by rw[aq n,aq j]
  generalize upd (upd B tt (.tup [.int m,.str z])) R (.lst (a++[.ref tt]))=B1 at U bR bt bo;have QK:af B1 H5:=λc o e=>by
   by_cases n:c=R
   ·rw[n,bR]at e;cases e;rw[n];exact b2
   by_cases j:c=tt
   ·rw[j,bt]at e;cases e;rw[j];exact(O.trans s4) _ _ Z
   rw[bo c n j]at e;exact a3 _ _ e
  have X:∀{c:Z6}{o:HO},H c=some o->c≠R/\c≠tt:=λ{c o} e=>⟨(λh=>by rw[<-h,(G.trans (s2.trans O)) _ _ e]at N;cases N),λh=>by rw[<-h,G _ _ e]at u;cases u⟩;have ob:∀{c:Z6}{o:HO},H c=some o->B c=none->B1 c=none:=λ{c o} e eb=>by rw[bo c (X e).1 (X e).2];exact eb
  obtain⟨_,mL⟩:=bj W;have b:=G.trans x;have Fh:bO K A.be A.aT B1 H5 g pa tb v:=ck.grow U QK (ob hg a5) (ob I wL) (ob J Be) ((b _ _ hg).trans hg.symm) ((b _ _ I).trans I.symm) ((b _ _ J).trans J.symm);refine⟨B1,g,pa,tb,R,b0,v,a++[.ref tt],b7,v.cur.rs++[(m,z)],v.cur.bs,rfl,Fh,ob mL b5,bR,?_,U _ _ q4,q5.same U,by rw[Sj,Sw];lia,λq hq=>?_,L.bl,L.hnd,b3,aV ax x,λH6 B' ao a6 s6 az qV ag tZ e1 e2 J9=>?_⟩
  ·rw[Sm];exact(q3.same U).append (.cons (.tup (.of bt) (.cons (.int _) (.cons (.str C.1) .nil))) .nil)
  ·rcases Sz.mp hq with hq | hq
   ·exact L.lns q hq
   ·rw[Sg.mp hq];exact⟨ws,M⟩
  ·have Lq:=J9;obtain⟨_,_,_,_,_,_,_,_,_,aw,_⟩:=Lq;have Ij:=U.trans ag;refine⟨_,rfl,S,_,rfl,.inl (.of (aw _ _ (Ij _ _ q2))),?_⟩;rw[D];refine k H6 B' ao a6 (λc o e=>?_) az ?_ Ij (λc o n j h3=>tZ c o (ob j n) (b _ _ j) h3) e1 e2 J9
   ·obtain⟨n,e⟩:=aZ e;obtain⟨j,e⟩:=aZ e;obtain⟨h3,e⟩:=aZ e;exact s6 _ _ (by rw[au n,au j,au h3];exact b _ _ e)
   ·exact b.free qV
theorem rh:aD ["self"] ["self"] (ag (mIn 54 13)):=by refine⟨rfl,rfl,rfl,?_,rfl,?_,?_⟩<;>decide +kernel
theorem eF (T:Tx K mg A):aA P w K mg base CX0 1 A.bZ A.cK ["self"] (cW K A):=by
 refine T.dW.fn.ok rh (λvs H Q E h=>?_) (λ_ _ _ s H vs Q E _ h=>?_)
 ·obtain⟨B,g,pa,tb,v,rfl,_⟩:=h;rfl
 ·obtain⟨B,g,pa,tb,v,rfl,ck,k⟩:=h;obtain⟨dx,t,N,_,_,_,hg,_,_,p,_,_,_,_,_,R,_,y,_,F,_⟩:=ck;obtain⟨z,_,b0,f0,_,_,b,a,_,q1,_,_,q4,q5,q6,q7,_,_⟩:=R;have a7:b.length=v.cur.bs.length:=by rw[q5.length,R8]
  have a6:a.length=v.cur.fs.length:=by rw[q7.length,R8]
  have h1:=F.bl;have h2:=F.gth.lt;refine⟨_,ak (aC (aU (N':=["pattern"]) (n:=1) (fi:=[]) (g:=aN 0) rfl (aY (ag (mIn 54 13)) ["self"] (by decide +kernel)) (aM (bw (r:=vd K) o9 (cw T.bP T.cE (cw T.a8 T.bg (pv 0))) (cw T.bP T.iE (cw T.a8 T.bg (pv 0))))) (λs H fp=>av (i:=0) (show(["pattern"]:List Str).Nodup by decide +kernel) rfl (Or.inl rfl) (.inr rfl)) (λs H fp=>aL) (λs H fp=>ia (r:=oX K) j7 (by rfl) T.nr ku (aa (pv 0) ae)))),?_⟩;refine⟨_,rfl,g,dx,_,.ref N,rfl,hg,rfl,N,z,_,.ref b0,rfl,p _ _ q1,rfl,_,rfl,g,dx,_,.ref N,rfl,hg,rfl,N,z,_,.ref f0,rfl,p _ _ q1,rfl,b0,f0,_,_,rfl,rfl,.of (p _ _ q4),.of (p _ _ q6),Sl (show b.length+a.length<=1000 by lia) (by decide),λC hC=>⟨C,rfl,⟨_,.of ab⟩,?_⟩⟩;have J:af H (upd H C (.lst (b++a))):=af.new hC;have l:(upd H C (.lst (b++a))) C=some (.lst (b++a)):=ab;have M:aE K H (b++a) ((v.cur.bs++v.cur.fs).map bx):=by
   rw[Sm];exact(q5.same p).append (q7.same p)
  have X:(b++a).length<=1000:=by rw[Sj];lia
  have j:(b++a).length=(v.cur.bs++v.cur.fs).length:=by rw[M.length,R8]
  generalize upd H C (.lst (b++a))=H1 at J l ⊢;generalize b++a=xs at l M X j;generalize v.cur.bs++v.cur.fs=pss at M j k;intro D Y;have U:H D=none:=J.free Y;refine aK (K:=K) (xs:=xs) (λi c G m=>(∃u,G=[u])/\af H1 m/\aE K (wo D (lim H m)) c ((pss.take i).map bx)) ab ⟨⟨_,rfl⟩,af.new Y,.nil⟩ (λi c G m _ _ q=>.of (q.2.1 _ _ l)) (λi x c G m hx f q=>?_) (λc G m a4 q=>?_)
  ·obtain⟨q0,O,e⟩:=q;apply dJ q0;clear q0;intro u;obtain⟨_,a3,y⟩:=gF M hx;obtain⟨a1,S,rfl,Z,V⟩:=fc y;have hi:=aG hx;have d:=J.trans O;have a5:c.length<=1000:=by rw[e.length,R8,Sx];lia
   refine cq ⟨_,rfl,a1,S,rfl,.inl (d.seq Z),λL hL=>?_⟩;have I:=af.new (o:=.lst S) hL;have a0:L≠D:=(aw f hL).symm;have W:H L=none:=d.free hL;refine⟨_,I _ _ f,small (by lia),_,ab,⟨_,rfl⟩,ax Y (O.trans I),?_⟩;rw[rD,dO a3];refine(e.same (jF (cZ I))).append (.cons (.lst (xs:=S) (.of (by rw[au a0,g7 W];exact ab)) ?_) .nil);exact(rL d (d.trans I) V).same (GY d f)
  ·obtain⟨_,O,e⟩:=q;rw[j,So (Sb _)]at e;exact k D c m U (J.trans O) a4 (e.same bc)
theorem wU:aD ["self","number"] ["self","number"] (ag (mIn 54 14)):=by refine⟨rfl,rfl,rfl,?_,rfl,?_,?_⟩<;>decide +kernel
theorem xf (T:Tx K mg A):aA P w K mg base CX0 1 A.iZ A.lr ["self","number"] (oZ K A):=by
 refine T.vH.fn.ok wU (λL H Q E h=>?_) (λ_ _ _ s H L Q E _ h=>?_)
 ·obtain⟨B,g,M,S,v,i,U,rfl,_⟩:=h;rfl
 ·obtain⟨B,g,M,S,v,i,U,rfl,I,n,k⟩:=h;obtain⟨J,t,x,_,_,_,z,_,_,c,_,_,_,_,_,l,_,_,_,_,_⟩:=I;obtain⟨j,_,_,_,b,_,_,_,a,N,_,_,_,_,_,_,R,u⟩:=l;have C:a.length=v.cur.os.length:=by rw[u.length,R8]
  have O:=aG n;have m:a[i]? = some a[i]:=R9 (by lia);obtain⟨o,q,y⟩:=wV u m;rw[n]at q;cases q;obtain⟨G,p,F,f,e⟩:=fc y;refine⟨_,ak (aC (ia (r:=oX K) j7 (by rfl) T.nr ku (aa (bi (r:=dQ K) a9 (cw T.bP T.iz (cw T.a8 T.bg (pv 0))) (pv 1) (λ_ _=>rfl)) ae))),?_⟩;refine⟨_,rfl,g,J,_,.ref x,rfl,z,rfl,x,j,_,.ref b,rfl,c _ _ N,rfl,_,rfl,b,_,(i:Int),_,rfl,rfl,.of (c _ _ R),cA m,G,p,by rw[F],.inl (c.seq f),λD d=>?_⟩;exact k D p _ d (af.new d) ab (rL (af.refl H) (af.new d) (e.same c))
theorem yV:aD ["self","sieve"] ["self","sieve"] (ag (mIn 54 0)):=by refine⟨rfl,rfl,rfl,?_,rfl,?_,?_⟩<;>decide +kernel
theorem zR (T:Tx K mg A):aA P w K mg base CX0 23 A.j8 A.nq ["self","sieve"] (qU K A):=by
 have i8:aA P w K mg base CX0 21 _ _ _ _:=(mX T).mono (by decide);refine T.zI.fn.ok yV (λvs H Q E h=>?_) (λ_ _ _ s H vs Q E hr h=>?_)
 ·obtain⟨g,t,y,s0,l0,rfl,_⟩:=h;rfl
 ·obtain⟨g,t,y,s0,l0,rfl,hg,a3,ao,k⟩:=h;obtain⟨_,mL⟩:=bj ao;have bk:g≠A.aB:=λe=>by rw[<-e,hg]at mL;cases mL
  refine⟨_,aj (kI T.a8 T.ki (pv 0) (ia uB (by rfl) T.Ce za (aa (pv 1) ae)))
   (aj (kI T.a8 T.bg (pv 0) (xV T.zk i8 hr (by rfl) T.Cb T.nI.bd .nil ay (aa (cw T.a8 T.ki (pv 0)) (aa (bC ae) (aa (bC ae) ae)))))
   (aj (kI T.a8 T.pq (pv 0) (cw T.a8 T.bg (pv 0)))
   (aj (kI T.a8 T.qI (pv 0) (bC ae))
   (ak (kI T.a8 T.iP (pv 0) (bC ae)))))),?_⟩
  refine⟨_,rfl,t,_,rfl,.inr ⟨a3,_,rfl,g,y,_,rfl,hg,by decide,?_⟩⟩;refine eG ao hg λH1 G f1 aw=>?_;replace G:H1 g=some (.ins A.be y [("sieve",.ref t)]):=G;have b3:af (wo g H) H1:=λc o e=>by
   obtain⟨a,e⟩:=aZ e;rw[f1 c a];exact e
  refine⟨_,rfl,g,y,_,.ref t,rfl,G,rfl,Sy _,λr W=>?_⟩;obtain⟨_,eq,s2,av⟩:=fF (.lst []) W;rw[eq];refine⟨Sy _,λb O=>?_⟩;obtain⟨H3,eq,s3,ar⟩:=fF (.lst []) O;rw[eq];have S:=s2.trans s3;have J:=S _ _ G;intro x a6 hx b9 b6;obtain⟨Hx,eq,U,b2⟩:=AA A.aT hx b9 b6;rw[eq];have sH:af (wo g H) Hx:=(b3.trans S).trans U;have ai:x≠g:=λe=>by rw[e,J]at hx;cases hx
  have n0:∀{c:Z6},H3 c=none->H c=none:=λ{c} e=>by
   cases e2:H c with
   | none=>rfl
   | some o=>
    by_cases a:c=g
    ·rw[a,J]at e;cases e
    ·rw[(b3.trans S) c o (by rw[au a];exact e2)]at e;cases e
  have a4:H x=none:=n0 hx;have bo:H r=none:=by
   have b7:r≠g:=λe=>by rw[e,G]at W;cases W
   rw[<-f1 r b7];exact W
  have bl:H b=none:=by
   have b8:b≠g:=λe=>by rw[e,s2 _ _ G]at O;cases O
   cases e2:H b with
   | none=>rfl
   | some o=>rw[s2 _ _ (show H1 b=some o by rw[f1 b b8];exact e2)]at O;cases O
  refine⟨x,t,r,b,a6,[],[],[],[],s0,l0,rfl,b2,sH.gL (rE hg a3),(s3.trans U) _ _ av,.nil,U _ _ ar,.nil,by decide,(λq D=>by cases D),by decide,(λq D=>by cases D),aV (aV aw S) U,λI f fl fv lv ag ah hf aq s4 ab as bb df Qp dl BX tT=>⟨rfl,?_⟩⟩;have a9:I g=some (.ins A.be y [("sieve",.ref t)]):=s4 _ _ (by rw[au ai.symm,au bk];exact U _ _ J);refine⟨_,rfl,g,y,_,rfl,a9,by simp,?_⟩;refine eG ab a9 λH5 N f5 bh=>?_;replace N:H5 g=some (.ins A.be y [("sieve",.ref t),("state",.ref x)]):=N;refine⟨_,rfl,g,y,_,.ref x,rfl,N,rfl,_,rfl,g,y,_,rfl,N,by simp,?_⟩;refine eG bh N λH6 X f0 bi=>?_;replace X:H6 g=some (.ins A.be y [("sieve",.ref t),("state",.ref x),("ahead",.ref x)]):=X;have f6:∀c,c≠g->H6 c=I c:=λc h=>(f0 c h).trans (f5 c h);refine⟨Sy _,λpa M=>?_⟩;obtain⟨_,eq,s7,bc⟩:=fF (.lst []) M;rw[eq];have b0:=s7 _ _ X;have L:pa≠g:=λe=>by rw[e,X]at M;cases M
  refine⟨_,rfl,g,y,_,rfl,b0,by simp,?_⟩;refine eG (aV bi s7) b0 λH8 Z f8 ba=>?_;replace Z:H8 g=some (.ins A.be y [("sieve",.ref t),("state",.ref x),("ahead",.ref x),("past",.ref pa)]):=Z;refine⟨Sy _,λtb l=>?_⟩;obtain⟨_,eq,s9,b4⟩:=fF (.lst []) l;rw[eq];have b1:=s9 _ _ Z;have F:tb≠g:=λe=>by rw[e,Z]at l;cases l
  have az:H8 pa=some (.lst []):=by rw[f8 pa L];exact bc
  have b5:tb≠pa:=λe=>by rw[e,az]at l;cases l
  refine⟨_,rfl,g,y,_,rfl,b1,by simp,?_⟩;refine eG (aV ba s9) b1 λi Ld a7 Pk=>?_;replace Ld:i g=some (.ins A.be y [("sieve",.ref t),("state",.ref x),("ahead",.ref x),("past",.ref pa),("taken_back",.ref tb)]):=Ld;have g4:∀c o,c≠g->I c=some o->i c=some o:=λc o a e=>by
   rw[a7 c a];refine s9 _ _ ?_;rw[f8 c a];refine s7 _ _ ?_;rw[f6 c a];exact e
  have gx:∀c o,c≠g->c≠x->c≠A.aB->Hx c=some o->i c=some o:=λc o a m u e=>g4 c o a (s4 _ _ (by rw[au m,au u];exact e));have g0:∀c o,c≠g->c≠A.aB->H c=some o->i c=some o:=λc o a u e=>gx c o a (λz=>by rw[z,a4]at e;cases e) u (sH _ _ (by rw[au a];exact e));have z4:∀{c:Z6},c≠g->I c=none->H c=none:=λ{c} a e=>by
   cases e2:H c with
   | none=>rfl
   | some o=>
    by_cases u:c=A.aB
    ·obtain⟨q,D⟩:=bj ab;rw[u,D]at e;cases e
    ·rw[s4 c o (by rw[au (λz=>by rw[z,a4]at e2;cases e2),au u];exact sH _ _ (by rw[au a];exact e2))]at e;cases e
  have Dn:H pa=none:=z4 L (by rw[<-f6 pa L];exact M);have yD:H tb=none:=z4 F (by
   cases e2:I tb with
   | none=>rfl
   | some o=>
    rw[f8 tb F]at l;rw[s7 _ _ (show H6 tb=some o by rw[f6 tb F];exact e2)]at l;cases l)
  have RX:i x=some (.ins A.aT a6 [("rows",.ref r),("by_hand",.ref b),("found",.ref f),("falls",.ref fl)]):=g4 _ _ ai as;have j:∀{c:Z6}{ys:List V},Hx c=some (.lst ys)->c≠g/\c≠x/\c≠A.aB:=λ{c ys} e=>⟨(λz=>by rw[z,U _ _ J]at e;cases e),(λz=>by rw[z,b2]at e;cases e),λz=>by
   obtain⟨q,D⟩:=bj (aV (aV aw S) U);rw[z,D]at e;cases e⟩
  have n:=(s3.trans U) _ _ av;have p:=U _ _ ar;have R5:=gx _ _ (j n).1 (j n).2.1 (j n).2.2 n;have RY:=gx _ _ (j p).1 (j p).2.1 (j p).2.2 p;have Hm:I pa=none:=by rw[<-f6 pa L];exact M
  have xQ:I tb=none:=by
   cases e2:I tb with
   | none=>rfl
   | some o=>
    rw[f8 tb F]at l;rw[s7 _ _ (show H6 tb=some o by rw[f6 tb F];exact e2)]at l;cases l
  have Y:∀{c:Z6}{o:HO},I c=some o->c≠pa/\c≠tb:=λ{c o} e=>⟨(λz=>by rw[z,Hm]at e;cases e),λz=>by rw[z,xQ]at e;cases e⟩;have R:∀{c:Z6}{o:HO},H c=none->c≠g->I c=some o->nxt (λ_=>none) H i g pa tb c=some o:=λ{c o} a m u=>by
   rw[iJ m (Y u).1 (Y u).2 (λ_ z=>by rw[a]at z;cases z) (λ_ _ _ z=>by rw[a]at z;cases z) λ_ z=>by rw[a]at z;cases z];exact g4 _ _ m u
  have bp:I r=some (.lst []):=s4 _ _ (by rw[au (j n).2.1,au (j n).2.2];exact n);have bf:I b=some (.lst []):=s4 _ _ (by rw[au (j p).2.1,au (j p).2.2];exact p);have a0:∀{c:Z6},Hx c=none->H c=none/\c≠g:=λ{c} e=>by
   have a:c≠g:=λz=>by rw[z,U _ _ J]at e;cases e
   refine⟨?_,a⟩;cases e2:H c with
   | none=>rfl
   | some o=>rw[sH c o (by rw[au a];exact e2)]at e;cases e
  have go:∀{v:List V}{ds:List Zb},aE K (lim Hx I) v ds->aE K (nxt (λ_=>none) H i g pa tb) v ds:=λ{v ds} d=>rM d λc o a m _ u h4=>by
   have n1:c≠g:=λe=>by rw[e,a9]at m;cases m;exact u _ _ _ rfl
   have n4:c≠A.aB:=λe=>by
    obtain⟨q,D⟩:=bj ab;rw[e,D]at m;cases m;exact h4 _ rfl
   have a5:=g4 c o n1 m;rw[iJ n1 (Y m).1 (Y m).2 (λys e=>a ys (sH _ _ (by rw[au n1];exact e))) (λC d' fs e=>?_) (λps e=>?_)]
   ·exact a5
   ·have:=g0 _ _ n1 n4 e;rw[a5]at this;cases this;exact u _ _ _ rfl
   ·have:=g0 _ _ n1 n4 e;rw[a5]at this;cases this;exact h4 _ rfl
  have hqB:SqT K (nxt (λ_=>none) H i g pa tb) t [.int s0,.int l0]:=by
   have ap:∀o:HO,(∀ys,o ≠ .lst ys)->(∀C d' fs,o ≠ .ins C d' fs)->(∀ps,o ≠ .tbl ps)->H t=some o->nxt (λ_=>none) H i g pa tb t=some o:=λo a m u e=>by
    have n1:t≠g:=λz=>by rw[z,hg]at e;cases e;exact m _ _ _ rfl
    have n4:t≠A.aB:=λz=>by rw[z,mL]at e;cases e;exact u _ rfl
    rw[iJ n1 (λz=>by rw[z,Dn]at e;cases e) (λz=>by rw[z,yD]at e;cases e) (λys z=>by rw[e]at z;cases z;exact a _ rfl) (λ_ _ _ z=>by rw[e]at z;cases z;exact m _ _ _ rfl) λ_ z=>by rw[e]at z;cases z;exact u _ rfl];exact g0 _ _ n1 n4 e
   rcases a3 with(q | ⟨ob,q⟩) | q
   ·exact .inl (.inl (ap _ (λ_ z=>by cases z) (λ_ _ _ z=>by cases z) (λ_ z=>by cases z) q))
   ·exact .inl (.inr ⟨ob,ap _ (λ_ z=>by cases z) (λ_ _ _ z=>by cases z) (λ_ z=>by cases z) q⟩)
   ·exact .inr q
  have kP:=rK (B:=λ_=>none) (H:=H) (H':=i) (g:=g) (pa:=pa) (tb:=tb);have NA:DW K A.aT (nxt (λ_=>none) H i g pa tb) x ⟨[],[],ag,ah⟩:=⟨a6,r,b,f,fl,[],[],fv,lv,R a4 ai as,R bo (j n).1 bp,.nil,R bl (j p).1 bf,.nil,R (a0 hf).1 (a0 hf).2 bb,go df,R (a0 aq).1 (a0 aq).2 Qp,go dl⟩;have ax:StV.Ok ⟨[],[],ag,ah⟩ s0 l0:=⟨BX,tT,(λq D=>by cases D),(λq D=>by cases D),by show 0<64;decide,by show 0<64;decide⟩;refine k i (nxt (λ_=>none) H i g pa tb) pa tb ⟨[],[],ag,ah⟩ (λc o e=>?_) Pk Dn yD (λc o a m=>xM rfl a m) rfl rfl ⟨y,t,x,x,[],[],Ld,by rw[a7 pa L];exact s9 _ _ az,by rw[a7 tb F];exact b4,A4 (λc o e=>by cases e),kP.1,kP.2.1,kP.2.2,b5.symm,hqB,NA,NA,.nil,.nil,ax,ax⟩;obtain⟨a,e⟩:=aZ e;obtain⟨m,e⟩:=aZ e;exact g0 c o a m e
def sm (K:Vz) (A:Ad):Sp:=λvs H Q _=>∃(B:Hp) (g pa tb:Z6) (v:km) (x:V) (ps:List Pt),vs=[.ref g,x]/\bO K A.be A.aT B H g pa tb v/\B A.aB=none/\Den K H x (bx ps)/\PW ps/\ps≠[]/\ps.length<=12/\ps∉v.cur.bs/\v.cur.bs.length<12/\v.past.length<=100000/\cY A.aB H /\
 ∀(H' B':Hp) (tb':Z6) (cur:StV),af (wo g (wo pa (wo A.aB H))) H'->cY A.aB H'->H tb' = none->af B B'->(∀c o,B c=none->H c=some o->sJ o->B' c=none)->cur.rs=v.cur.rs->cur.bs.Perm (v.cur.bs++[ps])->zf cur.bs->bO K A.be A.aT B' H' g pa tb' ⟨v.s,v.l,cur,v.cur,v.past++[(v.cur.rs,v.cur.bs)],[]⟩->Q .non H'
theorem AF:aD ["thing"] ["thing"] (ag (top 22)):=by refine⟨rfl,rfl,rfl,?_,rfl,?_,?_⟩<;>decide +kernel
theorem Bk (T:Tx K mg A):aA P w K mg base CX0 3 A.p8 A.p7 ["thing"] (uc K):=by
 have e:aA P w K mg base CX0 2 _ _ _ _:=(nz T).mono (by decide);refine T.rF.fn.ok AF (λg H Q E h=>?_) (λ_ _ _ s H g Q E j h=>?_)
 ·obtain⟨v,p,rfl,_⟩:=h;rfl
 ·obtain⟨v,p,rfl,d,c,k⟩:=h;obtain⟨t,x,y,rfl,a,_,_,b⟩:=qg d;refine⟨_,aj (bB ((pw_or (ip (cU (aH (r:=Fp K) vI (by rfl) T.g5 gc (aa (pv 0) (aa (rO (v:=.ty "tuple") (by rfl) T.Ce za rfl) ae))))) (pw_or1 (aP m5 (aH (r:=d4 K) bh (by rfl) T.dv Yb (aa (pv 0) ae)) ap (aQ _)))).pt) (ak (aC kF)) aO)
   (aj (bB (aP iS (bi (r:=m8 K) fA (pv 0) ap (λ_ _=>rfl)) aJ (aQ _)) (ak (aC (ar e j (by rfl) T.gh.mg T.gh.fn.kp T.gh.bd .nil ay (aa (bi (r:=m8 K) fA (pv 0) ap (λ_ _=>rfl)) ae)))) aO)
   (ak (aC (nR (cQ iS (bi (r:=m8 K) fA (pv 0) ap (λ_ _=>rfl)) aJ (aQ _)) (kY (cQ (r:=rIn K false) vV (bi (r:=m8 K) fA (pv 0) ap (λ_ _=>rfl)) (gp (v:=.ref A.bV) (by rfl) T.kg rfl) (by rfl))))))),?_⟩
  refine⟨_,rfl,t,_,.inl ⟨rfl,a⟩,_,rfl,br ?_⟩;refine⟨_,rfl,t,_,rfl,.inr a,rfl,_,rfl,br ?_⟩;refine⟨_,rfl,t,_,0,_,rfl,rfl,a,rfl,rfl,_,rfl,?_⟩;cases p with
  | word _=>
   obtain⟨rfl,rfl⟩:=b;rw[Zg rfl];exact b9 ⟨_,rfl,t,_,1,_,rfl,rfl,a,rfl,_,rfl,(show TOk _ from c).1,k⟩
  | hole m=>
   obtain⟨rfl,rfl⟩:=b;refine br ⟨_,rfl,t,_,0,_,rfl,rfl,a,rfl,rfl,_,rfl,?_⟩;rw[Zg rfl];refine b9 ⟨_,rfl,t,_,1,_,rfl,rfl,a,rfl,A.bV,_,rfl,.inr (T.jR _),rfl,rfl,?_⟩;have f:∀i<3,(inV (.str (cx i)) [.str "number",.str "name",.str "any"])=true:=by decide +kernel
   rw[Zk Ss,f m c];exact k
theorem uO:aD ["thing"] ["thing"] (ag (top 23)):=by refine⟨rfl,rfl,rfl,?_,rfl,?_,?_⟩<;>decide +kernel
theorem uK (T:Tx K mg A):aA P w K mg base CX0 4 A.jK A.jI ["thing"] (m6 K):=by
 have G:aA P w K mg base CX0 3 _ _ _ _:=(Bk T).mono (by decide);refine T.jG.fn.ok uO (λI H Q E h=>?_) (λ_ _ _ s H I Q E J h=>?_)
 ·obtain⟨v,ps,rfl,_⟩:=h;rfl
 ·obtain⟨v,ps,rfl,B,o,_,_,C,k⟩:=h;obtain⟨a,xs,rfl,l,e⟩:=fc B;have F:xs.length=ps.length:=by rw[e.length,R8]
  refine⟨_,aj (bB (ip (cU (aH (r:=Fp K) vI (by rfl) T.g5 gc (aa (pv 0) (aa (rO (v:=.ty "list") (by rfl) T.nr ku rfl) ae))))) (ak (aC kF)) aO)
   (ak (aC (nR (Ax sX sX ap (aH (r:=d4 K) bh (by rfl) T.dv Yb (aa (pv 0) ae)) (gp (v:=.int 12) (by rfl) (YI T.xb) ⟨_,rfl⟩)) (kY (aH (r:=EH K) (lB rfl) (by rfl) T.Am uo (aa (aU (N':=["part"]) (n:=1) (fi:=[]) (g:=aN 0) rfl (aY (ag (top 23)) ["thing"] (by decide +kernel)) (aM (pv 0)) (λs H z=>av (i:=0) (show(["part"]:List Str).Nodup by decide +kernel) rfl (Or.inl rfl) (.inr rfl)) (λs H z=>aL) (λs H z=>ar G J (by rfl) T.rF.mg T.rF.fn.kp T.rF.bd .nil ay (aa (pv 0) ae))) ae)))))),?_⟩
  refine⟨_,rfl,a,xs,.inr ⟨rfl,l⟩,_,rfl,br ?_⟩;refine⟨_,rfl,a,xs,rfl,.inl l,_,_,rfl,rfl,_,rfl,?_⟩;rw[Zg (show(1:Int)<=(xs.length:Int)by lia)];refine b9 ⟨_,_,rfl,rfl,_,rfl,?_⟩;rw[Zg (show(xs.length:Int)<=12 by lia)];refine b9 ⟨_,rfl,a,rfl,⟨_,l⟩,λD t=>?_⟩;refine aK (K:=K) (xs:=xs) (λi b j d=>(∃u,j=[u])/\af H d/\b=(List.replicate i true).map V.bl) ab ⟨⟨_,rfl⟩,af.new t,rfl⟩ (λi b j d _ _ p=>p.2.1.seq l) (λi x b j d y c p=>?_) (λb j d c p=>?_)
  ·obtain⟨⟨u,rfl⟩,f,rfl⟩:=p;have M:=aG y;obtain⟨p,L,m⟩:=jW e y;have q:=Sd L;refine cq ⟨_,rfl,x,p,rfl,m.same f,o p q,_,c,small (by rw[R8,Us];lia),_,ab,⟨_,rfl⟩,ax t f,?_⟩;rw[C p q,List.replicate_succ',Sm];rfl
  ·obtain⟨_,f,rfl⟩:=p;refine⟨D,_,rfl,.of c,?_⟩;rw[CF];exact k d f
theorem rQ:aD ["self","pattern","by_hand"] ["self","pattern"] (ag (mIn 54 8)):=by refine⟨rfl,rfl,rfl,?_,rfl,?_,?_⟩<;>decide +kernel
theorem AO (T:Tx K mg A):aA P w K mg base CX0 25 A.mh A.qf ["self","pattern"] (sm K A):=by
 have jd:aA P w K mg base CX0 24 _ _ _ _:=(lF T).mono (by decide);have jz:aA P w K mg base CX0 24 _ _ _ _:=(nA T).mono (by decide);have yj:aA P w K mg base CX0 24 _ _ _ _:=(uK T).mono (by decide);refine T.Cc.fn.ok rQ (λvs H Q E h=>?_) (λ_ _ _ s H vs Q E hr h=>?_)
 ·obtain⟨B,g,pa,tb,v,x,ps,rfl,_⟩:=h;rfl
 ·obtain⟨B,g,pa,tb,v,x,ps,rfl,ck,av,bN,L,a3,K7,PN,_,as,U,k⟩:=h;have Fj:=ck;obtain⟨dx,t,st,_,_,_,N,n,u,X,a6,wL,Be,_,_,ab,_,_,_,y,_⟩:=Fj;obtain⟨W,r0,b0,_,_,aw,C,_,_,q1,q2,q3,q4,q5,_,_,_,_⟩:=ab;have ap:C.length=v.cur.bs.length:=by rw[q5.length,R8]
  have Z:∀p∈ps,p.ok:=λp I=>(L p I).okP.1;have PR:∀q∈v.cur.bs,∀p∈q,p.ok:=λq d p I=>((y.hnd q d).1 p I).okP.1;have OH:1<=ps.length:=by
   cases ps with
   | nil=>exact(a3 rfl).elim
   | cons _ _=>simp
  refine⟨_,aj (bf (i:=2) rQ.nd rfl (Or.inl rfl) (cw T.bP T.cE (cw T.a8 T.bg (pv 0))))
   (aj (bB ((pw_or (ip (cU (ar yj hr (by rfl) T.jG.mg T.jG.fn.kp T.jG.bd .nil ay (aa (pv 1) ae)))) (pw_or1 (aP (r:=G3 K false) (Kv hr) (pv 1) (pv 2) (by rfl)))).pt) (ak e7) aO)
   (aj (bB (aP Cz (aH (r:=d4 K) bh (by rfl) T.dv Yb (aa (pv 2) ae)) (gp (v:=.int 12) (by rfl) (YI T.si) ⟨_,rfl⟩) (aQ _)) (ak e7) aO)
   (ak (cm (fk (pv 0) T.a8 T.lT jd hr T.l3.bd .nil ay (aa (cw T.bP T.eu (cw T.a8 T.bg (pv 0))) (aa (ar jz hr (by rfl) T.ordered.mg T.ordered.fn.kp T.ordered.bd .nil ay (aa (bw (r:=vd K) o9 (pv 2) (bC (aa (pv 1) ae))) ae)) ae))))))),?_⟩
  refine⟨_,rfl,g,dx,_,.ref st,rfl,N,rfl,st,W,_,.ref b0,rfl,X _ _ q1,rfl,?_⟩;refine⟨_,rfl,x,ps,rfl,bN,Z,OH,K7,λp I=>(L p I).okP.2,λ_ s1=>⟨_,rfl,br ?_⟩⟩;have f:=X.trans s1;refine⟨_,rfl,_,rfl,_,_,.lst (.of (f _ _ q4)) (q5.same f),bN.same s1,?_,_,rfl,?_⟩
  ·exact Sl (iG _) (by decide)
  rw[Zk Ss,xW PR Z,Zh PN];refine br ?_;refine⟨_,rfl,b0,_,rfl,.inl (.of (f _ _ q4)),_,_,rfl,rfl,_,rfl,?_⟩;rw[Zh (by rw[ap];lia)];refine br ?_;have a0:=s1 _ _ N;refine⟨_,rfl,g,dx,_,rfl,a0,rfl,_,rfl,g,dx,_,.ref st,rfl,a0,rfl,st,W,_,.ref r0,rfl,f _ _ q1,rfl,?_⟩;refine⟨_,rfl,_,rfl,(by show 1<=Zc;decide),λll J=>?_⟩;obtain⟨_,eq,s2,a9⟩:=fF (.lst [x]) J;rw[eq];refine⟨b0,ll,_,_,rfl,rfl,.of ((f.trans s2) _ _ q4),.of a9,Sl (show C.length+1<=100 by lia) (by decide),λR hR=>?_⟩;obtain⟨H3,eq,s3,aq⟩:=fF (.lst (C++[x])) hR;rw[eq];have m:=s1.trans (s2.trans s3);have G:pQ (v.cur.bs++[ps]):=λq d=>by
   rcases Sz.mp d with d | d
   ·exact y.hnd q d
   ·rw[Sg.mp d];exact⟨L,a3,K7⟩
  have d3:aE K H3 (C++[x]) ((v.cur.bs++[ps]).map bx):=by
   rw[Sm];exact(q5.same (X.trans m)).append (.cons (bN.same m) .nil)
  refine⟨R,_,_,rfl,.of aq,by rw[Sj,Sw];lia,d3,λq d=>⟨Sl (G q d).2.2 (by decide),λp I=>((G q d).1 p I).okP.1⟩,λD Y H4 l hD s4 a5 bq ai _ _ dn=>?_⟩;have b:=m.trans s4;obtain⟨_,mL⟩:=bj U;have a4:∀c o,B c=some o->H4 c=some o:=λc o e=>b _ _ (X _ _ e);have j:=Ab (H':=H4) X a6 wL Be a4;have kP:=rK (B:=B) (H:=H) (H':=H4) (g:=g) (pa:=pa) (tb:=tb);have S:af (nxt B H H4 g pa tb) H4:=A4 a4;have a:H D=none:=m.free hD;have dB:=Ey (B:=B) m s4 N n u dn;have bD:nxt B H H4 g pa tb D=some (.lst Y):=by
   rw[iJ (λz=>by rw[z,N]at a;cases a) (λz=>by rw[z,n]at a;cases a) (λz=>by rw[z,u]at a;cases a) (λ_ z=>by rw[a]at z;cases z) (λ_ _ _ z=>by rw[a]at z;cases z) λ_ z=>by rw[a]at z;cases z];exact a5
  have F:∀c o,B c=none->H c=some o->sJ o->nxt B H H4 g pa tb c=none:=λc o V O M=>xM V O M;generalize nxt B H H4 g pa tb=B1 at j kP S dB bD F;have J:=bq.length_eq;rw[Sj,Sw]at J;have JV:pQ l:=λq d=>G q (bq.mem_iff.mp d);refine⟨B1,g,pa,tb,r0,D,v,aw,Y,v.cur.rs,l,rfl,ck.grow j S kP.1 kP.2.1 kP.2.2 ((b _ _ N).trans N.symm) ((b _ _ n).trans n.symm) ((b _ _ u).trans u.symm),F _ _ av mL (.inr (.inr ⟨_,rfl⟩)),j _ _ q2,q3.same j,bD,dB,y.rl,y.lns,by lia,JV,as,aV U b,λH5 B' ag a7 s5 ao qV Ij tZ e1 e2 Fh=>?_⟩;refine k H5 B' ag a7 (λc o e=>?_) ao (b.free qV) (j.trans Ij) (λc o V O M=>tZ c o (F c o V O M) (b _ _ O) M) e1 (by rw[e2];exact bq) (by rw[e2];exact ai) Fh;obtain⟨V,e⟩:=aZ e;obtain⟨O,e⟩:=aZ e;obtain⟨M,e⟩:=aZ e;exact s5 _ _ (by rw[au V,au O,au M];exact b _ _ e)
theorem xB:aD ["cell","turn"] ["cell","turn"] (ag (top 56)):=by refine⟨rfl,rfl,rfl,?_,rfl,?_,?_⟩<;>decide +kernel
theorem xT (T:Tx K mg A):aA P w K mg base CX0 1 A.k4 A.lU ["cell","turn"] (mV K):=by
 refine T.fU.fn.ok xB (λf H Q E h=>?_) (λ_ _ _ s H f Q E _ h=>?_)
 ·obtain⟨c,m,rfl,_⟩:=h;rfl
 ·obtain⟨c,m,rfl,_,k⟩:=h;refine⟨_,aj (bB (aP Cz (pv 0) (bw kZ ap ap) (aQ _)) (ak (aC (bC (aa (bw yd (pv 0) (bw kZ ap ap)) (aa (bw qe (pv 0) ap) (aa (pv 1) ae)))))) aO)
   (ak (aC (bC (aa ap (aa (bw qe (pv 0) ap) (aa (pv 1) ae)))))),?_⟩
  refine⟨_,rfl,_,_,rfl,rfl,⟨by decide,by decide,by decide⟩,_,_,rfl,rfl,_,rfl,?_⟩;refine yb (λb=>?_) (λb=>?_)
  ·refine⟨_,rfl,_,_,rfl,rfl,⟨by decide,by decide,by decide⟩,_,_,rfl,rfl,_,rfl,_,_,rfl,rfl,(by show(0:Int)<2147483579;decide),_,rfl,(by show 3<=Zc;decide),λd a=>?_⟩;have e:(10:Int) ^ (18:Int).toNat<=c:=Zi b;exact k d _ a (af.new a) ⟨_,_,_,ab,by lia,Ul _ (by decide),T4 _ (by decide),Int.natCast_nonneg _,UM _⟩
  ·refine⟨_,rfl,_,_,rfl,rfl,(by show(0:Int)<2147483579;decide),_,rfl,(by show 3<=Zc;decide),λd a=>?_⟩;exact k d _ a (af.new a) ⟨_,_,_,ab,by decide,Ul _ (by decide),T4 _ (by decide),Int.natCast_nonneg _,UM _⟩
theorem g8:aD ["deck","many","found","number"] ["deck","many"] (ag (top 57)):=by refine⟨rfl,rfl,rfl,?_,rfl,?_,?_⟩<;>decide +kernel
theorem dH (T:Tx K mg A):aA P w K mg base CX0 1 A.cN A.cM ["deck","many"] (cT K):=by
 refine T.ao.fn.ok g8 (λv H Q E h=>?_) (λ_ _ _ s H v Q E _ h=>?_)
 ·obtain⟨d,m,n,rfl,_⟩:=h;rfl
 ·obtain⟨d,m,n,rfl,o,_,e,_,k⟩:=h;refine⟨_,aj (bB (aP J8 (bi (r:=dQ K) a9 (pv 0) ap (λ_ _=>rfl)) ap (aQ _)) (aj (bf (i:=2) g8.nd rfl (Or.inl rfl) (bw qe (bi (r:=dQ K) a9 (pv 0) ap (λ_ _=>rfl)) (pv 1)))
   (aj (nv (bw Ca (bi (r:=dQ K) a9 (pv 0) ap (λ_ _=>rfl)) (pv 1)) (BU (pv 0) ap set_list))
   (ak (aC (pv 2))))) aO)
   (aj (nv (bw ed (bi (r:=dQ K) a9 (pv 0) ap (λ_ _=>rfl)) ap) (BU (pv 0) ap set_list))
   (aj (bf (i:=3) g8.nd rfl (Or.inl rfl) (bw qe (bw kZ (bw ed (bi (r:=dQ K) a9 (pv 0) ap (λ_ _=>rfl)) (bw Bp ap (bi (r:=dQ K) a9 (pv 0) ap (λ_ _=>rfl)))) ap) ap))
   (aj (bf (i:=2) g8.nd rfl (Or.inl rfl) (bw Ca (bw qe (bw kZ (bw ed (pv 3) (bw Bp ap (bi (r:=dQ K) a9 (pv 0) ap (λ_ _=>rfl)))) ap) ap) ap))
   (aj (bB (aP J8 (pv 1) ap (aQ _)) (ak e7) aO)
   (ak (aC (bw qe (pv 2) (pv 1)))))))),?_⟩
  obtain⟨a,b,c,l,q,p,g,u,_⟩:=o;have j:SqL K H d [.int a,.int b,.int c]:=.of l;refine⟨_,rfl,d,_,0,_,rfl,rfl,j,rfl,_,_,rfl,rfl,_,rfl,?_⟩;refine yb (λt=>?_) (λt=>?_)
  ·refine⟨_,rfl,d,_,0,_,rfl,rfl,j,rfl,_,rfl,_,_,rfl,rfl,e,?_⟩;refine⟨_,rfl,d,_,0,_,rfl,rfl,j,rfl,_,rfl,_,_,rfl,rfl,⟨e,by lia⟩,?_⟩;refine⟨_,rfl,d,_,0,0,rfl,rfl,l,rfl,?_⟩;refine⟨_,rfl,?_⟩;exact k _ _ As ⟨_,_,_,ab,Int.ediv_nonneg q (by lia),p,g,u,by lia⟩ (Ul _ (by lia)) (T4 _ e)
  ·refine⟨_,rfl,d,_,2,_,rfl,rfl,j,rfl,_,_,rfl,rfl,?_⟩;refine⟨_,rfl,d,_,2,2,rfl,rfl,l,rfl,?_⟩;have f:SqL K (upd H d (.lst [.int a,.int b,.int (c+1)])) d [.int a,.int b,.int (c+1)]:=.of ab;refine⟨_,rfl,d,_,1,_,rfl,rfl,f,rfl,_,rfl,d,_,2,_,rfl,rfl,f,rfl,_,_,rfl,rfl,.inl ⟨by decide,by decide⟩,_,_,rfl,rfl,_,_,rfl,rfl,⟨by decide,by decide,by lia⟩,_,_,rfl,rfl,(by show(0:Int)<2147483647;decide),?_⟩;refine⟨_,rfl,_,rfl,d,_,2,_,rfl,rfl,f,rfl,_,_,rfl,rfl,.inl ⟨by decide,by decide⟩,_,_,rfl,rfl,_,_,rfl,rfl,⟨by decide,by decide,?_⟩,_,_,rfl,rfl,(by show(0:Int)<2147483629;decide),_,_,rfl,rfl,⟨by decide,by decide⟩,?_⟩
   ·have y:=Ul ((b+15485867 * (c+1)) ^ (5:Int).toNat) (show(2147483647:Int)≠0 by decide);have x:=T4 ((b+15485867 * (c+1)) ^ (5:Int).toNat) (show(0:Int)<2147483647 by decide);lia
   ·refine⟨_,rfl,_,_,rfl,rfl,_,rfl,?_⟩;rw[Zh (show¬ (1000000:Int)<m by lia)];refine br ?_;refine⟨_,rfl,_,rfl,_,_,rfl,rfl,e,?_⟩;exact k _ _ As ⟨_,_,_,ab,q,p,g,by lia,by lia⟩ (Ul _ (by lia)) (T4 _ e)
theorem oE:aD ["word","figures"] ["word"] (ag (top 58)):=by refine⟨rfl,rfl,rfl,?_,rfl,?_,?_⟩<;>decide +kernel
theorem xP (T:Tx K mg A):aA P w K mg base CX0 1 A.lC A.lR ["word"] (oQ K):=by
 refine T.mf.fn.ok oE (λW H Q E h=>?_) (λ_ _ _ s H W Q E O h=>?_)
 ·obtain⟨z,rfl,_⟩:=h;rfl
 ·obtain⟨z,rfl,t,k⟩:=h;refine⟨_,aj (bf (i:=1) oE.nd rfl (Or.inl rfl) (l7 (aP iS (oO Gn (pv 0) yl (o5 ap)) aJ (aQ _)) (oO Gn (pv 0) (o5 ap) yl) (pv 0)))
   (aj (bB ((pw_and (aP m5 (pv 1) aJ (aQ _)) (pw_and1 (aP (r:=ye K) (pW O) (aU (N':=["sign"]) (n:=1) (fi:=[]) (g:=aN 0) rfl (aY (ag (top 58)) ["word","figures"] (by decide +kernel)) (GS (pv 1)) (λs H v=>av (i:=0) (show(["sign"]:List Str).Nodup by decide +kernel) rfl (Or.inl rfl) (.inr rfl)) (λs H v=>eC (ip (oJ mn mn aJ (pv 0) aJ))) (λs H v=>pv 0)) (bC ae) (aQ _)))).pt) (ak (aC aJ)) aO)
   (ak (aC (l7 (aP (r:=ye K) (pW O) (aU (N':=["sign"]) (n:=1) (fi:=[]) (g:=aN 0) rfl (aY (ag (top 58)) ["word","figures"] (by decide +kernel)) (GS (pv 0)) (λs H v=>av (i:=0) (show(["sign"]:List Str).Nodup by decide +kernel) rfl (Or.inl rfl) (.inr rfl)) (λs H v=>eC (ip (oJ mn mn aJ (pv 0) aJ))) (λs H v=>pv 0)) (bC ae) (aQ _)) aJ aJ)))),?_⟩
  have M:z.length<=Zc:=Sl t.1 (by decide);have J:=G2 (z:=z) (l:=some 1) (u:=none) t.2;have N:("0" : Str)=⟨#[48]⟩:=by decide +kernel
  have I:("9" : Str)=⟨#[57]⟩:=by decide +kernel
  have U:("a" : Str)=⟨#[97]⟩:=by decide +kernel
  have cz:("z" : Str)=⟨#[122]⟩:=by decide +kernel
  have X:eh z.cps.toList=if dZ dig (bE z.cps.toList)=true then 0 else if z.cps.toList.all low=true then 1 else 2:=rfl;rw[X]at k;refine⟨_,rfl,_,rfl,z,rfl,M,rfl,_,rfl,?_⟩;rw[Du];have Y:∃f:Str,f.cps.toList=bE z.cps.toList/\Y1 f=true/\f.length<=10000/\(f=if z.cps.toList.head? = some 45 then YN z (some 1) none else z):=by
   by_cases m:z.cps.toList.head? = some 45
   ·exact⟨_,by rw[Zj m,BM];exact yK m,by rw[Zj m];exact J.1,by rw[Zj m];exact Sl J.2 t.1,rfl⟩
   ·exact⟨_,by rw[Zk m];exact BP m,by rw[Zk m];exact t.2,by rw[Zk m];exact t.1,rfl⟩
  obtain⟨f,B,G,L,C⟩:=Y;have d:∀H2,af H H2->dZ dig (bE z.cps.toList)=false->N8 (tIf (vS (tOp (ye K) (Av (LZ (qX 0)) (aN 0) (KD (vS (xg (λx y H Q=>∃i j,x = .str i/\y = .str j/\Q (.bl (!decide (j.cps.toList<i.cps.toList))) H) (λx y H Q=>∃i j,x = .str i/\y = .str j/\Q (.bl (!decide (j.cps.toList<i.cps.toList))) H) (tC (.str "a")) (qX 0) (tC (.str "z"))))) (qX 0) 1 []) (LR IQ))) (tC (.str "name")) (tC (.str "other"))) { nx:=λ_ S=>Q .non S,rt:=Q } [some (.str z),some (.str f)] H2:=λH2 q F=>by
   refine pR (λc=>!(decide (97<=c) && decide (c<=122))) rfl t.2 (Sl t.1 (by decide)) (λc H2 R h=>kD U cz h) λV Z=>?_;have e:(z.cps.toList.all λc=>!(!(decide (97<=c) && decide (c<=122))))=z.cps.toList.all low:=by
    congr 1
    funext c
    simp[low]
   rw[e];have o:=k V (q.trans Z);rw[F,Zk Ss]at o;by_cases b:z.cps.toList.all low=true
   ·rw[Zj b]at o;rw[b];exact b9 o
   ·rw[Zk b]at o;rw[SI.mpr b];exact br o
  by_cases m:z.cps.toList.head? = some 45
  ·rw[Zg m];rw[Zj m]at C;subst C;refine b9 ⟨_,rfl,_,rfl,z,rfl,M,?_⟩;refine⟨_,rfl,rfl,_,rfl,?_⟩;rw[px,B];by_cases p:(bE z.cps.toList).isEmpty=true
   ·rw[p];refine br ?_;refine br ?_;exact d H (af.refl _) (by unfold dZ;rw[p];rfl)
   ·rw[SI.mpr p];refine b9 ?_;refine pR (λc=>!(decide (48<=c) && decide (c<=57))) rfl G (Sl L (by decide)) (λc H2 R h=>kD N I h) λH2 q=>?_;have e:((YN z (some 1) none).cps.toList.all λc=>!(!(decide (48<=c) && decide (c<=57))))=(bE z.cps.toList).all dig:=by
     rw[B]
     congr 1
     funext c
     simp[dig]
    rw[e];by_cases b:(bE z.cps.toList).all dig=true
    ·rw[b];refine b9 ?_;have D:dZ dig (bE z.cps.toList)=true:=by unfold dZ;rw[SI.mpr p,b];rfl
     have o:=k H2 q;rw[D,Zj rfl]at o;exact o
    ·rw[SI.mpr b];refine br ?_;exact d H2 q (by unfold dZ;rw[SI.mpr b,Ur])
  ·rw[Zh m];rw[Zk m]at C;subst C;refine br ⟨_,rfl,?_⟩;refine⟨_,rfl,rfl,_,rfl,?_⟩;rw[px,B];by_cases p:(bE f.cps.toList).isEmpty=true
   ·rw[p];refine br ?_;refine br ?_;exact d H (af.refl _) (by unfold dZ;rw[p];rfl)
   ·rw[SI.mpr p];refine b9 ?_;refine pR (λc=>!(decide (48<=c) && decide (c<=57))) rfl G (Sl L (by decide)) (λc H2 R h=>kD N I h) λH2 q=>?_;have e:(f.cps.toList.all λc=>!(!(decide (48<=c) && decide (c<=57))))=(bE f.cps.toList).all dig:=by
     rw[<-B]
     congr 1
     funext c
     simp[dig]
    rw[e];by_cases b:(bE f.cps.toList).all dig=true
    ·rw[b];refine b9 ?_;have D:dZ dig (bE f.cps.toList)=true:=by unfold dZ;rw[SI.mpr p,b];rfl
     have o:=k H2 q;rw[D,Zj rfl]at o;exact o
    ·rw[SI.mpr b];refine br ?_;exact d H2 q (by unfold dZ;rw[SI.mpr b,Ur])
theorem kj:aD ["deck","way","some"] ["deck"] (ag (top 59)):=by refine⟨rfl,rfl,rfl,?_,rfl,?_,?_⟩<;>decide +kernel
theorem n6 (T:Tx K mg A):aA P w K mg base CX0 2 A.iQ A.iM ["deck"] (jN K):=by
 have O:aA P w K mg base CX0 1 _ _ _ _:=(dH T).mono (by decide);refine T.fQ.fn.ok kj (λvs H Q E h=>?_) (λ_ _ _ s H vs Q E R h=>?_)
 ·obtain⟨d,n,rfl,_⟩:=h;rfl
 ·obtain⟨d,n,rfl,a3,_,k⟩:=h;refine⟨_,aj (bf (i:=1) kj.nd rfl (Or.inl rfl) (ar O R (by rfl) T.ao.mg T.ao.fn.kp T.ao.bd .nil ay (aa (pv 0) (aa ap ae))))
   (aj (bB (aP mW (pv 1) ap (aQ _)) (ak (aC (bi (r:=dQ K) a9 (bC (aa aJ (aa aJ (aa aJ ae)))) (ar O R (by rfl) T.ao.mg T.ao.fn.kp T.ao.bd .nil ay (aa (pv 0) (aa ap ae))) (λ_ _=>rfl)))) aO)
   (aj (bB (aP mW (pv 1) ap (aQ _)) (ak (aC (bi (r:=dQ K) a9 (bC (aa aJ (aa aJ (aa aJ (aa aJ (aa aJ ae)))))) (ar O R (by rfl) T.ao.mg T.ao.fn.kp T.ao.bd .nil ay (aa (pv 0) (aa ap ae))) (λ_ _=>rfl)))) aO)
   (aj (bB (aP mW (pv 1) ap (aQ _)) (ak (aC (bi (r:=dQ K) a9 (bC (aa aJ (aa aJ (aa aJ (aa aJ (aa aJ (aa aJ (aa aJ (aa aJ ae))))))))) (ar O R (by rfl) T.ao.mg T.ao.fn.kp T.ao.bd .nil ay (aa (pv 0) (aa ap ae))) (λ_ _=>rfl)))) aO)
   (aj (bf (i:=2) kj.nd rfl (Or.inr rfl) (bi (r:=dQ K) a9 (bC (aa aJ (aa aJ (aa aJ (aa aJ ae))))) (bw yd (pv 1) ap) (λ_ _=>rfl)))
   (ak (aC (ee (r:=rJoin K) Yw PySem.F.slot_str_join PySem.F.type_str_join xG aJ (aa (aU (N':=["k","some","deck"]) (n:=1) (fi:=[2,0]) (g:=aN 0) rfl (aY (ag (top 59)) ["deck","way","some"] (by decide +kernel)) (dN (by rfl) T.g6 (aa (bw ed ap (ar O R (by rfl) T.ao.mg T.ao.fn.kp T.ao.bd .nil ay (aa (pv 0) (aa ap ae)))) ae)) (λs H fp=>av (i:=0) (show(["k","some","deck"]:List Str).Nodup by decide +kernel) rfl (Or.inl rfl) (.inr rfl)) (λs H fp=>aL) (λs H fp=>bi K4 (pv 1) (ar O R (by rfl) T.ao.mg T.ao.fn.kp T.ao.bd .nil ay (aa (pv 2) (aa (aH o4 (by rfl) T.dv Yb (aa (pv 1) ae)) ae))) (λ_ _=>rfl))) ae)))))))),?_⟩
  refine⟨_,rfl,d,12,n,rfl,a3,by lia,by decide,by decide,λway H1 Y b _ _=>?_⟩;refine⟨_,rfl,_,_,rfl,rfl,_,rfl,?_⟩;refine yb (λ_=>?_) (λ_=>?_)
  ·refine⟨(by show 3<=Zc;decide),λp e=>⟨_,rfl,d,3,n+1,rfl,b.same (af.new e),by lia,by decide,by decide,λr t o a N S=>?_⟩⟩;obtain⟨x,I,J⟩:=pf (l:=xp) N S;have m:t p=some (.lst (xp.map V.str)):=cf o ab (b.ne e);have f:=w1 x I;exact⟨p,_,r,_,rfl,rfl,.of m,J,k x t (bG (Y.trans (af.new e)) o) (a.mono (by lia)) ⟨f.1,f.2.1,f.2.2⟩⟩
  ·refine⟨_,rfl,_,_,rfl,rfl,_,rfl,?_⟩;refine yb (λ_=>?_) (λ_=>?_)
   ·refine⟨(by show 5<=Zc;decide),λp e=>⟨_,rfl,d,5,n+1,rfl,b.same (af.new e),by lia,by decide,by decide,λr t o a N S=>?_⟩⟩;obtain⟨x,I,J⟩:=pf (l:=wX) N S;have m:t p=some (.lst (wX.map V.str)):=cf o ab (b.ne e);have f:=w2 x I;exact⟨p,_,r,_,rfl,rfl,.of m,J,k x t (bG (Y.trans (af.new e)) o) (a.mono (by lia)) ⟨f.1,f.2.1,f.2.2⟩⟩
   ·refine⟨_,rfl,_,_,rfl,rfl,_,rfl,?_⟩;refine yb (λ_=>?_) (λh8=>?_)
    ·refine⟨(by show 8<=Zc;decide),λp e=>⟨_,rfl,d,8,n+1,rfl,b.same (af.new e),by lia,by decide,by decide,λr t o a N S=>?_⟩⟩;obtain⟨x,I,J⟩:=pf (l:=xk) N S;have m:t p=some (.lst (xk.map V.str)):=cf o ab (b.ne e);have f:=w3 x I;exact⟨p,_,r,_,rfl,rfl,.of m,J,k x t (bG (Y.trans (af.new e)) o) (a.mono (by lia)) ⟨f.1,f.2.1,f.2.2⟩⟩
    ·have a6:¬ way<8:=λh=>h8 (Zg h);obtain⟨x,I,J⟩:=pf (l:=B2) (r:=way - 8) (by lia) (by show way - 8<4;lia);have z:=w4 x I;refine⟨(by show 4<=Zc;decide),λp e=>⟨_,rfl,_,_,rfl,rfl,p,_,way - 8,_,rfl,rfl,.of ab,J,?_⟩⟩;have a4:Dk (upd H1 p (.lst (B2.map V.str))) d (n+1):=b.same (af.new e);refine⟨rfl,_,rfl,d,4,n+1,rfl,a4,by lia,by decide,by decide,λr4 t o a N S=>?_⟩;refine⟨_,_,rfl,rfl,1+r4,rfl,by lia,by lia,λD W=>?_⟩;have L:d≠D:=a.ne W;refine eQ (λi M σ U=>(∃u,σ=[u,some (.str x),some (.ref d)])/\af (wo d t) U/\Dk U d (n+2+i)/\∃l:List Str,M=l.map V.str/\l.length=i/\∀y∈l,Y1 y=true/\y.length<=1/\∃c,y=⟨#[c]⟩/\sgn c=true) ab ⟨⟨_,rfl⟩,bc.trans (af.new W),a.same (af.new W),[],rfl,rfl,λy v=>by cases v⟩ (λi M σ U _ C q=>?_) (λM σ U C q=>?_)
     ·obtain⟨X,s3,G,l,rfl,hl,B⟩:=q;apply dJ X;clear X;intro u;refine cq ⟨_,rfl,_,rfl,_,rfl,x,rfl,Sl z.2.1 (by decide),d,x.length,n+2+i,rfl,G,by lia,by lia,by lia,λr _ s4 a0 X q1=>?_⟩;obtain⟨c,j,hc,hj⟩:=Je X q1;have Z:sgn c=true:=SJ.mp z.2.2.2 c (by simpa using Array.mem_of_getElem? hj);refine⟨x,r,c,rfl,rfl,Sl z.2.1 (by decide),hc,_,cf s4 C L,small (by simp only[R8];lia),_,ab,⟨_,rfl⟩,ax (by rw[au L.symm];exact W) (bG s3 s4),a0.upd L,l++[⟨#[c]⟩],by simp,by simp[hl],λy v=>?_⟩;rcases Sz.mp v with v | v
      ·exact B y v
      ·simp only[Sg]at v;subst v;exact⟨IF z.1 hj,Sb _,c,rfl,Z⟩
     ·obtain⟨_,s3,G,l,rfl,hl,B⟩:=q;have a5:l.length<=4:=by lia
      refine⟨"",D,l,rfl,rfl,.of C,pX (λy v=>(B y v).2.1) ?_,?_⟩
      ·have:(("" : Str)).length=0:=rfl;rw[this];lia
      ·exact k _ U (bG (bG (Y.trans (af.new e)) o) s3) (G.mono (by lia)) (Ef (by lia) a5 B)
theorem xJ:aD ["deck","most"] ["deck","most"] (ag (top 60)):=by refine⟨rfl,rfl,rfl,?_,rfl,?_,?_⟩<;>decide +kernel
theorem xw (T:Tx K mg A):aA P w K mg base CX0 3 A.lc A.lZ ["deck","most"] (ow K):=by
 have O:aA P w K mg base CX0 2 _ _ _ _:=(n6 T).mono (by decide);have Y:aA P w K mg base CX0 2 _ _ _ _:=(dH T).mono (by decide);refine T.mF.fn.ok xJ (λZ H Q E h=>?_) (λ_ _ _ s H Z Q E N h=>?_)
 ·obtain⟨d,m,n,rfl,_⟩:=h;rfl
 ·obtain⟨d,m,n,rfl,z,_,C,_,k⟩:=h;refine⟨_,ak (aC (ee (r:=rJoin K) Yw PySem.F.slot_str_join PySem.F.type_str_join xG aJ (aa (aU (N':=["k","deck"]) (n:=1) (fi:=[0]) (g:=aN 0) rfl (aY (ag (top 60)) ["deck","most"] (by decide +kernel)) (dN (by rfl) T.g6 (aa (bw ed ap (ar Y N (by rfl) T.ao.mg T.ao.fn.kp T.ao.bd .nil ay (aa (pv 0) (aa (pv 1) ae)))) ae)) (λs H J=>av (i:=0) (show(["k","deck"]:List Str).Nodup by decide +kernel) rfl (Or.inl rfl) (.inr rfl)) (λs H J=>aL) (λs H J=>ar O N (by rfl) T.fQ.mg T.fQ.fn.kp T.fQ.bd .nil ay (aa (pv 1) ae))) ae))),?_⟩;refine⟨rfl,_,rfl,_,rfl,d,m,n,rfl,z,by lia,C,by lia,λX U R o _ _=>?_⟩;refine⟨_,_,rfl,rfl,1+X,rfl,by lia,by lia,λD t=>?_⟩;have f:d≠D:=o.ne t;refine eQ (λi j B p=>(∃u,B=[u,some (.ref d)])/\af (wo d U) p/\Dk p d (n+1+6 * i)/\∃l:List Str,j=l.map V.str/\l.length=i/\∀y∈l,WOk y) ab ⟨⟨_,rfl⟩,bc.trans (af.new t),o.same (af.new t),[],rfl,rfl,λy a=>by cases a⟩ (λi j B p _ c q=>?_) (λj B p c q=>?_)
  ·obtain⟨M,G,e,l,rfl,L,b⟩:=q;apply dJ M;clear M;intro u;refine cq ⟨_,rfl,d,n+1+6 * i,rfl,e,by lia,λx _ I v W=>?_⟩;refine⟨_,cf I c f,small (by simp only[R8];lia),_,ab,⟨_,rfl⟩,ax (by rw[au f.symm];exact t) (bG G I),(v.upd f).mono (by lia),l++[x],by simp,by simp[L],λy a=>?_⟩;rcases Sz.mp a with a | a
   ·exact b y a
   ·simp only[Sg]at a;subst a;exact W
  ·obtain⟨_,G,e,l,rfl,L,b⟩:=q;have S:((" " : Str)).length=1:=rfl;refine⟨" ",D,l,rfl,rfl,.of c,pX (λy a=>(b y a).len) ?_,?_⟩
   ·rw[S];lia
   ·exact k _ l p (bG R G) (e.mono (by lia)) ⟨rfl,by lia,by lia,b⟩
theorem cV:aD ["deck","line","found","word","kind","way"] ["deck","line"] (ag (top 62)):=by refine⟨rfl,rfl,rfl,?_,rfl,?_,?_⟩<;>decide +kernel
theorem rB (T:Tx K mg A):aA P w K mg base CX0 2 A.iu A.iy ["deck","line"] (kH K):=by
 have yH:aA P w K mg base CX0 1 _ _ _ _:=(xP T).mono (by decide);have aF:aA P w K mg base CX0 1 _ _ _ _:=(dH T).mono (by decide);refine T.g9.fn.ok cV (λvs H Q E h=>?_) (λ_ _ _ s H vs Q E hr h=>?_)
 ·obtain⟨d,z,n,rfl,_⟩:=h;rfl
 ·obtain⟨d,z,n,rfl,o,_,M,a5,k⟩:=h;refine⟨_,aj (bf (i:=2) cV.nd rfl (Or.inl rfl) (bC ae))
   (aj (fT Ys rfl (aM (ee Yw PySem.F.slot_str_split PySem.F.type_str_split uh (pv 1) (aa aJ ae))) (av (i:=3) cV.nd rfl (Or.inl rfl)) (aj (bf (i:=4) cV.nd rfl (Or.inl rfl) (ar yH hr (by rfl) T.mf.mg T.mf.fn.kp T.mf.bd .nil ay (aa (pv 3) ae)))
   (aj (bf (i:=5) cV.nd rfl (Or.inl rfl) (ar aF hr (by rfl) T.ao.mg T.ao.fn.kp T.ao.bd .nil ay (aa (pv 0) (aa ap ae))))
   (ak (bB (aP mW (pv 5) ap (aQ _)) (ak (cm (ee Y9 Yj Yk cJ (pv 2) (aa (dD (aa aJ (aa (pv 3) ae))) ae)))) (ak (bB ((pw_and (aP mW (pv 5) ap (aQ _)) (pw_and1 (aP m5 (pv 4) aJ (aQ _)))).pt) (ak (cm (ee Y9 Yj Yk cJ (pv 2) (aa (dD (aa aJ (aa (pv 4) ae))) ae)))) (ak (cm (ee Y9 Yj Yk cJ (pv 2) (aa (dD (aa aJ (aa aJ ae))) ae)))))))))))
   (ak (aC (pv 2)))),?_⟩
  have h1:((" " : Str)).length≠0:=by decide +kernel
  obtain⟨_,a3⟩:=o.lst;refine⟨Sy _,λF hF=>?_⟩;have u:d≠F:=o.ne hF;refine⟨_,rfl,rfl,z," ",rfl,rfl,h1,Sl (T8 M 2) (by decide),λL hL=>⟨L,rfl,⟨_,.of ab⟩,?_⟩⟩;have G:F≠L:=aw (ab (H:=H)) hL;have R:af H (upd H F (.lst [])):=af.new hF;have sL:af (upd H F (.lst [])) (upd (upd H F (.lst [])) L (.lst ((Y4 z " ").map V.str))):=af.new hL;have a4:d≠L:=(o.same R).ne hL;have a0:=uq (z:=z) (y:= " ") a5;have a9:=(tE (z:=z) (y:= " ")).2;refine gz (K:=K) (xs:=(Y4 z " ").map V.str) (nH K H d z F L n) ⟨⟨_,_,_,rfl⟩,bc.trans (R.trans sL),o.same (R.trans sL),ab,[],[],sL _ _ ab,rfl,(λp hp=>by cases hp),(λj w p _ hp=>by simp at hp),.nil⟩ (λi I H3 _ q=>.of q.2.2.2.1) (λi x I H3 hx q=>?_) (λI H3 q=>?_)
  ·obtain⟨W,s3,m,O,b,ps,r,c,g,l,Y⟩:=q;apply Jd W;clear W;intro u1 u2 u3;obtain⟨wd,e,rfl⟩:=e9 hx;have a8:i<(Y4 z " ").length:=aG e;have Z:=a0 wd (Sd e);have N:TOk wd:=⟨Sl Z.2 (Sl M (by decide)),Z.1⟩;refine⟨_,rfl,wd,rfl,N,λ_ U=>?_⟩;refine⟨_,rfl,d,6,n+i,rfl,m.same U,by lia,by decide,by decide,λway H5 X v _ _=>?_⟩;have D:H5 L=some (.lst ((Y4 z " ").map V.str)):=cf X (U _ _ O) a4;have a:H5 F=some (.lst b):=cf X (U _ _ r) u;have C:aE K (lim (upd H F (.lst [])) H5) b (ps.map Pt.dat):=(Y.same (cZ U)).same (yN (R _ _ a3) X);have B:af (wo d H) H5:=bG (s3.trans U) X;have a7:b.length=i:=by rw[Y.length,R8,c]
   have S:=BK wd.cps.toList;refine⟨_,rfl,_,_,rfl,rfl,_,rfl,?_⟩;refine yb (λ_=>?_) (λ_=>?_)
   ·refine⟨_,rfl,.inl ⟨rfl,_,.of a⟩,_,rfl,(by show 2<=Zc;decide),λt f=>⟨F,b,_,rfl,rfl,af.new f _ _ a,small (by lia),?_⟩⟩;exact nH.step (pt:=.word wd) u G hF ⟨_,_,_,rfl⟩ B v D a c g l C e (.inl rfl) rfl N (by decide +kernel) Z.1 f
   ·have NI:∀(t:Z6) (f:H5 t=none) (I:St),(∃u1 u2 u3,I=[some (.ref d),some (.str z),some (.ref F),u1,u2,u3])->nH K H d z F L n (i+1) I (upd (upd H5 t (.tup [.str "hole",.str "any"])) F (.lst (b++[.ref t]))):=λt f I a6=>
     nH.step (pt:=.hole 2) u G hF a6 B v D a c g l C e (.inr (.inr rfl)) rfl (by decide:2<3) (by decide +kernel) (by decide +kernel) f
    refine⟨_,rfl,_,_,rfl,rfl,_,rfl,?_⟩;refine yb (λ_=>?_) (λ_=>?_)
    ·refine⟨_,rfl,rfl,_,rfl,?_⟩;rw[Dw S];by_cases h2:eh wd.cps.toList=2
     ·rw[Zg h2];refine br ?_;exact⟨_,rfl,.inl ⟨rfl,_,.of a⟩,(by show 2<=Zc;decide),λt f=>⟨F,b,_,rfl,rfl,af.new f _ _ a,small (by lia),NI t f _ ⟨_,_,_,rfl⟩⟩⟩
     ·rw[Zh h2];refine b9 ?_;refine⟨_,rfl,.inl ⟨rfl,_,.of a⟩,_,rfl,(by show 2<=Zc;decide),λt f=>⟨F,b,_,rfl,rfl,af.new f _ _ a,small (by lia),?_⟩⟩;have J:eh wd.cps.toList<2:=by lia
      rw[JT J];exact nH.step (pt:=.hole (eh wd.cps.toList)) u G hF ⟨_,_,_,rfl⟩ B v D a c g l C e (.inr (.inl ⟨rfl,J⟩)) rfl S (by decide +kernel) tq f
    ·refine br ?_;exact⟨_,rfl,.inl ⟨rfl,_,.of a⟩,(by show 2<=Zc;decide),λt f=>⟨F,b,_,rfl,rfl,af.new f _ _ a,small (by lia),NI t f _ ⟨_,_,_,rfl⟩⟩⟩
  ·obtain⟨W,s3,m,O,b,ps,r,c,g,l,Y⟩:=q;apply Jd W;clear W;intro u1 u2 u3;rw[R8]at c m;refine⟨_,rfl,k F H3 ps hF s3 (m.mono (by lia)) ⟨by lia,g⟩ ⟨c,l⟩ ⟨b,r⟩ ?_⟩;exact .lst (.of ((g7 hF).trans r)) (Y.same (fu R.ll))
theorem c5:aD ["deck","most","shapes","found","k","words","turn"] ["deck","most"] (ag (top 61)):=by refine⟨rfl,rfl,rfl,?_,rfl,?_,?_⟩<;>decide +kernel
theorem uQ (T:Tx K mg A):aA P w K mg base CX0 4 A.jM A.ka ["deck","most"] (m3 K):=by
 have S:aA P w K mg base CX0 3 _ _ _ _:=(dH T).mono (by decide);have k9:aA P w K mg base CX0 3 _ _ _ _:=(n6 T).mono (by decide);have yQ:aA P w K mg base CX0 3 _ _ _ _:=(xw T).mono (by decide);refine T.jV.fn.ok c5 (λvs H Q E h=>?_) (λ_ _ _ s H vs Q E J h=>?_)
 ·obtain⟨d,m,n,rfl,_⟩:=h;rfl
 ·obtain⟨d,m,n,rfl,b3,_,bk,_,k⟩:=h;refine⟨_,aj (hJ (i:=2) (N':=["k","deck"]) (n:=1) (fi:=[0]) (g:=aN 0) c5.nd rfl (Or.inl rfl) rfl (aY (ag (top 61)) ["deck","most","shapes","found","k","words","turn"] (by decide +kernel)) (dN (by rfl) T.g6 (aa (bw ed ap (ar S J (by rfl) T.ao.mg T.ao.fn.kp T.ao.bd .nil ay (aa (pv 0) (aa ap ae)))) ae)) (λs H fp=>av (i:=0) (show(["k","deck"]:List Str).Nodup by decide +kernel) rfl (Or.inl rfl) (.inr rfl)) (λs H fp=>aL) (λs H fp=>wO (K:=K) rfl Yw PySem.F.slot_str_split PySem.F.type_str_split uh (ar yQ J (by rfl) T.mF.mg T.mF.fn.kp T.mF.bd .nil ay (aa (pv 1) (aa (bi (r:=dQ K) a9 (bC (aa ap (aa ap (aa ap ae)))) (ar S J (by rfl) T.ao.mg T.ao.fn.kp T.ao.bd .nil ay (aa (pv 1) (aa ap ae))) (λ_ _=>rfl)) ae))) (aa aJ ae)))
   (aj (bf (i:=3) c5.nd rfl (Or.inl rfl) (bC ae))
   (aj (fT Ys rfl (dN (by rfl) T.g6 (aa (ar S J (by rfl) T.ao.mg T.ao.fn.kp T.ao.bd .nil ay (aa (pv 0) (aa (bw ed (pv 1) ap) ae))) ae)) (av (i:=4) c5.nd rfl (Or.inl rfl)) (aj (bf (i:=5) c5.nd rfl (Or.inl rfl) (ia (r:=oX K) j7 (by rfl) T.nr ku (aa (bi (r:=dQ K) a9 (pv 2) (ar S J (by rfl) T.ao.mg T.ao.fn.kp T.ao.bd .nil ay (aa (pv 0) (aa (aH (r:=d4 K) bh (by rfl) T.dv Yb (aa (pv 2) ae)) ae))) (λ_ _=>rfl)) ae)))
   (aj (fT Ys rfl (dN (by rfl) T.g6 (aa (ar S J (by rfl) T.ao.mg T.ao.fn.kp T.ao.bd .nil ay (aa (pv 0) (aa ap ae))) ae)) (av (i:=6) c5.nd rfl (Or.inl rfl)) (ak (nv (ar k9 J (by rfl) T.fQ.mg T.fQ.fn.kp T.fQ.bd .nil ay (aa (pv 0) ae)) (BU (pv 5) (ar S J (by rfl) T.ao.mg T.ao.fn.kp T.ao.bd .nil ay (aa (pv 0) (aa (aH (r:=d4 K) bh (by rfl) T.dv Yb (aa (pv 5) ae)) ae))) set_list))))
   (aj (cm (ee Y9 Yj Yk cJ (pv 3) (aa (ee (r:=rJoin K) Yw PySem.F.slot_str_join PySem.F.type_str_join xG aJ (aa (pv 5) ae)) ae)))
   (ak (bB (aP iS (ar S J (by rfl) T.ao.mg T.ao.fn.kp T.ao.bd .nil ay (aa (pv 0) (aa ap ae))) ap (aQ _)) (ak (cm (ee Y9 Yj Yk cJ (pv 3) (aa (bi (r:=dQ K) a9 (pv 3) (ar S J (by rfl) T.ao.mg T.ao.fn.kp T.ao.bd .nil ay (aa (pv 0) (aa (aH (r:=d4 K) bh (by rfl) T.dv Yb (aa (pv 3) ae)) ae))) (λ_ _=>rfl)) ae)))) aO))))))
   (ak (aC (oO (r:=Ln K) Cj (pv 3) yl (o5 (pv 1))))))),?_⟩
  have h1:((" " : Str)).length=1:=rfl;refine⟨_,rfl,d,3,n,rfl,b3,by lia,by decide,by decide,λr H1 s1 b1 _ _=>⟨_,_,rfl,rfl,1+r,rfl,by lia,by lia,λSH M=>?_⟩⟩;have Jo:d≠SH:=b1.ne M;refine eQ (λi acc I H3=>(∃u,I=[u,some (.ref d)])/\af (wo d H1) H3/\Dk H3 d (n+1+81 * i)/\acc.length=i/\∀x∈acc,∃(s:Z6) (ws:List Str),x = .ref s/\s≠d/\s≠SH/\H3 s=some (.lst (ws.map V.str))/\yw ws) ab ⟨⟨_,rfl⟩,bc.trans (af.new M),b1.same (af.new M),rfl,λx c=>by cases c⟩ (λi acc I H3 hi X q=>?_) (λacc I H3 X q=>?_)
  ·obtain⟨f,s3,C,ah,a7⟩:=q;apply dJ f;clear f;intro u;refine cq ?_;refine⟨_,rfl,(by show 3<=Zc;decide),λp hp=>⟨_,rfl,d,3,_,rfl,C.same (af.new hp),by lia,by decide,by decide,λr3 H4 s4 a0 f q1=>?_⟩⟩;have b4:H4 p=some (.lst [.int 3,.int 6,.int 12]):=cf s4 ab (C.ne hp);obtain⟨v,hv,bp,b5⟩:=Jc f q1;refine⟨p,_,r3,_,rfl,rfl,.of b4,hv,d,v,_,rfl,a0,by lia,bp,b5,λx ws H5 Z z G=>?_⟩;have ba:=G.ok (by lia);have La:af (wo d H3) H5:=bG (bG (bc.trans (af.new hp)) s4) Z;have ON:H5 SH=some (.lst acc):=cf La X Jo;refine⟨rfl,x," ",rfl,rfl,by rw[h1];decide,Sl (T8 ba.2 2) (by decide),λl hl=>?_⟩;have sl:af H5 (upd H5 l (.lst ((Y4 x " ").map V.str))):=af.new hl;have OV:l≠SH:=(aw ON hl).symm;have bq:l≠d:=(z.ne hl).symm;refine⟨acc,sl _ _ ON,small (by lia),_,ab,⟨_,rfl⟩,ax (by rw[au Jo.symm];exact M) (bG s3 (La.trans sl)),((z.same sl).upd Jo).mono (by lia),by rw[Sj,ah];rfl,λy B=>?_⟩;rcases Sz.mp B with B | B
   ·obtain⟨s,bb,rfl,g1,g2,g3,g4⟩:=a7 y B;exact⟨s,bb,rfl,g1,g2,by rw[aq g2];exact sl _ _ (cf La g3 g1.symm),g4⟩
   ·simp only[Sg]at B;subst B;refine⟨l,ws,rfl,bq,OV,by rw[aq OV,ab,G.split],G.pos,Sl G.le (by lia),G.wd⟩
  ·obtain⟨_,s3,C,ah,a7⟩:=q;have Jw:af (wo d H) (wo d H3):=gm eJ (bG s1 s3);have LY:(wo d H3) SH=some (.lst acc):=by rw[au Jo.symm];exact X
   have Oy:KA (wo d H3) acc:=λx c=>by
    obtain⟨s,ws,rfl,g1,g2,g3,g4⟩:=a7 x c;exact⟨s,ws,rfl,by rw[au g1];exact g3,g4⟩
   have a4:(wo d H3) d=none:=eJ;have KO:af (wo d H3) H3:=bc;refine⟨Sy _,λF hF=>?_⟩;have a:d≠F:=C.ne hF;have R:(wo d H3) F=none:=KO.free hF;have bu:H F=none:=by
    have:=Jw.free R
    rwa [au a.symm]at this
   generalize wo d H3=Hs at Jw LY Oy a4 KO R;have sF:af H3 (upd H3 F (.lst [])):=af.new hF;refine⟨_,rfl,_,rfl,_,_,rfl,rfl,d,_,_,rfl,C.same sF,by lia,by lia,by lia,λr2 H4 s4 a0 f q1=>⟨r2,rfl,by lia,by lia,?_⟩⟩;have Rn:1<=acc.length:=by lia
   refine vh (λi I H5=>(∃u4 u5 u6,I=[some (.ref d),some (.int m),some (.ref SH),some (.ref F),u4,u5,u6])/\af Hs H5/\Dk H5 d (n+400+20 * i)/\∃ls:List Str,H5 F=some (.lst (ls.map V.str))/\ls.length<=2 * i/\∀x∈ls,∃ws,ir 12 x ws)
    ⟨⟨_,_,_,rfl⟩,λb o e=>s4 b o (by rw[au (aw e a4)];exact sF b o (KO b o e)),a0.mono (by lia),[],cf s4 ab a,Sb _,λx c=>by cases c⟩ (λi I H5 hi q=>?_) (λI H5 q=>?_)
   ·obtain⟨f,Z,z,ls,Y,br,F4⟩:=q;apply Jd f;clear f;intro u4 u5 u6;have vT:∀{Ha Hb:Hp},af Hs Ha->af (wo d Ha) Hb->af Hs Hb:=λsa sb b o e=>sb b o (by rw[au (aw e a4)];exact sa b o e);refine⟨_,rfl,_,rfl,_,rfl,SH,_,rfl,.inl (.of (Z _ _ LY)),d,_,_,rfl,z,by lia,by lia,by lia,λrk H6 s6 az k0 _=>?_⟩;have O:=vT Z s6;have as:=cf s6 Y a;obtain⟨jj,rfl⟩:=T1 (k0:(0:Int)<=rk);have b7:jj<acc.length:=by lia
    have ai:acc[jj]? = some acc[jj]:=R9 b7;obtain⟨sA,ws,ex,bo,b6⟩:=Oy acc[jj] (Sd ai);refine⟨SH,acc,_,_,rfl,rfl,.of (O _ _ LY),cA ai,sA,_,by rw[ex],.inl (.of (O _ _ bo)),λW hW=>?_⟩;have sW:af H6 (upd H6 W (.lst (ws.map V.str))):=af.new hW;have N:d≠W:=az.ne hW;have b2:F≠W:=aw as hW;have bj:Hs W=none:=O.free hW;refine⟨_,rfl,d,3,_,rfl,az.same sW,by lia,by decide,by decide,λr3 _ s8 be _ g1=>⟨r3,rfl,by lia,by lia,?_⟩⟩;refine vh (λj I H9=>(∃u4 u6,I=[some (.ref d),some (.int m),some (.ref SH),some (.ref F),u4,some (.ref W),u6])/\af Hs H9/\Dk H9 d (n+400+20 * i+2+7 * j)/\H9 F=some (.lst (ls.map V.str))/\∃l:List Str,H9 W=some (.lst (l.map V.str))/\yw l)
     ⟨⟨_,_,rfl⟩,vT (O.trans sW) s8,be.mono (by lia),cf s8 (sW _ _ as) a,ws,cf s8 ab N,b6⟩ (λj I H9 _ q=>?_) (λI H9 q=>?_)
    ·obtain⟨f,s9,a5,L,l,U,t⟩:=q;apply wH f;clear f;intro u4 u6;have b8:=t.pos;have bg:=t.le;refine⟨_,rfl,d,_,rfl,a5,by lia,λx _ a3 IT c=>?_⟩;have OJ:=cf a3 U N;refine⟨_,rfl,_,rfl,_,rfl,W,_,rfl,.inl (.of OJ),d,_,_,rfl,IT,by lia,by rw[R8];lia,by rw[R8];lia,λrj _ a6 Rf j0 j1=>?_⟩;have P4:=cf a6 OJ N;exact⟨W,_,rj,_,rfl,rfl,P4,Lw j0 j1,⟨_,_,rfl⟩,ax bj (vT (vT s9 a3) a6),(Rf.upd N).mono (by lia),by rw[aq b2];exact cf a6 (cf a3 L a) a,l.set rj.toNat x,by rw[ab,List.map_set],t.set c⟩
    ·obtain⟨f,s9,a5,L,l,U,t⟩:=q;apply wH f;clear f;intro u4 u6;have b8:=t.pos;have bg:=t.le;refine⟨_,rfl,.inl ⟨rfl,_,.of L⟩,rfl,_,rfl," ",W,l,rfl,rfl,.of U,pX (λy B=>(t.wd y B).len) (by rw[h1];lia),F,_,_,rfl,rfl,L,small (by rw[R8];lia),?_⟩;have PX:(upd H9 F (.lst (ls.map V.str++[.str (YG " " l)]))) F=some (.lst ((ls++[YG " " l]).map V.str)):=by rw[ab];simp
     have Fi:∀x∈ls++[YG " " l],∃ws,ir 12 x ws:=λx c=>by
      rcases Sz.mp c with c | c
      ·exact F4 x c
      ·simp only[Sg]at c;subst c;exact⟨l,t.line⟩
     refine⟨_,rfl,d,6,_,rfl,a5.upd a,by lia,by decide,by decide,λ_ _ b0 BW _ _=>⟨rfl,_,rfl,?_⟩⟩;have Jx:=cf b0 PX a;have OI:=vT (ax (D:=F) (o:=.lst (ls.map V.str++[.str (YG " " l)])) R s9) b0;have LA:(ls++[YG " " l]).length=ls.length+1:=by simp
     refine yb (λ_=>?_) (λ_=>?_)
     ·refine⟨_,rfl,.inl ⟨rfl,_,.of Jx⟩,_,rfl,_,rfl,_,rfl,F,_,rfl,.inl (.of Jx),d,_,_,rfl,BW,by lia,by rw[R8];lia,by rw[R8];lia,λ_ _ a8 Q3 z0 z1=>?_⟩;rw[R8]at z1;obtain⟨x,c,b9⟩:=pf z0 z1;have OF:=cf a8 Jx a;refine⟨F,_,_,_,rfl,rfl,.of OF,b9,F,_,_,rfl,rfl,OF,small (by rw[R8];lia),⟨_,_,_,rfl⟩,ax R (vT OI a8),(Q3.upd a).mono (by lia),(ls++[YG " " l])++[x],by rw[ab];simp,by rw[Sj,LA];simp;lia,λy B=>?_⟩;rcases Sz.mp B with B | B
      ·exact Fi y B
      ·simp only[Sg]at B;subst B;exact Fi y c
     ·exact⟨⟨_,_,_,rfl⟩,OI,BW.mono (by lia),ls++[YG " " l],Jx,by lia,Fi⟩
   ·obtain⟨f,Z,z,ls,Y,br,F4⟩:=q;apply Jd f;clear f;intro u4 u5 u6;refine⟨_,rfl,_,rfl,m,rfl,F,_,rfl,.of Y,λD hD=>?_⟩;rw[Gg bk,<-List.map_take];have bl:d≠D:=z.ne hD;have bt:H D=none:=by
     have:=(Jw.trans Z).free hD
     rwa [au bl.symm]at this
    exact k D (ls.take m.toNat) _ bt ((Jw.trans Z).trans (af.new hD)) ((z.same (af.new hD)).mono (by lia)) ab (λx c=>F4 x (TH c)) (by rw[Sx];lia)
def m7 (K:Vz):Sp:=λvs H Q _=>∃(d:Z6) (n:Nat),vs=[.ref d]/\Dk H d n/\n<900000/\∀(t:Z6) (s l:Int) H',H t=none->af (wo d H) H'->Dk H' d (n+3)->H' t=some (.tup [.int s,.int l])->Q (.ref t) H'
theorem L7 {r:Int} (a:0<=r) (h1:r<3):∃v:Int,atI [V.int 3,V.int 3,V.int 9] r=some (.int v)/\0<v/\v<10:=by
 have:r=0\/r=1\/r=2:=by lia
 rcases this with rfl | rfl | rfl
 ·exact⟨3,rfl,by decide,by decide⟩
 ·exact⟨3,rfl,by decide,by decide⟩
 ·exact⟨9,rfl,by decide,by decide⟩
theorem uT:aD ["deck"] ["deck"] (ag (top 63)):=by refine⟨rfl,rfl,rfl,?_,rfl,?_,?_⟩<;>decide +kernel
theorem uL (T:Tx K mg A):aA P w K mg base CX0 2 A.kA A.j9 ["deck"] (m7 K):=by
 have i:aA P w K mg base CX0 1 _ _ _ _:=(dH T).mono (by decide);refine T.jQ.fn.ok uT (λG H Q E h=>?_) (λ_ _ _ s H G Q E l h=>?_)
 ·obtain⟨d,n,rfl,_⟩:=h;rfl
 ·obtain⟨d,n,rfl,e,_,k⟩:=h;refine⟨_,ak (aC (dD (aa (bw ed ap (ar i l (by rfl) T.ao.mg T.ao.fn.kp T.ao.bd .nil ay (aa (pv 0) (aa ap ae)))) (aa (bw ed ap (ar i l (by rfl) T.ao.mg T.ao.fn.kp T.ao.bd .nil ay (aa (pv 0) (aa (bi (r:=dQ K) a9 (bC (aa ap (aa ap (aa ap ae)))) (ar i l (by rfl) T.ao.mg T.ao.fn.kp T.ao.bd .nil ay (aa (pv 0) (aa ap ae))) (λ_ _=>rfl)) ae)))) ae)))),?_⟩;refine⟨_,rfl,d,8,n,rfl,e,by lia,by decide,by decide,λL _ M b _ _=>⟨_,_,rfl,rfl,?_⟩⟩;refine⟨_,rfl,(by show 3<=Zc;decide),λp m=>⟨_,rfl,d,3,_,rfl,b.same (af.new m),by lia,by decide,by decide,λC z x g F J=>?_⟩⟩;obtain⟨v,D,u,_⟩:=L7 F J;have j:z p=some (.lst [.int 3,.int 3,.int 9]):=cf x ab (b.ne m);refine⟨p,_,C,_,rfl,rfl,.of j,D,d,v,_,rfl,g,by lia,u,by lia,λB H3 I a _ _=>⟨_,_,rfl,rfl,(by show 2<=Zc;decide),λt f=>?_⟩⟩;have c:af (wo d H) H3:=bG (bG M (bc.trans (af.new m))) (by exact bG (by exact x) I);have y:=af.new (o:=.tup [.int (2+L),.int (1+B)]) f;have q:=a.ne f;refine k t _ _ _ ?_ (c.trans y) ((a.same y).mono (by lia)) ab;have:=c.free f
  rwa [au q.symm]at this
end
end K26
namespace LG
open PySem L2
def hoK (l:List (Str×Nat)):List (Key×V):=l.map λx=>((Sum.inr x.1:Key),V.int (x.2:Nat))
def oC (l:List (Str×Nat)) (w:Str):Nat:=((l.find? λx=>decide (x.1=w)).map (·.2)).getD 0
def qM (l:List (Str×Nat)) (w:Str):List (Str×Nat):=if (l.any λx=>decide (x.1=w))=true then l.map (λx=>if x.1=w then(x.1,x.2+1)else x)else l++[(w,1)]
theorem E8 (l:List (Str×Nat)) (w:Str):eY (hoK l) (Sum.inr w)=(l.find? λx=>decide (x.1=w)).map λx=>V.int (x.2:Nat):=by
 induction l with
 | nil=>rfl
 | cons a l b=>
  unfold hoK;rw[Sv,Tg];by_cases h:a.1=w
  ·rw[js (by rw[h]),Zg h];rfl
  ·rw[show eY _ _=_ from pF (λz=>h (Sum.inr.inj z)),Zh h];exact b
theorem Lo (l:List (Str×Nat)) (w:Str):((hoK l).any λkv=>decide (kv.1=(Sum.inr w:Key)))=l.any λx=>decide (x.1=w):=by
 unfold hoK;rw[List.any_map]
 congr 1
 funext x
 show decide ((Sum.inr x.1:Key)=Sum.inr w)=decide (x.1=w);by_cases h:x.1=w
 ·rw[h,Zg rfl,Zg rfl]
 ·rw[Zh h,Zh λz=>h (Sum.inr.inj z)]
theorem IH {l:List (Str×Nat)}{w:Str} (b:(l.map (·.1)).Nodup) {x:Str×Nat} (hx:x∈l) (e:x.1=w):oC l w=x.2:=by
 induction l with
 | nil=>cases hx
 | cons a l c=>
  rw[Sv,Tq]at b;unfold oC;rw[Tg];rcases Su.mp hx with h | h
  ·subst h;rw[Zg e];rfl
  ·rw[Zh λz=>b.1 (by rw[z,<-e];exact Si.mpr ⟨x,h,rfl⟩)];exact c b.2 h
theorem L3 {l:List (Str×Nat)}{w:Str} (b:(l.map (·.1)).Nodup):putK (hoK l) (Sum.inr w) (.int ((oC l w:Nat)+1:Int))=hoK (qM l w):=by
 unfold putK qM;rw[Lo];cases h:l.any λx=>decide (x.1=w)with
 | true=>
  simp only[if_true];unfold hoK;rw[SS,SS];refine SK λx a=>?_;show(if (Sum.inr x.1:Key)=Sum.inr w then _ else _)=_;by_cases e:x.1=w
  ·rw[Zj (by rw[e])];simp only[Function.comp,e,if_true];rw[IH b a e];rfl
  ·rw[Zk λz=>e (Sum.inr.inj z)];simp only[Function.comp,e,if_false]
 | false=>
  simp only[SQ,if_false];unfold hoK;rw[Sm];have:oC l w=0:=by
   unfold oC;rw[List.find?_eq_none.mpr λx a=>?_]
   ·rfl
   ·have:=UL.mp h x a;simpa using this
  rw[this];rfl
theorem JD {l:List (Str×Nat)}{w:Str} (f:(l.map (·.1)).Nodup):((qM l w).map (·.1)).Nodup/\(∀y,y∈(qM l w).map (·.1)↔y∈l.map (·.1)\/y=w)/\((qM l w).map (·.2)).sum=(l.map (·.2)).sum+1:=by
 unfold qM;cases h:l.any λx=>decide (x.1=w)with
 | true=>
  simp only[if_true];have i:(l.map λx=>if x.1=w then(x.1,x.2+1)else x).map (·.1)=l.map (·.1):=by
   rw[SS];refine SK λx _=>?_;by_cases e:x.1=w <;> simp[e]
  obtain⟨x,d,c⟩:=Tj.mp h;have c:=Zi c;refine⟨by rw[i];exact f,λy=>?_,?_⟩
  ·rw[i];exact⟨.inl,λz=>z.elim id λe=>by rw[e,<-c];exact Si.mpr ⟨x,d,rfl⟩⟩
  ·clear i h
   induction l with
   | nil=>cases d
   | cons a l q=>
    rw[Sv,Tq]at f;rw[Sv,Sv,S2,Sv,S2];by_cases e:a.1=w
    ·have p:(l.map λx=>if x.1=w then(x.1,x.2+1)else x)=l:=by
      refine(SK λy n=>?_).trans (List.map_id l);rw[Zk λz=>f.1 (by rw[e,<-z];exact Si.mpr ⟨y,n,rfl⟩)];rfl
     rw[p,Zj e];lia
    ·have k:x∈l:=by
      rcases Su.mp d with h | h
      ·exact absurd (h ▸ c) e
      ·exact h
     rw[q f.2 k,Zk e];lia
 | false=>
  simp only[SQ,if_false];have g:w∉l.map (·.1):=λz=>by
   obtain⟨x,d,e⟩:=Si.mp z;have:=UL.mp h x d;simp[e]at this
  refine⟨?_,λy=>?_,?_⟩
  ·rw[Sm,Tv];exact⟨f,by simp,λa o b m e=>g (by rw[List.map_singleton,Sg]at m;have j:b=w:=m;rw[<-j,<-e];exact o)⟩
  ·rw[Sm,Sz,List.map_singleton,Sg]
  ·rw[Sm,List.sum_append];simp
theorem vf {P d:Z6}{pos:Pos}{qual:Str}{H H':Hp}{ys:List V} (h:gU P pos qual H) (g:H d=some (.lst ys)) (s:af (wo d H) H'):gU P pos qual H':=by
 obtain⟨k,f,j,i⟩:=h;have a:P≠d:=λe=>by rw[e,g]at f;cases f
 refine⟨k,s _ _ (by rw[au a];exact f),j,i.imp id λ⟨c,x,y⟩=>⟨c,x,?_⟩⟩;have b:c≠d:=λe=>by rw[e,g]at y;cases y
 exact s _ _ (by rw[au b];exact y)
structure MdI (K:Vz) (pos:Pos) (qual:Str) (CL CS P:Z6) (H0:Hp) (d g pa LF:Z6) (n:Nat) (lv:List V) (Bi:Hp) (tb:Z6) (v:km) (H:Hp):Prop where
 sB:af (wo d (wo P H0)) H
 la:gU P pos qual H
 dk:Dk H d n
 lg:bO K CL CS Bi H g pa tb v
 mu:∀c o,H0 c=some o->sJ o->Bi c=none
 bl:Bi LF=none
 nt:LF≠tb
 t0:H0 tb=none
 lf:H LF=some (.lst lv)
 d0:∃ys,H0 d=some (.lst ys)
 P0:∃q,H0 P=some (.tbl q)
 g0:H0 g=none
 p0:H0 pa=none
 l0:H0 LF=none
 ng:LF≠g
 np:LF≠pa
section
variable {K:Vz}{pos:Pos}{qual:Str}{CL CS P:Z6}{H0 Bi B' H H':Hp}{d g pa LF tb tb':Z6}{n m:Nat}{lv lv':List V}{v v':km}
theorem MdI.dd (h:MdI K pos qual CL CS P H0 d g pa LF n lv Bi tb v H):d≠g/\d≠pa/\d≠tb/\d≠LF/\d≠P/\Bi d=none/\Bi P=none:=by
 obtain⟨_,a⟩:=h.d0;obtain⟨q,b⟩:=h.P0;exact⟨(λe=>by rw[e,h.g0]at a;cases a),(λe=>by rw[e,h.p0]at a;cases a),(λe=>by rw[e,h.t0]at a;cases a),(λe=>by rw[e,h.l0]at a;cases a),(λe=>by rw[e,b]at a;cases a),h.mu _ _ a (.inl ⟨_,rfl⟩),h.mu _ _ b (.inr (.inr ⟨_,rfl⟩))⟩
theorem MdI.nP (h:MdI K pos qual CL CS P H0 d g pa LF n lv Bi tb v H):g≠P/\pa≠P/\tb≠P/\LF≠P:=by
 obtain⟨q,a⟩:=h.P0;exact⟨(λe=>by rw[<-e,h.g0]at a;cases a),(λe=>by rw[<-e,h.p0]at a;cases a),(λe=>by rw[<-e,h.t0]at a;cases a),λe=>by rw[<-e,h.l0]at a;cases a⟩
theorem MdI.old (h:MdI K pos qual CL CS P H0 d g pa LF n lv Bi tb v H) {c:Z6}{o:HO} (e:H0 c=some o):∃o',H c=some o'/\(sJ o->sJ o'):=by
 by_cases a:c=d
 ·obtain⟨_,f⟩:=h.dk.lst;exact⟨_,by rw[a];exact f,λ_=>.inl ⟨_,rfl⟩⟩
 by_cases b:c=P
 ·obtain⟨q,i⟩:=bj h.la;exact⟨_,by rw[b];exact i,λ_=>.inr (.inr ⟨_,rfl⟩)⟩
 exact⟨o,h.sB _ _ (by rw[au a,au b];exact e),id⟩
theorem MdI.free (h:MdI K pos qual CL CS P H0 d g pa LF n lv Bi tb v H) {c:Z6} (e:H c=none):H0 c=none:=by
 cases e2:H0 c with
 | none=>rfl
 | some o=>
  obtain⟨_,a,_⟩:=h.old e2;rw[e]at a;cases a
theorem MdI.same (h:MdI K pos qual CL CS P H0 d g pa LF n lv Bi tb v H) (s:af H H'):MdI K pos qual CL CS P H0 d g pa LF n lv Bi tb v H':=
 { h with sB:=h.sB.trans s,la:=aV h.la s,dk:=h.dk.same s,lg:=h.lg.same s,lf:=s _ _ h.lf }
theorem MdI.pick (h:MdI K pos qual CL CS P H0 d g pa LF n lv Bi tb v H) (s:af (wo d H) H') (dk:Dk H' d m):MdI K pos qual CL CS P H0 d g pa LF m lv Bi tb v H':=by
 obtain⟨f,k,a,i,_,b,_⟩:=h.dd;obtain⟨_,j⟩:=h.dk.lst;refine{ h with sB:=λc o e=>?_,la:=vf h.la j s,dk:=dk,lg:=h.lg.wo b f k a s,lf:=s _ _ (by rw[au i.symm];exact h.lf) };have:=aZ e;exact s _ _ (by rw[au this.1];exact h.sB _ _ e)
theorem MdI.pop (h:MdI K pos qual CL CS P H0 d g pa LF n lv Bi tb v H):MdI K pos qual CL CS P H0 d g pa LF n lv' Bi tb v (upd H LF (.lst lv')):=by
 obtain⟨_,_,_,i,_,_,_⟩:=h.dd;obtain⟨_,_,_,_,_,_,_,_,_,f,_⟩:=id h.lg;refine{ h with sB:=λc o e=>?_,la:=rJ h.la h.lf,dk:=?_,lg:=h.lg.to (ax h.bl f) (aq h.ng.symm) (aq h.np.symm) (aq h.nt.symm),lf:=ab }
 ·rw[aq (λz=>by
   obtain⟨_,e⟩:=aZ e;obtain⟨_,e⟩:=aZ e;rw[z,h.l0]at e;cases e)]
  exact h.sB _ _ e
 ·obtain⟨a,b,c,e,r⟩:=h.dk;exact⟨a,b,c,by rw[aq i];exact e,r⟩
theorem MdI.OC (h:MdI K pos qual CL CS P H0 d g pa LF n lv Bi tb v H) (s:af (wo g (wo pa (wo P H))) H') (la:gU P pos qual H') (i:H tb' = none) (j:∀c o,Bi c=none->H c=some o->sJ o->B' c=none) (lg:bO K CL CS B' H' g pa tb' v'):MdI K pos qual CL CS P H0 d g pa LF n lv B' tb' v' H':=by
 obtain⟨k,t,_,_,q,_,_⟩:=h.dd;obtain⟨_,_,_,u⟩:=h.nP;refine{ h with sB:=λc o e=>?_,la:=la,dk:=?_,lg:=lg,mu:=λc o e m=>?_,bl:=j _ _ h.bl h.lf (.inl ⟨_,rfl⟩),nt:=(λe=>by rw[<-e,h.lf]at i;cases i),t0:=h.free i,lf:=s _ _ (by rw[au h.ng,au h.np,au u];exact h.lf) }
 ·have f:=h.sB _ _ e;obtain⟨_,e⟩:=aZ e;obtain⟨p,e⟩:=aZ e;exact s _ _ (by rw[au (λz=>by rw[z,h.g0]at e;cases e),au (λz=>by rw[z,h.p0]at e;cases e),au p];exact f)
 ·obtain⟨a,b,c,e,r⟩:=h.dk;exact⟨a,b,c,s _ _ (by rw[au k,au t,au q];exact e),r⟩
 ·obtain⟨w,f,l⟩:=h.old e;exact j c w (h.mu c o e m) f (l m)
end
structure WOd (w:Str):Prop where
 word:dE w=true
 len:w.length<=5
 ok:Y1 w=true
theorem d1:∀x∈xp,dE x=true/\x.length<=5/\Y1 x=true:=by decide +kernel
theorem d2:∀x∈wX,dE x=true/\x.length<=5/\Y1 x=true:=by decide +kernel
theorem d3:∀x∈xk,dE x=true/\x.length<=5/\Y1 x=true:=by decide +kernel
structure RG (m:Nat) (x:Str) (ws:List Str):Prop where
 eq:x=YG " " ws
 pos:1<=ws.length
 le:ws.length<=m
 wd:∀w∈ws,WOd w
structure RD (ws:List Str):Prop where
 pos:1<=ws.length
 le:ws.length<=12
 wd:∀w∈ws,WOd w
def J7:Sh:=.list (.list (.cO .str (.cO .str .rn)))
theorem zA (pss:List (List Pt)):J7.has (.list (pss.map bx)):=⟨_,rfl,λx a=>by
 obtain⟨_,_,rfl⟩:=Si.mp a;exact⟨_,rfl,λy b=>by
  obtain⟨p,_,rfl⟩:=Si.mp b;cases p <;> exact⟨_,_,rfl,⟨_,rfl⟩,_,_,rfl,⟨_,rfl⟩,rfl⟩⟩⟩
section
variable {v:StV}{s l:Int}
theorem StV.Ok.pso (h:v.Ok s l):pQ (v.bs++v.fs):=λp hp=>(Sz.mp hp).elim (h.hnd p) (h.gth.ok p)
theorem StV.Ok.pok (h:v.Ok s l):∀q∈v.bs++v.fs,∀p∈q,p.ok:=λq hq p hp=>((h.pso q hq).1 p hp).okP.1
theorem StV.Ok.Ib (h:v.Ok s l):v.rf.length=v.rs.length:=by unfold StV.rf;rw[T5,h.len,TU]
theorem StV.Ok.rfm (h:v.Ok s l):∀x∈v.rf,x.1∈v.rs/\∃p∈v.bs++v.fs,x.2=some p/\cL x.1.2 p=true:=λx b=>by
 obtain⟨i,a⟩:=TJ b;unfold StV.rf at a;rw[SU]at a;obtain⟨p,e,c,d⟩:=h.MP a.1 a.2;exact⟨Sd a.1,p,c,e,d⟩
end
theorem vZ {p:List Pt} (b:∀x∈p,x.ok):∀{l:List ((Int×Str)×Option (List Pt))},(∀x∈l,∃q,x.2=some q/\∀y∈q,y.ok)->(l.map λx=>oP x.2).countP (λe=>Yd e (bx p))=l.countP λx=>decide (x.2=some p)
 | [],_=>rfl
 | a::l,h=>by
  obtain⟨q,e,d⟩:=h a (Sk ..);rw[Sv,Ti,Ti,vZ b λx c=>h x (Sf _ c),e];show _+(if Yd (bx q) (bx p)=true then 1 else 0)=_;rw[wx d b];simp
theorem GZ {v:StV}{s l lo hi:Int}{p:List Pt} (h:v.Ok s l) (b:p∈v.bs++v.fs):((v.rf.filter (jb lo hi)).map λx=>oP x.2).countP (λe=>Yd e (bx p))=cnt v lo hi p:=by
 refine vZ (h.pok p b) λx a=>?_;obtain⟨_,q,c,e,_⟩:=h.rfm x (SM.mp a).1;exact⟨q,e,h.pok q c⟩
end LG
namespace K26
open PySem L2 LG
section
variable {P:Z9}{w:Za}{K:Vz}{mg:Str->Option Vy}{base:Heap}{A:Ad}
def rfD (x:(Int×Str)×Option (List Pt)):Zb:=.tuple [Bb x.1,oP x.2]
def Lb (v:StV) (lo hi:Int) (p:List Pt):Zb:=.tuple [bx p,.int (cnt v lo hi p:Nat)]
theorem Cd {H:Hp}:∀{xs:List V}{ds:List Zb},xs.length=ds.length->(∀(i:Nat) x d,xs[i]? = some x->ds[i]? = some d->Den K H x d)->aE K H xs ds
 | [],[],_,_=>.nil
 | [],_::_,h,_=>by cases h
 | _::_,[],h,_=>by cases h
 | x::xs,d::ds,h,k=>.cons (k 0 x d rfl rfl) (Cd (Nat.succ.inj h) λi y e a b=>k (i+1) y e a b)
def cR (K:Vz) (A:Ad):Sp:=λvs H Q _=>∃(B:Hp) (g pa tb:Z6) (v:km),vs=[.ref g]/\bO K A.be A.aT B H g pa tb v/\∀(D:Z6) (acc:List V) (H':Hp),H D=none->af H H'->H' D=some (.lst acc)->aE K H' acc (v.cur.rf.map rfD)->Q (.ref D) H'
def gr (K:Vz) (A:Ad):Sp:=λvs H Q _=>∃(B:Hp) (g pa tb:Z6) (v:km) (lo hi:Int),vs=[.ref g,.int lo,.int hi]/\bO K A.be A.aT B H g pa tb v/\∀(D:Z6) (acc:List V) (H':Hp),H D=none->af H H'->H' D=some (.lst acc)->aE K H' acc ((v.cur.bs++v.cur.fs).map (Lb v.cur lo hi))->Q (.ref D) H'
theorem j3:aD ["self"] ["self"] (ag (mIn 54 4)):=by refine⟨rfl,rfl,rfl,?_,rfl,?_,?_⟩<;>decide +kernel
theorem fB (T:Tx K mg A):aA P w K mg base CX0 1 A.bF A.b8 ["self"] (cR K A):=by
 refine T.d7.fn.ok j3 (λZ H Q E h=>?_) (λ_ _ _ s H Z Q E hr h=>?_)
 ·obtain⟨B,g,pa,tb,v,rfl,_⟩:=h;rfl
 ·obtain⟨B,g,pa,tb,v,rfl,L,k⟩:=h;have c:=L.okc;obtain⟨F,t,m,_,_,_,U,_,_,e,_,_,_,_,_,n,_⟩:=L;obtain⟨j,V,_,_,f,b,_,_,a,G,q2,S,_,_,_,_,q8,R⟩:=n;have q:b.length=v.cur.rs.length:=by rw[S.length,R8]
  have u:a.length=v.cur.rs.length:=by rw[R.length,R8,c.len]
  have a0:=c.rl;refine⟨_,ak (aC (AB hr (by rfl) T.nr (by rfl) T.vw (aa (cw T.bP T.eu (cw T.a8 T.bg (pv 0))) (aa (cw T.bP T.iz (cw T.a8 T.bg (pv 0))) ae)))),?_⟩;refine⟨_,rfl,g,F,_,.ref m,rfl,U,rfl,m,j,_,.ref V,rfl,e _ _ G,rfl,_,rfl,g,F,_,.ref m,rfl,U,rfl,m,j,_,.ref f,rfl,e _ _ G,rfl,V,f,b,a,rfl,.of (e _ _ q2),.of (e _ _ q8),by lia,λD y H' hD s p hl AJ=>k D y H' hD s p (Cd ?_ λi x d J N=>?_)⟩
  ·rw[hl,q,u,TU,R8];unfold StV.rf;rw[T5,c.len,TU]
  ·rw[Se]at N;obtain⟨⟨r,o⟩,l,rfl⟩:=Option.map_eq_some_iff.mp N;unfold StV.rf at l;rw[SU]at l;have hi:=aG J;have I:b[i]? = some b[i]:=R9 (by lia);have W:a[i]? = some a[i]:=R9 (by lia);obtain⟨t,X,Y,_⟩:=AJ i _ _ hi I W;rw[J]at X;cases X;obtain⟨d1,M,C⟩:=S.get I;obtain⟨d2,O,z⟩:=R.get W;rw[Se,l.1]at M;rw[Se,l.2]at O;cases M;cases O;exact .tup (.of Y) (.cons ((C.same e).same s) (.cons ((z.same e).same s) .nil))
theorem mU:aD ["self","low","high","falls"] ["self","low","high"] (ag (mIn 54 16)):=by refine⟨rfl,rfl,rfl,?_,rfl,?_,?_⟩<;>decide +kernel
theorem jh (T:Tx K mg A):aA P w K mg base CX0 2 A.dP A.fm ["self","low","high"] (gr K A):=by
 have c8:aA P w K mg base CX0 1 _ _ _ _:=(fB T).mono (by decide);have bM:aA P w K mg base CX0 1 _ _ _ _:=(eF T).mono (by decide);refine T.ix.fn.ok mU (λvs H Q E h=>?_) (λ_ _ _ s H vs Q E hr h=>?_)
 ·obtain⟨B,g,pa,tb,v,f,b,rfl,_⟩:=h;rfl
 ·obtain⟨B,g,pa,tb,v,f,b,rfl,ck,k⟩:=h;have j:=ck.okc;have ao:=j.rl;have B7:v.cur.rf.length=v.cur.rs.length:=by unfold StV.rf;rw[T5,j.len,TU]
  obtain⟨dx,_,_,_,hg⟩:=ck.gg;refine⟨_,aj (bf (i:=3) mU.nd rfl (Or.inr rfl) (aU (N':=["fall","moment","line","low","high"]) (n:=3) (fi:=[1,2]) (g:=oY K 2 (cF (oY K 2 (cF (aN 1) (cF (aN 2) pH))) (cF (aN 0) pH))) rfl (aY (ag (mIn 54 16)) ["self","low","high","falls"] (by decide +kernel)) (aM (gv (pv 0) T.a8 T.eZ c8 hr T.d7.bd .nil ay)) (λs H fp=>c7 rfl (aI (c7 rfl (aI (av (i:=1) (show(["fall","moment","line","low","high"]:List Str).Nodup by decide +kernel) rfl (Or.inl rfl) (.inr rfl)) (aI (av (i:=2) (show(["fall","moment","line","low","high"]:List Str).Nodup by decide +kernel) rfl (Or.inl rfl) (.inr rfl)) bU))) (aI (av (i:=0) (show(["fall","moment","line","low","high"]:List Str).Nodup by decide +kernel) rfl (Or.inl rfl) (.inr rfl)) bU))) (λs H fp=>eC (oJ sX mW (pv 3) (pv 1) (pv 4))) (λs H fp=>pv 0)))
   (ak (aC (aU (N':=["pattern","falls"]) (n:=1) (fi:=[3]) (g:=aN 0) rfl (aY (ag (mIn 54 16)) ["self","low","high","falls"] (by decide +kernel)) (aM (gv (pv 0) T.a8 T.cX bM hr T.dW.bd .nil ay)) (λs H fp=>av (i:=0) (show(["pattern","falls"]:List Str).Nodup by decide +kernel) rfl (Or.inl rfl) (.inr rfl)) (λs H fp=>aL) (λs H fp=>dD (aa (pv 0) (aa (wO (K:=K) rfl (r:=wz K) Y9 YK PySem.F.type_list_count (vn hr) (pv 1) (aa (pv 0) ae)) ae)))))),?_⟩
  refine⟨_,rfl,g,dx,_,rfl,hg,rfl,B,g,pa,tb,v,rfl,ck,λRF J H1 _ s1 Y U=>?_⟩;refine⟨RF,rfl,⟨_,.of Y⟩,λFL a0=>?_⟩;have Mp:J.length=v.cur.rs.length:=by rw[U.length,R8,B7]
  refine aK (K:=K) (xs:=J) (λi a y H2=>(∃u w z,y=[u,w,z,some (.int f),some (.int b)])/\af H1 H2/\aE K H1 a (((v.cur.rf.take i).filter (jb f b)).map λx=>oP x.2)) ab ⟨⟨_,_,_,rfl⟩,af.new a0,.nil⟩ (λi a y H2 _ _ q=>.of (q.2.1 _ _ Y)) (λi x a y H2 O I q=>?_) (λ_ y H2 a5 q=>?_)
  ·obtain⟨⟨u,w,z,rfl⟩,l,C⟩:=q;obtain⟨d,W,bN⟩:=U.get O;rw[Se]at W;obtain⟨⟨r,o⟩,e1,rfl⟩:=Option.map_eq_some_iff.mp W;have a9:=aG O;have a7:a.length<=64:=by
    rw[C.length,R8];have t:=S0 (jb f b) (v.cur.rf.take i);rw[Sx]at t;lia
   cases bN with
   | tup ai X=>
    cases X with
    | cons d1 X=>
     cases X with
     | cons d2 X=>
      cases X;cases d1 with
      | tup ah m=>
       cases m with
       | cons a1 m=>
        cases m with
        | cons a2 m=>
         cases m;cases a1;cases a2;refine⟨_,_,rfl,l.gL ai,rfl,_,_,rfl,_,_,rfl,l.gL ah,rfl,_,_,rfl,_,_,rfl,rfl,_,_,rfl,rfl,?_⟩;have ht:v.cur.rf.take (i+1)=v.cur.rf.take i++[(r,o)]:=by rw[SG,e1];rfl
         rw[ht,S8,Sm];have R:jb f b (r,o)=false->aE K H1 a (((v.cur.rf.take i).filter (jb f b)).map (λx=>oP x.2)++([(r,o)].filter (jb f b)).map λx=>oP x.2):=λe=>by
          rw[TR,e,Zk Ss,List.filter_nil,Tw,S3];exact C
         refine⟨_,rfl,_,rfl,_,_,rfl,rfl,_,rfl,?_⟩;by_cases t:f<=r.1
         ·rw[show decide (f<=(r,o).1.1)=true from Zg t];refine b9 ⟨_,rfl,_,_,rfl,rfl,_,rfl,?_⟩;by_cases Z:r.1<b
          ·rw[show decide ((r,o).1.1<b)=true from Zg Z];refine b9 ⟨_,rfl,a,I,small (by lia),_,ab,⟨_,_,_,rfl⟩,ax a0 l,?_⟩;have e:jb f b (r,o)=true:=Zg ⟨t,Z⟩;rw[TR,e,Zj rfl];exact C.append (.cons d2 .nil)
          ·rw[show decide ((r,o).1.1<b)=false from Zh Z];exact br ⟨a,I,⟨_,_,_,rfl⟩,l,R (Zh λz=>Z z.2)⟩
         ·rw[show decide (f<=(r,o).1.1)=false from Zh t];exact br ⟨_,rfl,br ⟨a,I,⟨_,_,_,rfl⟩,l,R (Zh λz=>t z.1)⟩⟩
  ·obtain⟨_,l,M⟩:=q;rw[Mp,<-B7,Ta]at M;have N9:=ck.same (s1.trans l);refine⟨_,rfl,g,dx,_,rfl,l _ _ (s1 _ _ hg),rfl,B,g,pa,tb,v,rfl,N9,λPS pv H3 _ s3 N a3=>?_⟩;refine⟨PS,rfl,⟨_,.of N⟩,λD hD=>?_⟩;have NZ:pv.length=(v.cur.bs++v.cur.fs).length:=by rw[a3.length,R8]
   have Rl:(v.cur.bs++v.cur.fs).length<128:=by
    have t:=j.bl;have Z:=j.gth.lt;rw[Sj];lia
   have S:=s3 _ _ a5;have QD:=(M.same l).same s3;have QM:=a3.same dA;refine aK (K:=K) (xs:=pv) (λi a y H4=>(∃u,y=[u,some (.ref FL)])/\af H3 (wo D H4)/\aE K (wo D H4) a (((v.cur.bs++v.cur.fs).take i).map (Lb v.cur f b))) ab ⟨⟨_,rfl⟩,?_,.nil⟩ (λi a y H4 _ _ q=>.of (bc _ _ (q.2.1 _ _ N))) (λi x a y H4 O L q=>?_) (λa y H4 a4 q=>?_)
   ·intro c o e;rw[au (λz=>by rw[z,hD]at e;cases e),aq (λz=>by rw[z,hD]at e;cases e)];exact e
   ·obtain⟨q0,V,C⟩:=q;apply dJ q0;clear q0;intro u;obtain⟨d,W,bN⟩:=QM.get O;rw[Se]at W;obtain⟨p,e1,rfl⟩:=Option.map_eq_some_iff.mp W;have a9:=aG O;have G:af H3 H4:=V.trans bc;have a7:a.length<=i:=by
     rw[C.length,R8,Sx];lia
    refine cq ⟨_,rfl,_,rfl,.inl ⟨rfl,_,.of (G _ _ S)⟩,_,rfl,_,_,_,rfl,.lst (.of (G _ _ S)) (QD.same G),bN.same G,Sl (iG _) (by decide),(by show 2<=Zc;decide),λq hq=>?_⟩;rw[GZ j (Sd e1)];have hqD:D≠q:=λe=>by rw[<-e,L]at hq;cases hq
    have sW:af (wo D H4) (wo D (upd (upd H4 q (.tup [x,.int (cnt v.cur f b p:Nat)])) D (.lst (a++[.ref q])))):=λc o e=>by
     obtain⟨t,e⟩:=aZ e;rw[au t,aq t,aq λz=>by rw[z,hq]at e;cases e];exact e
    refine⟨a,by rw[aq hqD];exact L,small (by lia),_,ab,⟨_,rfl⟩,V.trans sW,?_⟩;rw[SG,e1,Sm];refine(C.same sW).append (.cons ?_ .nil);exact .tup (.of (by rw[au hqD.symm,aq hqD.symm];exact ab)) (.cons (bN.same (V.trans sW)) (.cons (.int _) .nil))
   ·obtain⟨_,V,C⟩:=q;rw[NZ,Ta]at C;have a6:=((s1.trans l).trans s3).trans (V.trans bc);exact k D a H4 (((s1.trans l).trans s3).free hD) a6 a4 (C.same bc)
end
end K26
namespace LG
open PySem L2
def HwL (H:Hp) (ys:List V) (m:List (Str×Nat)):Prop:=ys.length=m.length/\∀(i:Nat) x w,ys[i]? = some x->m[i]? = some w->∃a,x = .ref a/\H a=some (.tup [.str w.1,.int (w.2:Nat)])
theorem HwL.nil {H:Hp}:HwL H [] []:=⟨rfl,λi x w h=>by cases h⟩
theorem HwL.mono {H H':Hp}{ys:List V}{m:List (Str×Nat)} (h:HwL H ys m) (b:∀a t,H a=some (.tup t)->H' a=some (.tup t)):HwL H' ys m:=⟨h.1,λi x w c d=>by
 obtain⟨a,e,q⟩:=h.2 i x w c d;exact⟨a,e,b _ _ q⟩⟩
theorem HwL.snoc {H:Hp}{ys:List V}{m:List (Str×Nat)}{w:Str×Nat}{a:Z6} (h:HwL H ys m) (g:H a=some (.tup [.str w.1,.int (w.2:Nat)])):HwL H (ys++[.ref a]) (m++[w]):=⟨by rw[Sj,Sj,h.1];rfl,λi x u b c=>by
 by_cases d:i<ys.length
 ·rw[SW d]at b;rw[SW (by rw[<-h.1];exact d)]at c;exact h.2 i x u b c
 ·have e:=Tn.mp b;obtain⟨f,_⟩:=e;rw[Sj,Sw]at f;have:i=ys.length:=by lia
  subst this;rw[S1 (Sb _),US]at b;rw[h.1,S1 (Sb _),US]at c;cases b;cases c;exact⟨a,rfl,g⟩⟩
theorem IZ {l:List (Str×Nat)}{p:List Nat} (b:p.Perm (Y7 l.length)):∃m:List (Str×Nat),m.Perm l/\picked ((hoK l).map λkv=>kV kv.1) p=m.map λx=>V.str x.1:=by
 refine⟨p.map λi=>l.getD i (Yh,0),?_,?_⟩
 ·refine(b.map _).trans ?_;rw[show(Y7 l.length).map (λi=>l.getD i (Yh,0))=l from ?_];refine List.ext_getElem (by simp) λi _ c=>?_;rw[List.getElem_map,List.getElem_range,Sr,R9 c];rfl
 ·unfold picked;rw[SS];refine SK λi a=>?_;have a:=S5.mp (b.mem_iff.mp a);show YD _ i _=V.str (l.getD i _).1;rw[Sr,Sr];unfold hoK;rw[SS,Se,R9 a];rfl
theorem M8 {l:List (Str×Nat)} (b:(l.map (·.1)).Nodup) {x:Str×Nat} (hx:x∈l):eY (hoK l) (Sum.inr x.1)=some (.int (x.2:Nat)):=by
 have:l.find? (λy=>decide (y.1=x.1))=some x:=by
  induction l with
  | nil=>cases hx
  | cons a l c=>
   rw[Sv,Tq]at b;rw[Tg];rcases Su.mp hx with h | h
   ·subst h;rw[Zg rfl]
   ·rw[Zh λz=>b.1 (by rw[z];exact Si.mpr ⟨x,h,rfl⟩)];exact c b.2 h
 rw[E8,this];rfl
theorem GX {l m:List (Str×Nat)} (h:m.Perm l):(m.map (·.2)).sum=(l.map (·.2)).sum:=(h.map _).sum_nat
def gu (v:StV) (p:List Pt):List (List Str):=(v.rf.filter λx=>decide (x.2=some p)).map λx=>Y4 x.1.2 " "
theorem Jr {v:StV}{lo hi:Int}{p:List Pt} (h:∀q∈v.rs,lo<=q.1/\q.1<hi):cnt v lo hi p=(gu v p).length:=by
 have e:v.rf.filter (jb lo hi)=v.rf:=List.filter_eq_self.mpr λx a=>Zg (h _ (by unfold StV.rf at a;exact(Uz a).1));unfold cnt gu;rw[e,R8,List.countP_eq_length_filter]
theorem EO {v:StV}{s l:Int}{p:List Pt} (h:v.Ok s l):∀ws∈gu v p,ws.length=p.length/\∀w∈ws,Bd w:=λws a=>by
 unfold gu at a;obtain⟨x,b,rfl⟩:=Si.mp a;obtain⟨b,e⟩:=SM.mp b;obtain⟨g,q,_,d,f⟩:=h.rfm x b;rw[Zi e]at d;cases d;obtain⟨ws,c⟩:=h.lns _ g;refine⟨(Zi (Tt.mp f).1).symm,λw a=>?_⟩;rw[c.split]at a;have:=c.wd w a;exact⟨Sl this.len (by decide),this.ok⟩
theorem Cg {v:StV}{s l:Int}{p:List Pt} (h:v.Ok s l):(gu v p).length<64:=by
 unfold gu;rw[R8];have h1:=S0 (λx=>decide (x.2=some p)) v.rf;rw[h.Ib]at h1;have:=h.rl;lia
end LG
namespace K26
open PySem L2 LG
section
variable {P:Z9}{w:Za}{K:Vz}{mg:Str->Option Vy}{base:Heap}{A:Ad}
def oH (K:Vz) (A:Ad):Sp:=λvs H Q _=>∃(B:Hp) (g pa tb:Z6) (v:km) (x:V) (p:List Pt),vs=[.ref g,x]/\bO K A.be A.aT B H g pa tb v/\Den K H x (bx p)/\p∈v.cur.bs++v.cur.fs /\
 ∀(D:Z6) (as:List Z6) (H':Hp),H D=none->af H H'->H' D=some (.lst (as.map V.ref))->as.Nodup->D∉as->(∀a∈as,H a=none/\∃ys m,H' a=some (.lst ys)/\HwL H' ys m/\(m.map (·.2)).sum=(gu v.cur p).length/\ys.length<64)->Q (.ref D) H'
def oK (K:Vz):Sp:=λvs H Q _=>∃(a:Z6) (ws:List Str),vs=[.ref a]/\SqL K H a (ws.map V.str)/\ws.length<64/\∀(d:Z6) (l:List (Str×Nat)) (H':Hp),H d=none->af H H'->H' d=some (.dK (hoK l))->(l.map (·.1)).Nodup->(∀y,y∈l.map (·.1)↔y∈ws)->(l.map (·.2)).sum=ws.length->l.length<=ws.length->Q (.ref d) H'
def iX (K:Vz):Sp:=λvs H Q _=>∃(a:Z6) (ws:List Str),vs=[.ref a]/\SqL K H a (ws.map V.str)/\ws.length<64/\(∀w∈ws,Bd w)/\∀(D:Z6) (acc:List V) (m:List (Str×Nat)) (H':Hp),H D=none->af H H'->H' D=some (.lst acc)->HwL H' acc m->(m.map (·.2)).sum=ws.length->m.length<=ws.length->Q (.ref D) H'
theorem kq:aD ["things","many","thing"] ["things"] (ag (top 51)):=by refine⟨rfl,rfl,rfl,?_,rfl,?_,?_⟩<;>decide +kernel
theorem xh (T:Tx K mg A):aA P w K mg base CX0 1 A.lS A.l5 ["things"] (oK K):=by
 refine T.mj.fn.ok kq (λJ H Q E h=>?_) (λ_ _ _ s H J Q E z h=>?_)
 ·obtain⟨a,j,rfl,_⟩:=h;rfl
 ·obtain⟨a,j,rfl,v,_,k⟩:=h;refine⟨_,aj (bf (i:=1) kq.nd rfl (Or.inl rfl) zc)
   (aj (fT Ys rfl (aM (pv 0)) (av (i:=2) kq.nd rfl (Or.inl rfl)) (ak (Iu (FP z) (pv 1) (pv 2) (bw ed (FQ (FP z) (pv 1) (pv 2) ap ⟨rfl,rfl,rfl,rfl⟩) ap) rfl)))
   (ak (aC (pv 1)))),?_⟩
  intro d f;have t:SqL K (upd H d (.dK [])) a (j.map V.str):=(af.new f).seq v;refine⟨_,rfl,a,rfl,⟨_,t⟩,?_⟩;refine gz (K:=K) (xs:=j.map V.str) (λi n b=>(∃u,n=[some (.ref a),some (.ref d),u])/\af H b/\∃l:List (Str×Nat),b d=some (.dK (hoK l))/\(l.map (·.1)).Nodup/\(∀y,y∈l.map (·.1)↔y∈j.take i)/\(l.map (·.2)).sum=i/\l.length<=i) ⟨⟨_,rfl⟩,af.new f,[],ab,UC,λy=>⟨λh=>(by cases h),λh=>(by cases h)⟩,rfl,Sb _⟩ (λi n b _ p=>p.2.1.seq v) (λi x n b G p=>?_) (λn b p=>?_)
  ·obtain⟨⟨u,rfl⟩,q,l,e,o,g,m,c⟩:=p;obtain⟨w,B,rfl⟩:=e9 G;have L:=aG B;have D:x9 b d (kV (Sum.inr w)) (eY (hoK l) (Sum.inr w)):=.k e;have r:G8 b d (kV (Sum.inr w)) (.int ((oC l w:Nat)+1:Int)) _:=.k e (by unfold hoK;rw[R8];exact small (by lia));refine⟨_,rfl,d,rfl,.inl ⟨_,.of e⟩,_,rfl,_,D,((oC l w:Nat):Int),1,?_,rfl,_,rfl,_,rfl,d,_,rfl,r,?_⟩
   ·show Option.getD (eY (hoK l) (Sum.inr w)) (.int 0) = .int (oC l w:Nat);rw[E8];unfold oC;cases l.find? λx=>decide (x.1=w) <;> rfl
   ·rw[L3 o];obtain⟨F,I,C⟩:=JD (w:=w) o;refine⟨⟨_,rfl⟩,ax f q,qM l w,ab,F,λy=>?_,by rw[C,m],?_⟩
    ·rw[I y,g y,SG,B,Sz];exact or_congr Iff.rfl ⟨λh=>by rw[h];exact Sg.mpr rfl,λh=>Sg.mp h⟩
    ·unfold qM
     split
     ·rw[R8];lia
     ·rw[Sj,Sw];lia
  ·obtain⟨⟨u,rfl⟩,q,l,e,o,g,m,c⟩:=p;rw[R8]at g m c;exact⟨_,rfl,k d l b f q e o (λy=>by rw[g y,Ta]) m c⟩
theorem iK:aD ["words","many"] ["words"] (ag (top 52)):=by refine⟨rfl,rfl,rfl,?_,rfl,?_,?_⟩<;>decide +kernel
theorem pC (T:Tx K mg A):aA P w K mg base CX0 4 A.fR A.fL ["words"] (iX K):=by
 have zE:aA P w K mg base CX0 3 _ _ _ _:=(xh T).mono (by decide);have yG:aA P w K mg base CX0 1 _ _ _ _:=(qH T).mono (by decide);refine T.ff.fn.ok iK (λvs H Q E h=>?_) (λ_ _ _ s H vs Q E hr h=>?_)
 ·obtain⟨a,ws,rfl,_⟩:=h;rfl
 ·obtain⟨a,ws,rfl,B,F,a3,k⟩:=h;refine⟨_,aj (bf (i:=1) iK.nd rfl (Or.inr rfl) (ar zE hr (by rfl) T.mj.mg T.mj.fn.kp T.mj.bd .nil ay (aa (pv 0) ae)))
   (ak (aC (aU (N':=["word","many"]) (n:=1) (fi:=[1]) (g:=aN 0) rfl (aY (ag (top 52)) ["words","many"] (by decide +kernel)) (aM (Di (a:=.int) (r:=.cO .str .rn) .int yG hr T.jt.bd (by rfl) T.kU (by rfl) T.jt.mg (aa (pv 1) ae))) (λs H fp=>av (i:=0) (show(["word","many"]:List Str).Nodup by decide +kernel) rfl (Or.inl rfl) (.inr rfl)) (λs H fp=>aL) (λs H fp=>dD (aa (pv 0) (aa (Iy (FP hr) (pv 1) (pv 0) (λ_ _=>rfl)) ae)))))),?_⟩
  refine⟨_,rfl,a,ws,rfl,B,F,λd l S R s1 hl hn hm DZ a4=>?_⟩;refine⟨_,rfl,_,rfl,d,_,_,rfl,.of hl,rfl,by unfold hoK;rw[R8,R8];lia,?_⟩;have a0:∀x∈l,Bd x.1:=λx o=>a3 _ ((hm x.1).mp (Si.mpr ⟨x,o,rfl⟩));have I:((hoK l).map λkv=>kV kv.1)=l.map λx=>V.str x.1:=by unfold hoK;rw[SS];rfl
  refine qa (K:=K) (H0:=S) _ (l.map λx=>wkD x.1) [] [] S (by unfold hoK;rw[R8,R8,R8]) (af.refl S) .nil (λi x d2 G _ o M s2 kk=>?_) (λks G s2 d1=>?_)
  ·rw[I,Se]at o;obtain⟨y,e,rfl⟩:=Option.map_eq_some_iff.mp o;rw[Se,e]at M;cases M;have hb:=a0 y (Sd e);exact⟨y.1,rfl,Sl hb.1 (by decide),λp U=>kk _ _ (af.new U) (.tup (.of ab) (.cons (.int _) (.cons (.str hb.2) .nil)))⟩
  ·have a6:aE K G ks (l.map λx=>wkD x.1):=by simpa using d1
   refine⟨_,a6,λd R=>?_,λd R=>?_,λJ p Z U _=>?_⟩
   ·obtain⟨x,_,rfl⟩:=Si.mp R;exact Of _
   ·obtain⟨x,_,rfl⟩:=Si.mp R;exact Sl (LM _) (by decide)
   ·rw[I,R8]at U;obtain⟨m,v,em⟩:=IZ U;rw[em];have a5:m.length=l.length:=v.length_eq;refine⟨J,rfl,⟨_,.of ab⟩,λD W=>?_⟩;have X:af S (upd G J (.lst (m.map λx=>V.str x.1))):=s2.trans (af.new Z);have IV:(upd G J (.lst (m.map λx=>V.str x.1))) J=some (.lst (m.map λx=>V.str x.1)):=ab;generalize upd G J (HO.lst (m.map λx=>V.str x.1))=Hb at X IV W ⊢;refine aK (K:=K) (xs:=m.map λx=>V.str x.1) (λi b N j=>(∃u,N=[u,some (.ref d)])/\af Hb j/\HwL j b (m.take i)) ab ⟨⟨_,rfl⟩,af.new W,.nil⟩ (λi b N j _ _ q=>.of (q.2.1 _ _ IV)) (λi x b N j o f q=>?_) (λb N j Y q=>?_)
    ·obtain⟨q0,O,C⟩:=q;apply dJ q0;clear q0;intro u;rw[Se]at o;obtain⟨y,e,rfl⟩:=Option.map_eq_some_iff.mp o;have a7:=O _ _ (X _ _ hl);have hy:y∈l:=v.mem_iff.mp (Sd e);have hi:=aG e;have hg:x9 j d (kV (Sum.inr y.1)) (some (.int (y.2:Nat))):=by
      rw[<-M8 hn hy];exact .k a7
     refine cq ⟨_,rfl,_,rfl,_,rfl,d,_,rfl,hg,(by show 2<=Zc;decide),λq B=>?_⟩;have hqD:D≠q:=λe'=>by rw[<-e',f]at B;cases B
     have a8:b.length<=i:=by rw[C.1,Sx];lia
     refine⟨b,by rw[aq hqD];exact f,small (by lia),_,ab,⟨_,rfl⟩,ax W (O.trans (af.new B)),?_⟩;rw[SG,e];refine(C.mono λc t L=>?_).snoc (by rw[aq hqD.symm];exact ab);rw[aq (λz=>by rw[z,f]at L;cases L),aq (λz=>by rw[z,B]at L;cases L)];exact L
    ·obtain⟨_,O,C⟩:=q;rw[R8,Ta]at C;exact k D b m j ((s1.trans X).free W) ((s1.trans X).trans O) Y C (by rw[GX v,DZ]) (by rw[a5];exact a4)
theorem jP:aD ["self","pattern","rows","places"] ["self","pattern"] (ag (mIn 54 17)):=by refine⟨rfl,rfl,rfl,?_,rfl,?_,?_⟩<;>decide +kernel
theorem wY (T:Tx K mg A):aA P w K mg base CX0 5 A.iV A.lA ["self","pattern"] (oH K A):=by
 have bM:aA P w K mg base CX0 4 _ _ _ _:=(eF T).mono (by decide);have eV:aA P w K mg base CX0 4 _ _ _ _:=(iU T).mono (by decide);have qr:aA P w K mg base CX0 4 _ _ _ _:=(pC T).mono (by decide);have c8:aA P w K mg base CX0 4 _ _ _ _:=(fB T).mono (by decide);have dR:aA P w K mg base CX0 4 _ _ _ _:=(ij T).mono (by decide);refine T.vA.fn.ok jP (λvs H Q E h=>?_) (λ_ _ _ s H vs Q E hr h=>?_)
 ·obtain⟨B,g,pa,tb,v,x,p,rfl,_⟩:=h;rfl
 ·obtain⟨B,g,pa,tb,v,x,p,rfl,ck,bN,N,k⟩:=h;have y:=ck.okc;have cv:=y.rl;have B7:=y.Ib;obtain⟨dx,_,_,_,hg⟩:=ck.gg;obtain⟨a0,bj,rfl,bg,b4⟩:=fc bN;have cu:bj.length=p.length:=by rw[b4.length,R8]
  have K7:=(y.pso p N).2.2;refine⟨_,aj (bB (aP (r:=G3 K true) (vB hr) (pv 1) (gv (pv 0) T.a8 T.cX bM hr T.dW.bd .nil ay) (by rfl)) (ak e7) aO)
   (aj (bf (i:=2) jP.nd rfl (Or.inr rfl) (aU (N':=["fall","moment","line","pattern"]) (n:=3) (fi:=[1]) (g:=oY K 2 (cF (oY K 2 (cF (aN 1) (cF (aN 2) pH))) (cF (aN 0) pH))) rfl (aY (ag (mIn 54 17)) ["self","pattern","rows","places"] (by decide +kernel)) (aM (gv (pv 0) T.a8 T.eZ c8 hr T.d7.bd .nil ay)) (λs H J=>c7 rfl (aI (c7 rfl (aI (av (i:=1) (show(["fall","moment","line","pattern"]:List Str).Nodup by decide +kernel) rfl (Or.inl rfl) (.inr rfl)) (aI (av (i:=2) (show(["fall","moment","line","pattern"]:List Str).Nodup by decide +kernel) rfl (Or.inl rfl) (.inr rfl)) bU))) (aI (av (i:=0) (show(["fall","moment","line","pattern"]:List Str).Nodup by decide +kernel) rfl (Or.inl rfl) (.inr rfl)) bU))) (λs H J=>eC (aP (r:=ye K) (pW hr) (pv 0) (pv 3) (aQ _))) (λs H J=>ar eV hr (by rfl) T.words_of.mg T.words_of.fn.kp T.words_of.bd .nil ay (aa (pv 2) ae))))
   (aj (hJ (i:=3) (N':=["place","part"]) (n:=2) (fi:=[]) (g:=oY K 2 (cF (aN 0) (cF (aN 1) pH))) jP.nd rfl (Or.inl rfl) rfl (aY (ag (mIn 54 17)) ["self","pattern","rows","places"] (by decide +kernel)) (JF (by rfl) T.zH (aa (pv 1) ae)) (λs H J=>c7 rfl (aI (av (i:=0) (show(["place","part"]:List Str).Nodup by decide +kernel) rfl (Or.inl rfl) (.inr rfl)) (aI (av (i:=1) (show(["place","part"]:List Str).Nodup by decide +kernel) rfl (Or.inl rfl) (.inr rfl)) bU))) (λs H J=>eC (cU (ar dR hr (by rfl) T.cC.mg T.cC.fn.kp T.cC.bd .nil ay (aa (pv 1) ae)))) (λs H J=>pv 0))
   (ak (aC (aU (N':=["place","rows"]) (n:=1) (fi:=[2]) (g:=aN 0) rfl (aY (ag (mIn 54 17)) ["self","pattern","rows","places"] (by decide +kernel)) (aM (pv 3)) (λs H J=>av (i:=0) (show(["place","rows"]:List Str).Nodup by decide +kernel) rfl (Or.inr rfl) (.inl rfl)) (λs H J=>aL) (λs H J=>ar qr hr (by rfl) T.ff.mg T.ff.fn.kp T.ff.bd .nil ay (aa (aU (wi:=CD K (qX 1)) (N':=["words","place"]) (n:=1) (fi:=[0]) (g:=aN 0) rfl (ym (ag (mIn 54 17)) (by decide +kernel)) (aM (pv 1)) (λs H J=>av (i:=0) (show(["words","place"]:List Str).Nodup by decide +kernel) rfl (Or.inl rfl) (.inr rfl)) (λs H J=>aL) (λs H J=>bi (r:=dQ K) a9 (pv 0) (pv 1) (λ_ _=>rfl))) ae))))))),?_⟩
  refine⟨_,rfl,_,rfl,g,dx,_,rfl,hg,rfl,B,g,pa,tb,v,rfl,ck,λPS pv _ _ s1 c2 cn=>?_⟩;refine⟨_,_,.lst (.of c2) (cn.same dA),bN.same s1,Sl (iG _) (by decide),_,rfl,?_⟩;rw[Zj rfl,xW y.pok (y.pok p N),Zg N];refine br ?_;refine⟨_,rfl,g,dx,_,rfl,s1 _ _ hg,rfl,B,g,pa,tb,v,rfl,ck.same s1,λRF aw H2 _ s2 b5 ba=>?_⟩;refine⟨RF,rfl,⟨_,.of b5⟩,λR b2=>?_⟩;have Mp:aw.length=v.cur.rs.length:=by rw[ba.length,R8,B7]
  have be:=s1.trans s2;refine aK (K:=K) (xs:=aw) (λi f C H3=>(∃u w z,C=[u,w,z,some (.ref a0)])/\af H2 (wo R H3)/\aE K (wo R H3) f ((((v.cur.rf.take i).filter λx=>decide (x.2=some p)).map λx=>Y4 x.1.2 " ").map wsD)) ab ⟨⟨_,_,_,rfl⟩,?_,.nil⟩ (λi f C H3 _ _ q=>.of (bc _ _ (q.2.1 _ _ b5))) (λi x f C H3 W ai q=>?_) (λa6 C H3 c1 q=>?_)
  ·intro c o e;rw[au (λz=>by rw[z,b2]at e;cases e),aq (λz=>by rw[z,b2]at e;cases e)];exact e
  ·obtain⟨⟨u,w,z,rfl⟩,s3,dn⟩:=q;obtain⟨d,hd,bu⟩:=ba.get W;rw[Se]at hd;obtain⟨⟨r,o⟩,e1,rfl⟩:=Option.map_eq_some_iff.mp hd;have ct:=aG W;have G:af H2 H3:=s3.trans bc;have cp:f.length<=64:=by
    rw[dn.length,R8,R8];have F:=S0 (λx=>decide (x.2=some p)) (v.cur.rf.take i);rw[Sx]at F;lia
   obtain⟨bt,q,cg,eo,_⟩:=y.rfm _ (Sd e1);replace eo:o=some q:=eo;subst eo;obtain⟨ws,a5⟩:=y.lns _ bt;have F4:=a5.ok (by decide);cases bu with
   | tup cm ds=>
    cases ds with
    | cons d1 ds=>
     cases ds with
     | cons d2 ds=>
      cases ds;cases d1 with
      | tup cf M=>
       cases M with
       | cons a1 M=>
        cases M with
        | cons a2 M=>
         cases M;cases a1;cases a2 with
         | str _=>
         refine⟨_,_,rfl,G.gL cm,rfl,_,_,rfl,_,_,rfl,G.gL cf,rfl,_,_,rfl,_,_,rfl,rfl,_,_,rfl,rfl,?_⟩;have ht:v.cur.rf.take (i+1)=v.cur.rf.take i++[(r,some q)]:=by rw[SG,e1];rfl
         rw[ht,S8,Sm,Sm];refine⟨_,rfl,_,rfl,_,_,d2.same G,bN.same (be.trans G),Sl (iG _) (by decide),_,rfl,?_⟩;rw[show Yd (oP (r,some q).2) (bx p)=decide (q=p)from wx (y.pok q cg) (y.pok p N)];by_cases F:q=p
         ·subst F;rw[show[(r,some q)].filter (λx=>decide (x.2=some q))=[(r,some q)]from TL (Zg rfl),Zg (show q=q from rfl)];refine b9 ⟨_,rfl,_,rfl,Sl F4.2 (by decide),λl hl=>?_⟩;have ap:R≠l:=λe=>by rw[<-e,ai]at hl;cases hl
          have sW:af (wo R H3) (wo R (upd (upd H3 l (.lst ((Y4 r.2 " ").map V.str))) R (.lst (f++[.ref l])))):=λc o e=>by
           obtain⟨F,e⟩:=aZ e;rw[au F,aq F,aq λz=>by rw[z,hl]at e;cases e];exact e
          refine⟨f,by rw[aq ap];exact ai,small (by lia),_,ab,⟨_,_,_,rfl⟩,s3.trans sW,(dn.same sW).append (.cons ?_ .nil)⟩;refine .lst (.of (by rw[au ap.symm,aq ap.symm];exact ab)) (mi λw I=>?_);replace I:w∈Y4 (r,some q).1.2 " " :=I;rw[a5.split]at I;exact(a5.wd w I).ok
         ·have h2:¬ (r,some q).2=some p:=λe=>F (Ye e);rw[show[(r,some q)].filter (λx=>decide (x.2=some p))=[]from TM (λe=>h2 (Zi e)),Zh F,Tw,Tw,S3];exact br ⟨f,ai,⟨_,_,_,rfl⟩,s3,dn⟩
  ·obtain⟨_,s3,U⟩:=q;rw[Mp,<-B7,Ta]at U;replace U:aE K (wo R H3) a6 ((gu v.cur p).map wsD):=U;have G:af H2 H3:=s3.trans bc;have az:=U.same bc;have Z:=be.trans G;refine⟨_,rfl,a0,rfl,⟨_,Z.seq bg⟩,λPL b6=>?_⟩;refine DQ (K:=K) (xs:=bj) (λi f C H4=>(∃u w,C=[u,w])/\af H3 H4/\∃ns:List Nat,f=ns.map nV/\(∀n∈ns,n<p.length)/\ns.length<=i) ab ⟨⟨_,_,rfl⟩,af.new b6,[],rfl,(λn hn=>by cases hn),Sb _⟩ (λi f C H4 _ _ q=>(Z.trans q.2.1).seq bg) (λi x f C H4 t W a3 q ht=>?_) (λ_ C H4 b7 q=>?_)
   ·obtain⟨⟨u,w,rfl⟩,s4,ns,rfl,hn,b1⟩:=q;obtain⟨pt,cj,bo⟩:=jW b4 W;have hi:=aG cj;have st:af H4 (upd H4 t (.tup [.int i,x])):=af.new ht;refine⟨t,_,rfl,.of ab,rfl,_,_,rfl,_,_,rfl,rfl,_,rfl,x,pt,rfl,bo.same ((Z.trans s4).trans st),_,rfl,?_⟩;have X:=st _ _ a3;have S:=s4.trans st;cases pt with
    | word w=>exact br ⟨_,X,⟨_,_,rfl⟩,S,ns,rfl,hn,Nat.le_succ_of_le b1⟩
    | hole m=>
     refine b9 ⟨_,rfl,_,X,small (by rw[R8];lia),_,ab,⟨_,_,rfl⟩,ax b6 S,ns++[i],by rw[Sm];rfl,λn hm=>?_,by rw[Sj,Sw];lia⟩;rcases Sz.mp hm with h | h
     ·exact hn n h
     ·rw[Sg.mp h];exact hi
   ·obtain⟨_,s4,ns,rfl,hn,b1⟩:=q;have a4:=Z.trans s4;have c3:=s4 _ _ c1;have Qn:=az.same s4;have Oe:=Cg (p:=p) y;have c0:a6.length=(gu v.cur p).length:=by rw[az.length,R8]
    refine⟨_,rfl,PL,rfl,⟨_,.of b7⟩,λD hD=>?_⟩;refine aK (K:=K) (xs:=ns.map nV) (λi f C H5=>(∃u,C=[u,some (.ref R)])/\af H4 H5/\∃as:List Z6,f=as.map V.ref/\as.length<=i/\as.Nodup/\D∉as/\∀a∈as,H4 a=none/\∃ys m,H5 a=some (.lst ys)/\HwL H5 ys m/\(m.map (·.2)).sum=(gu v.cur p).length/\ys.length<64) ab ⟨⟨_,rfl⟩,af.new hD,[],rfl,Sb _,UC,Ts,λa ha=>(by cases ha)⟩ (λi f C H5 _ _ q=>.of (q.2.1 _ _ b7)) (λi x f C H5 W a3 q=>?_) (λf C H5 X q=>?_)
    ·obtain⟨q0,S,as,rfl,QX,a7,O,Y⟩:=q;apply dJ q0;clear q0;intro u;rw[Se]at W;obtain⟨n,en,rfl⟩:=Option.map_eq_some_iff.mp W;have cs:=hn n (Sd en);have hi:=aG en;have bk:=S _ _ c3;have Ql:=Qn.same S;refine cq ⟨_,rfl,R,rfl,⟨_,.of bk⟩,λIN b0=>?_⟩;refine aK (K:=K) (xs:=a6) (λj f C H6=>(∃u,C=[u,some (.int (n:Nat))])/\af H5 H6/\f=(wAt ((gu v.cur p).take j) n).map V.str) ab ⟨⟨_,rfl⟩,af.new b0,rfl⟩ (λj f C H6 _ _ q=>.of (q.2.1 _ _ bk)) (λj x f C H6 W c6 q=>?_) (λf C H6 bb q=>?_)
     ·obtain⟨q0,s6,rfl⟩:=q;apply dJ q0;clear q0;intro u;obtain⟨ws,r,I,rfl,c5⟩:=pe Ql W;have zm:=(EO y ws (Sd I)).1;have hj:=aG I;have cc:n<ws.length:=by lia
      have bz:(ws.map V.str)[n]? = some (.str (ws.getD n Yh)):=by rw[Se,Sr,R9 cc];rfl
      refine cq ⟨_,rfl,_,rfl,r,_,_,_,rfl,rfl,s6.seq c5,cA bz,_,c6,small (by unfold wAt;rw[R8,R8,Sx];lia),_,ab,⟨_,rfl⟩,ax b0 s6,?_⟩;rw[zO I,Sm];rfl
     ·obtain⟨_,s6,rfl⟩:=q;rw[c0,So (Sb _)]at bb;have b3:(wAt (gu v.cur p) n).length=(gu v.cur p).length:=by unfold wAt;rw[R8]
      refine⟨IN,wAt (gu v.cur p) n,rfl,.of bb,by rw[b3];exact Oe,λw I=>?_,λL bw m H7 hL s7 c4 bl DZ cb=>?_⟩
      ·unfold wAt at I;obtain⟨ws,bq,rfl⟩:=Si.mp I;obtain⟨F,h2⟩:=EO y ws bq;rw[Sr,R9 (by lia)];exact h2 _ (S7 _)
      ·have ah:=s6 _ _ a3;have bh:D≠L:=λe=>by rw[<-e,ah]at hL;cases hL
       have ao:=s6.trans s7;rw[b3]at DZ cb;refine⟨_,s7 _ _ ah,small (by rw[R8];have:=aG en;lia),_,ab,⟨_,rfl⟩,ax hD (S.trans ao),as++[L],by rw[Sm];rfl,by rw[Sj,Sw];lia,?_,?_,λa ha=>?_⟩
       ·rw[Tv];refine⟨a7,by simp,λa ha b hb e=>?_⟩;obtain⟨_,ys,m',F,_⟩:=Y a ha;have bp:=Sg.mp hb;rw[e,bp]at F;rw[s6 _ _ F]at hL;cases hL
       ·intro hm;rcases Sz.mp hm with h | h
        ·exact O h
        ·exact bh (Sg.mp h)
       ·have up:∀c t,H7 c=some (.tup t)->(upd H7 D (.lst (as.map V.ref++[.ref L]))) c=some (.tup t):=λc t e=>by
         rw[aq λz=>by rw[z,s7 _ _ ah]at e;cases e];exact e
        rcases Sz.mp ha with h | h
        ·obtain⟨h0,ys,m',F,h2,h3,h4⟩:=Y a h;have c9:a≠D:=λe=>O (e ▸ h);exact⟨h0,ys,m',by rw[aq c9];exact ao _ _ F,h2.mono λc t e=>up c t (ao _ _ e),h3,h4⟩
        ·have h:=Sg.mp h;subst h;exact⟨(S.trans s6).free hL,bw,m,by rw[aq bh.symm];exact c4,bl.mono up,DZ,by rw[bl.1];lia⟩
    ·obtain⟨_,S,as,rfl,QX,a7,O,Y⟩:=q;exact k D as H5 (a4.free hD) (a4.trans S) X a7 O λa ha=>by
      obtain⟨h0,F⟩:=Y a ha;exact⟨a4.free h0,F⟩
end
end K26
namespace L2
open PySem PySem.Spec PyProof.Rows PySem.W
section
variable {X:Cx}
def Kj (K:Vz):List V->Hp->VK->Prop:=λvs H Q=>∃l,∃ns:List Int,vs=[.ref l]/\SqL K H l (ns.map V.int)/\ns.length<64/\∀(D:Z6) (ms:List Int),H D=none->ms.Perm ns->ms.Pairwise (· <= ·)->Q (.ref D) (upd H D (.lst (ms.map V.int)))
theorem wQ {k:Nat} (R:bI k X.A):gQ X (.builtin "sorted") (Kj X.K):=by
 intro b s J H _ _ Q I D h;obtain⟨l,ns,rfl,M,_,q⟩:=h;obtain⟨u,rfl,E⟩:=D.one;cases E;obtain⟨vs,j,F,_⟩:=I.list M;have t:ns.length=vs.length:=by have:=j.length;rwa [R8]at this
 (refine Calls.call_function_entry kind_sorted plain_sorted entry_sorted (args_sorted1 _) ?_)
 unfold Builtin.«sorted»
 (refine Vw (m:=checkCount "sorted" 1 1 _) (Vv ?_))
 refine Vw (collect_list F.isList ?_ (by rw[sizeLine_eq];lia))
 (refine Vw (wpAny_newList ?_ (by rw[sizeLine_eq];lia)))
 have n:=k7 s.heap vs;have c:=wm s.heap vs;have a:=qx s.heap vs;show Zd _ _ (_ >>= λ_=>_) _ _ { s with heap:=(je s.heap vs).push (seqObj "list" vs.toArray 0) };rw[show((s.heap.push (seqObj "list" #[] 0)).update s.heap.objs.size (Y8 (· ++ vs.toArray))).objs.size=s.heap.objs.size+1 from n]
 generalize(je s.heap vs).push (seqObj "list" vs.toArray 0)=h2 at c a ⊢;have P:Inv X b J H { s with heap:=h2 }:=I.kept (t':=s.toks) a;have f:H (s.heap.objs.size+1)=none:=I.hok.fresh (TB _);have w:b6 X b H (s.heap.objs.size+1):=I.o8 (TB _) f
 (refine Vw (Vs (wpAny_call_entry slot_list_sort ⟨_,c,rfl⟩ entry_list_sort ?body (args_list_sort _))))
 case body=>
  refine yX (s:={ s with heap:=h2 }) (ds:=ns.map PyData.int) P c w j (λv G _ h2 B=>BA j v G h2 B) (by lia) λp _ d o r=>?_;refine⟨_,rfl,Vv ⟨_,rfl,?_⟩⟩;rw[R8]at d;have g:∀i∈p,i<ns.length:=λi e=>by have:=d.mem_iff.mp e;simpa using this
  have C:picked (ns.map V.int) p=(p.map λi=>ns.getD i 0).map V.int:=by
   unfold picked;rw[SS];refine SK λi e=>?_;simp[Sr,g i e]
  have N:(p.map λi=>(ns.map PyData.int).getD i .none)=(p.map λi=>ns.getD i 0).map PyData.int:=by
   rw[SS];refine SK λi e=>?_;simp[Sr,g i e]
  have L:(p.map λi=>ns.getD i 0).Pairwise (· <= ·):=by
   unfold fE at o;rw[N,Tu]at o;refine o.imp λ{x y} z=>?_;have O:decide (y<x)=false:=z;rw[decide_eq_false_iff_not]at O;lia
  rw[C]at r;exact⟨.ref _,_,r,rfl,q _ _ f (HW d) L⟩
end
end L2
namespace LG
open PySem L2
theorem wk (ns:List Int):Yd (.list (ns.map PyData.int)) (.list (ns.map PyData.int))=true:=by
 have a:(Sh.list .int).has (.list (ns.map PyData.int)):=⟨_,rfl,λx b=>by
  obtain⟨q,_,rfl⟩:=Si.mp b;exact⟨_,rfl⟩⟩
 exact((Sh.ok (.list .int)).eqv _ _ a a).mpr rfl
theorem EC (pss:List (List Pt)):Yd (.list (pss.map bx)) (.list (pss.map bx))=true:=((Sh.ok J7).eqv _ _ (zA _) (zA _)).mpr rfl
theorem k8 {K:Vz}{H:Hp}:∀(ns:List Int),aE K H (ns.map V.int) (ns.map PyData.int)
 | []=>.nil
 | _::ns=>.cons (.int _) (k8 ns)
theorem yy (ns:List Int):(PyData.list (ns.map PyData.int)).depth<=100:=by
 have h:∀ns:List Int,Y6 (ns.map PyData.int)<=1:=λns=>by
  induction ns with
  | nil=>simp[Y6]
  | cons a r b=>simp[Y6,Yy]at b ⊢;lia
 have:=h ns;simp only[Yy];lia
def gH (v:StV) (lo hi:Int):List Int:=(v.bs++v.fs).map λp=>((cnt v lo hi p:Nat):Int)
theorem gG (v:StV) (lo hi:Int):(gH v lo hi).length=(v.bs++v.fs).length:=R8 ..
theorem CJ {v:StV}{lo hi:Int}{i:Nat}{p:List Pt} (h:(v.bs++v.fs)[i]? = some p):(gH v lo hi)[i]? = some ((cnt v lo hi p:Nat):Int):=by
 unfold gH;rw[Se,h];rfl
theorem pT {v:StV}{lo hi:Int}{i:Nat}{p:List Pt} (h:(v.bs++v.fs)[i]? = some p):(gH v lo hi).take (i+1)=(gH v lo hi).take i++[((cnt v lo hi p:Nat):Int)]:=by
 rw[SG,CJ h];rfl
theorem Md {v:StV}{s l lo hi:Int}{p:List Pt} (h:v.Ok s l):cnt v lo hi p<=64:=by
 unfold cnt;have b:=List.countP_le_length (p:=λx=>decide (x.2=some p)) (l:=v.rf.filter (jb lo hi));have a:=S0 (jb lo hi) v.rf;rw[h.Ib]at a;have:=h.rl;lia
theorem i3 {v:StV}{s l lo hi:Int} (h:v.Ok s l):(∀i∈gH v lo hi,0<=i/\i<=1000000)/\(gH v lo hi).length<128:=by
 constructor
 ·intro i a;obtain⟨p,_,rfl⟩:=Si.mp a;have:=Md (lo:=lo) (hi:=hi) (p:=p) h;lia
 ·rw[gG,Sj];have b:=h.bl;have c:=h.gth.lt;lia
theorem pA {α:Type} (f:α->Nat):∀l:List α,(l.map λp=>((f p:Nat):Int)).sum=(((l.map f).sum:Nat):Int)
 | []=>rfl
 | a::l=>by rw[Sv,S2,Sv,S2,pA f l];lia
theorem vF {v:StV}{lo hi:Int} (h:hi<=lo):(gH v lo hi).sum=0:=by
 unfold gH;rw[pA λp=>cnt v lo hi p,show((v.bs++v.fs).map λp=>cnt v lo hi p)=(v.bs++v.fs).map λ_=>0 from SK λp _=>cnt_none h];generalize v.bs++v.fs=l
 induction l with
 | nil=>rfl
 | cons a l _=>rw[Sv,S2];lia
def cu (v:StV):List Int:=v.rs.map (·.1)
theorem F8 {v:StV}{s l:Int} (h:v.Ok s l):cu v=v.rf.map λx=>x.1.1:=by
 unfold cu StV.rf;show _=(v.rs.zip v.os).map ((λy:Int×Str=>y.1) ∘ λx:(Int×Str)×Option (List Pt)=>x.1);rw[<-SS,show(v.rs.zip v.os).map (λx=>x.1)=v.rs from List.map_fst_zip (by rw[h.len];exact Sb _)]
theorem FC {v:StV}{s l lo hi:Int} (h:v.Ok s l) (a:v.bs.Nodup):(gH v lo hi).sum=(((cu v).filter λm=>decide (lo<=m/\m<hi)).length:Nat):=by
 unfold gH;rw[pA λp=>cnt v lo hi p,Js h a,F8 h,List.filter_map,R8];rfl
theorem Lh {v:StV}{s l:Int} (h:v.Ok s l) {i:Nat}{m:Int} (hi:(cu v)[i]? = some m):∃z p,v.rf[i]? = some ((m,z),some p)/\v.os[i]? = some (some p)/\p∈v.bs++v.fs:=by
 rw[F8 h,Se]at hi;obtain⟨⟨⟨_,z⟩,o⟩,e,rfl⟩:=Option.map_eq_some_iff.mp hi;obtain⟨_,p,c,d,_⟩:=h.rfm _ (Sd e);have a:o=some p:=d;subst a;have b:=e;unfold StV.rf at b;rw[SU]at b;exact⟨z,p,e,b.2,c⟩
theorem yz {m am:Int}{z:Str}{o:Option (List Pt)}:jb am (am+1) ((m,z),o)=decide (m=am):=by
 unfold jb;rw[SR,decide_eq_true_eq,decide_eq_true_eq];show am<=m/\m<am+1↔m=am;lia
end LG
namespace K26
open PySem L2 LG
section
variable {P:Z9}{w:Za}{K:Vz}{mg:Str->Option Vy}{base:Heap}{A:Ad}
def ou (K:Vz) (A:Ad):Sp:=λvs H Q _=>∃(B:Hp) (g pa tb:Z6) (v:km) (lo hi:Int),vs=[.ref g,.int lo,.int hi]/\bO K A.be A.aT B H g pa tb v/\∀(D:Z6) (H':Hp),H D=none->af H H'->H' D=some (.lst ((gH v.cur lo hi).map V.int))->Q (.ref D) H'
def gP (K:Vz) (A:Ad):Sp:=λvs H Q _=>∃(B:Hp) (g pa tb M C:Z6) (v:km) (a b c:Int),vs=[.ref g,.ref M,.ref C]/\bO K A.be A.aT B H g pa tb v/\v.cur.bs.Nodup/\SqL K H M ((cu v.cur).map V.int)/\SqL K H C ([a,b,c].map V.int)/\∀(H':Hp),af H H'->Q (.bl true) H'
theorem x8 {H:Hp}{x:V}{v:StV}{lo hi:Int}{p:List Pt} (h:Den K H x (Lb v lo hi p)):∃(a:Z6) (y:V),x = .ref a/\SqT K H a [y,.int ((cnt v lo hi p:Nat):Int)]/\Den K H y (bx p):=by
 cases h with
 | tup c b=>
  cases b with
  | cons d1 b=>
   cases b with
   | cons d2 b=>
    cases b;cases d2;exact⟨_,_,rfl,c,d1⟩
theorem xq:aD ["log","low","high"] ["log","low","high"] (ag (top 64)):=by refine⟨rfl,rfl,rfl,?_,rfl,?_,?_⟩<;>decide +kernel
theorem xX (T:Tx K mg A):aA P w K mg base CX0 3 A.kT A.lG ["log","low","high"] (ou K A):=by
 have S:aA P w K mg base CX0 2 _ _ _ _:=(jh T).mono (by decide);refine T.bp.fn.ok xq (λvs H Q E h=>?_) (λ_ _ _ s H vs Q E hr h=>?_)
 ·obtain⟨B,g,L,M,v,lo,hi,rfl,_⟩:=h;rfl
 ·obtain⟨B,g,L,M,v,lo,hi,rfl,C,k⟩:=h;have r:=C.okc;obtain⟨X,_,_,_,R⟩:=C.gg;refine⟨_,ak (aC (aU (N':=["pattern","many"]) (n:=2) (fi:=[]) (g:=oY K 2 (cF (aN 0) (cF (aN 1) pH))) rfl (aY (ag (top 64)) ["log","low","high"] (by decide +kernel)) (aM (fk (pv 0) T.a8 T.gf S hr T.ix.bd .nil ay (aa (pv 1) (aa (pv 2) ae)))) (λs H J=>c7 rfl (aI (av (i:=0) (show(["pattern","many"]:List Str).Nodup by decide +kernel) rfl (Or.inl rfl) (.inr rfl)) (aI (av (i:=1) (show(["pattern","many"]:List Str).Nodup by decide +kernel) rfl (Or.inl rfl) (.inr rfl)) bU))) (λs H J=>aL) (λs H J=>pv 1))),?_⟩;refine⟨_,rfl,g,X,_,rfl,R,rfl,_,rfl,_,rfl,B,g,L,M,v,lo,hi,rfl,C,λY I W _ N e j=>?_⟩;refine⟨Y,rfl,⟨_,.of e⟩,λD t=>?_⟩;have o:I.length=(v.cur.bs++v.cur.fs).length:=by rw[j.length,R8]
  have O:=(i3 (lo:=lo) (hi:=hi) r).2;rw[gG]at O;refine aK (K:=K) (xs:=I) (λi b m c=>(∃u w,m=[u,w])/\af W c/\b=((gH v.cur lo hi).take i).map V.int) ab ⟨⟨_,_,rfl⟩,af.new t,rfl⟩ (λi b m c _ _ q=>.of (q.2.1 _ _ e)) (λi x b m c U z q=>?_) (λb m c f q=>?_)
  ·obtain⟨⟨u,w,rfl⟩,l,rfl⟩:=q;obtain⟨d,F,bN⟩:=j.get U;rw[Se]at F;obtain⟨p,G,rfl⟩:=Option.map_eq_some_iff.mp F;have a0:=aG G;obtain⟨a,y,rfl,Z,_⟩:=x8 bN;refine⟨a,_,rfl,l.gL Z,rfl,_,_,rfl,_,_,rfl,rfl,?_⟩;refine⟨_,rfl,_,z,small (by rw[R8,Sx];lia),_,ab,⟨_,_,rfl⟩,ax t l,?_⟩;rw[pT G,Sm];rfl
  ·obtain⟨_,l,rfl⟩:=q;rw[o,<-gG v.cur lo hi,Ta]at f;exact k D c (N.free t) (N.trans l) f
theorem ba:aD ["log","moments","cuts","low","amid","high","whole","parts","patterns","under","due"] ["log","moments","cuts"] (ag (top 65)):=by refine⟨rfl,rfl,rfl,?_,rfl,?_,?_⟩<;>decide +kernel
theorem mN (T:Tx K mg A):aA P w K mg base CX0 4 A.eP A.eM ["log","moments","cuts"] (gP K A):=by
 have eW:aA P w K mg base CX0 3 _ _ _ _:=(xX T).mono (by decide);have zY:aA P w K mg base CX0 3 _ _ _ _:=(xf T).mono (by decide);have dY:aA P w K mg base CX0 3 _ _ _ _:=(jh T).mono (by decide);have bM:aA P w K mg base CX0 3 _ _ _ _:=(eF T).mono (by decide);refine T.dS.fn.ok ba (λvs H Q E h=>?_) (λ_ _ _ s H vs Q E I h=>?_)
 ·obtain⟨B,g,pa,tb,M,C,v,a,b,c,rfl,_⟩:=h;rfl
 ·obtain⟨B,g,pa,tb,M,C,v,a,b,c,rfl,ck,bt,hqM,hqC,k⟩:=h;have G:=ck.okc;have c6:(cu v.cur).length=v.cur.rs.length:=R8 ..;have cb:=G.rl;obtain⟨dx,_,_,_,hg⟩:=ck.gg;refine⟨_,aj (nv (aH (r:=Kj K) (wQ I) (by rfl) T.kU p5 (aa (pv 2) ae)) (IU rfl (aI (av (i:=3) ba.nd rfl (Or.inr rfl)) (aI (av (i:=4) ba.nd rfl (Or.inr rfl)) (aI (av (i:=5) ba.nd rfl (Or.inr rfl)) bU)))))
   (aj (bf (i:=6) ba.nd rfl (Or.inl rfl) (ar eW I (by rfl) T.bp.mg T.bp.fn.kp T.bp.bd .nil ay (aa (pv 0) (aa (pv 3) (aa (pv 5) ae)))))
   (aj (bf (i:=7) ba.nd rfl (Or.inl rfl) (bC (aa (ar eW I (by rfl) T.bp.mg T.bp.fn.kp T.bp.bd .nil ay (aa (pv 0) (aa (pv 3) (aa (pv 4) ae)))) (aa (ar eW I (by rfl) T.bp.mg T.bp.fn.kp T.bp.bd .nil ay (aa (pv 0) (aa (pv 4) (aa (pv 5) ae)))) ae))))
   (aj (bB (aP (r:=Oc K) (L8 I) (aU (N':=["one","other"]) (n:=2) (fi:=[]) (g:=oY K 2 (cF (aN 0) (cF (aN 1) pH))) rfl (aY (ag (top 65)) ["log","moments","cuts","low","amid","high","whole","parts","patterns","under","due"] (by decide +kernel)) (sQ (by rfl) T.vw (aa (bi (r:=dQ K) a9 (pv 7) ap (λ_ _=>rfl)) (aa (bi (r:=dQ K) a9 (pv 7) ap (λ_ _=>rfl)) ae))) (λs H O=>c7 rfl (aI (av (i:=0) (show(["one","other"]:List Str).Nodup by decide +kernel) rfl (Or.inl rfl) (.inr rfl)) (aI (av (i:=1) (show(["one","other"]:List Str).Nodup by decide +kernel) rfl (Or.inl rfl) (.inr rfl)) bU))) (λs H O=>aL) (λs H O=>bw ed (pv 0) (pv 1))) (pv 6) (aQ _)) (ak (aC kF)) aO)
   (aj (bB (aP m5 (aH (r:=EX K) (oU I.hd) (by rfl) T.Ck xK (aa (pv 6) ae)) (aH (r:=d4 K) bh (by rfl) T.dv Yb (aa (aU (N':=["moment","low","high"]) (n:=1) (fi:=[3,5]) (g:=aN 0) rfl (aY (ag (top 65)) ["log","moments","cuts","low","amid","high","whole","parts","patterns","under","due"] (by decide +kernel)) (aM (pv 1)) (λs H O=>av (i:=0) (show(["moment","low","high"]:List Str).Nodup by decide +kernel) rfl (Or.inl rfl) (.inr rfl)) (λs H O=>eC (oJ sX mW (pv 1) (pv 0) (pv 2))) (λs H O=>pv 0)) ae)) (aQ _)) (ak (aC kF)) aO)
   (aj (bB ((pw_or (aP m5 (bw Bp (aH (r:=EX K) (oU I.hd) (by rfl) T.Ck xK (aa (ar eW I (by rfl) T.bp.mg T.bp.fn.kp T.bp.bd .nil ay (aa (pv 0) (aa (pv 5) (aa (pv 3) ae)))) ae)) (ia DN (by rfl) T.OP L6 (aa (cQ mW (pv 3) (pv 5) (aQ _)) ae))) ap (aQ _)) (pw_or1 (aP m5 (aH (r:=EX K) (oU I.hd) (by rfl) T.Ck xK (aa (ar eW I (by rfl) T.bp.mg T.bp.fn.kp T.bp.bd .nil ay (aa (pv 0) (aa (pv 4) (aa (pv 4) ae)))) ae)) ap (aQ _)))).pt) (ak (aC kF)) aO)
   (aj (hJ (i:=8) (N':=["pattern","many"]) (n:=2) (fi:=[]) (g:=oY K 2 (cF (aN 0) (cF (aN 1) pH))) ba.nd rfl (Or.inl rfl) rfl (aY (ag (top 65)) ["log","moments","cuts","low","amid","high","whole","parts","patterns","under","due"] (by decide +kernel)) (aM (fk (pv 0) T.a8 T.gf dY I T.ix.bd .nil ay (aa (pv 3) (aa (pv 5) ae)))) (λs H O=>c7 rfl (aI (av (i:=0) (show(["pattern","many"]:List Str).Nodup by decide +kernel) rfl (Or.inl rfl) (.inr rfl)) (aI (av (i:=1) (show(["pattern","many"]:List Str).Nodup by decide +kernel) rfl (Or.inl rfl) (.inr rfl)) bU))) (λs H O=>aL) (λs H O=>pv 0))
   (aj (bf (i:=9) ba.nd rfl (Or.inr rfl) (aU (N':=["number","log","amid","moments"]) (n:=1) (fi:=[0,4,1]) (g:=aN 0) rfl (aY (ag (top 65)) ["log","moments","cuts","low","amid","high","whole","parts","patterns","under","due"] (by decide +kernel)) (dN (by rfl) T.g6 (aa (aH (r:=d4 K) bh (by rfl) T.dv Yb (aa (pv 1) ae)) ae)) (λs H O=>av (i:=0) (show(["number","log","amid","moments"]:List Str).Nodup by decide +kernel) rfl (Or.inl rfl) (.inr rfl)) (λs H O=>eC (aP iS (bi (r:=dQ K) a9 (pv 3) (pv 0) (λ_ _=>rfl)) (pv 2) (aQ _))) (λs H O=>fk (pv 1) T.a8 T.xu zY I T.vH.bd .nil ay (aa (pv 0) ae))))
   (aj (hJ (i:=10) (N':=["pattern","under"]) (n:=1) (fi:=[9]) (g:=aN 0) ba.nd rfl (Or.inl rfl) rfl (aY (ag (top 65)) ["log","moments","cuts","low","amid","high","whole","parts","patterns","under","due"] (by decide +kernel)) (aM (pv 8)) (λs H O=>av (i:=0) (show(["pattern","under"]:List Str).Nodup by decide +kernel) rfl (Or.inl rfl) (.inr rfl)) (λs H O=>aL) (λs H O=>wO (K:=K) rfl (r:=wz K) Y9 YK PySem.F.type_list_count (vn I) (pv 1) (aa (pv 0) ae)))
   (ak (aC (nR (cQ (r:=ye K) (pW I) (ar eW I (by rfl) T.bp.mg T.bp.fn.kp T.bp.bd .nil ay (aa (pv 0) (aa (pv 4) (aa (bw ed (pv 4) ap) ae)))) (pv 10) (aQ _)) (kY (cQ (r:=ye K) (pW I) (pv 8) (gv (pv 0) T.a8 T.cX bM I T.dW.bd .nil ay) (aQ _)))))))))))))),?_⟩
  refine⟨_,rfl,C,_,rfl,hqC,(by show 3<64;decide),λS ms hS hp a4=>?_⟩;have h3:ms.length=3:=hp.length_eq
  match ms,h3,hp,a4 with
  | [lo,am,hi],_,hp,a4=>
  have h1:lo<=am:=(T2.mp a4).1 am (by simp);have h2:am<=hi:=(T2.mp (T2.mp a4).2).1 hi (by simp);refine⟨S,_,rfl,.of ab,rfl,_,_,rfl,_,_,rfl,_,_,rfl,rfl,?_⟩;have s1:af H (upd H S (.lst ([lo,am,hi].map V.int))):=af.new hS;generalize upd H S (.lst ([lo,am,hi].map V.int))=H1 at s1 ⊢;refine⟨_,rfl,_,rfl,_,rfl,B,g,pa,tb,v,lo,hi,rfl,ck.same s1,λW _ _ s2 bq=>?_⟩;have b5:=s1.trans s2;refine⟨_,rfl,_,rfl,_,rfl,B,g,pa,tb,v,lo,am,rfl,ck.same b5,λP0 _ _ s3 Ph=>?_⟩;have bb:=b5.trans s3;refine⟨_,rfl,_,rfl,_,rfl,B,g,pa,tb,v,am,hi,rfl,ck.same bb,λP1 H4 _ s4 QB=>?_⟩;have bo:=bb.trans s4;refine⟨(by show 2<=Zc;decide),λPT c8=>?_⟩;have s5:af H4 (upd H4 PT (.lst [.ref P0,.ref P1])):=af.new c8;have Ks:(upd H4 PT (.lst [.ref P0,.ref P1])) PT=some (.lst [.ref P0,.ref P1]):=ab;generalize upd H4 PT (.lst [.ref P0,.ref P1])=H5 at s5 Ks ⊢;have bz:=bo.trans s5;have c9:=s5 _ _ (s4 _ _ (s3 _ _ bq));have Ms:=s5 _ _ (s4 _ _ Ph);have HJ:=s5 _ _ QB;refine⟨_,rfl,PT,_,0,_,rfl,rfl,.of Ks,rfl,_,rfl,PT,_,1,_,rfl,rfl,.of Ks,rfl,P0,P1,rfl,⟨_,.of Ms⟩,⟨_,.of HJ⟩,λZ hZ=>?_⟩;have b6:=gG v.cur lo am;have c4:=gG v.cur am hi;have bj:=gG v.cur lo hi;have Rp:=(i3 (lo:=lo) (hi:=hi) G).2;refine ua (K:=K) (xs:=(gH v.cur lo am).map V.int) (ys:=(gH v.cur am hi).map V.int) (λi f D H6=>(∃u w,D=[u,w])/\af H5 H6/\f=((gH v.cur lo hi).take i).map V.int) ab ⟨⟨_,_,rfl⟩,af.new hZ,rfl⟩ (λi f D H6 _ q=>⟨.of (q.2.1 _ _ Ms),.of (q.2.1 _ _ HJ)⟩) (λi x y f D H6 t hx hy j q ht=>?_) (λf D H6 az q=>?_)
  ·obtain⟨⟨u,w,rfl⟩,s6,rfl⟩:=q;have N:=aG hx;rw[R8,b6]at N;have X:(v.cur.bs++v.cur.fs)[i]? = some (v.cur.bs++v.cur.fs)[i]:=R9 N;rw[Se,CJ X]at hx hy;cases hx;cases hy;have st:=af.new (o:=.tup [.int ((cnt v.cur lo am (v.cur.bs++v.cur.fs)[i]:Nat):Int),.int ((cnt v.cur am hi (v.cur.bs++v.cur.fs)[i]:Nat):Int)]) ht;refine⟨t,_,rfl,.of ab,rfl,_,_,rfl,_,_,rfl,rfl,?_⟩;refine⟨_,rfl,_,rfl,_,_,rfl,rfl,_,st _ _ j,small (by rw[R8,Sx];lia),_,ab,⟨_,_,rfl⟩,ax hZ (s6.trans st),?_⟩;rw[pT X,Sm,<-Ed h1 h2];rfl
  ·obtain⟨_,s6,rfl⟩:=q;rw[R8,R8,b6,c4,TU,<-bj,Ta]at az;have a5:=bz.trans s6;have ai:=s6 _ _ c9;refine⟨_,rfl,_,_,.lst (.of az) (k8 _),.lst (.of ai) (k8 _),yy _,_,rfl,?_⟩;rw[wk];refine br ?_;refine⟨_,rfl,W,_,rfl,.of ai,(i3 G).1,by lia,?_⟩;refine⟨_,rfl,M,rfl,⟨_,a5.seq hqM⟩,λF hF=>?_⟩;refine aK (K:=K) (xs:=(cu v.cur).map V.int) (λi f D H7=>(∃u,D=[u,some (.int lo),some (.int hi)])/\af H6 H7/\f=(((cu v.cur).take i).filter λm=>decide (lo<=m/\m<hi)).map V.int) ab ⟨⟨_,rfl⟩,af.new hF,rfl⟩ (λi f D H7 _ _ q=>(a5.trans q.2.1).seq hqM) (λi x f D H7 hx j q=>?_) (λf D H7 b8 q=>?_)
   ·obtain⟨q0,s7,rfl⟩:=q;apply dJ q0;clear q0;intro u;rw[Se]at hx;obtain⟨m,X,rfl⟩:=Option.map_eq_some_iff.mp hx;have N:=aG X;have ht:(cu v.cur).take (i+1)=(cu v.cur).take i++[m]:=by rw[SG,X];rfl
    rw[ht,S8,Sm];have bu:((((cu v.cur).take i).filter λm=>decide (lo<=m/\m<hi)).map V.int).length<=64:=by
     rw[R8];have h3:=S0 (λm=>decide (lo<=m/\m<hi)) ((cu v.cur).take i);rw[Sx]at h3;lia
    have b0:¬ (lo<=m/\m<hi)->([m].filter λm=>decide (lo<=m/\m<hi)).map V.int=[]:=λh=>by
     rw[show([m].filter λm=>decide (lo<=m/\m<hi))=[]from TM λe=>h (Zi e)];rfl
    refine⟨_,rfl,_,rfl,_,_,rfl,rfl,_,rfl,?_⟩;by_cases q1:lo<=m
    ·rw[Zg q1];refine b9 ⟨_,rfl,_,_,rfl,rfl,_,rfl,?_⟩;by_cases q2:m<hi
     ·rw[Zg q2];refine b9 ⟨_,rfl,_,j,small (by lia),_,ab,⟨_,rfl⟩,ax hF s7,?_⟩;rw[show([m].filter λm=>decide (lo<=m/\m<hi))=[m]from TL (Zg ⟨q1,q2⟩)];rfl
     ·rw[Zh q2,b0 λz=>q2 z.2,S3];exact br ⟨_,j,⟨_,rfl⟩,s7,rfl⟩
    ·rw[Zh q1,b0 λz=>q1 z.1,S3];exact br ⟨_,rfl,br ⟨_,j,⟨_,rfl⟩,s7,rfl⟩⟩
   ·obtain⟨_,s7,rfl⟩:=q;rw[R8,Ta]at b8;have b7:=a5.trans s7;refine⟨F,_,rfl,.inl (.of b8),rfl,_,rfl,?_⟩;rw[R8,<-FC G bt,Zg rfl];refine br ?_;refine⟨_,rfl,_,rfl,_,rfl,B,g,pa,tb,v,hi,lo,rfl,ck.same b7,λR1 _ _ s8 Qi=>?_⟩;have as:=b7.trans s8;refine⟨R1,_,rfl,.of Qi,(i3 G).1,Sl (TF (i3 G).2) (by decide),?_⟩;rw[vF (show lo<=hi by lia)];refine⟨_,rfl,_,rfl,_,_,rfl,rfl,.inr ⟨_,rfl,?_⟩⟩;refine⟨0,_,rfl,rfl,.inl ⟨by decide,by decide⟩,rfl,false,?_,br ?_⟩
    ·show V.bl (!decide (V.int (0 * _)=V.int 0))=V.bl false;rw[Int.zero_mul,Zg rfl];rfl
    refine⟨_,rfl,_,rfl,_,rfl,B,g,pa,tb,v,am,am,rfl,ck.same as,λR2 _ _ s9 P2=>?_⟩;have a7:=as.trans s9;refine⟨R2,_,rfl,.of P2,(i3 G).1,Sl (TF (i3 G).2) (by decide),?_⟩;rw[vF (UM am)];refine⟨rfl,_,rfl,br ?_⟩;refine⟨_,rfl,g,dx,_,rfl,a7 _ _ hg,rfl,_,rfl,_,rfl,B,g,pa,tb,v,lo,hi,rfl,ck.same a7,λCT cv b1 _ c2 Mw b4=>?_⟩;have Pm:=a7.trans c2;refine⟨CT,rfl,⟨_,.of Mw⟩,λPP b3=>?_⟩;have bg:cv.length=(v.cur.bs++v.cur.fs).length:=by rw[b4.length,R8]
    refine aK (K:=K) (xs:=cv) (λi f D J=>(∃u w,D=[u,w])/\af b1 J/\aE K b1 f (((v.cur.bs++v.cur.fs).take i).map bx)) ab ⟨⟨_,_,rfl⟩,af.new b3,.nil⟩ (λi f D J _ _ q=>.of (q.2.1 _ _ Mw)) (λi x f D J hx j q=>?_) (λbe D J Rh q=>?_)
    ·obtain⟨⟨u,w,rfl⟩,a0,dn⟩:=q;obtain⟨d,hd,bN⟩:=b4.get hx;rw[Se]at hd;obtain⟨p,X,rfl⟩:=Option.map_eq_some_iff.mp hd;have N:=aG X;obtain⟨a,y,rfl,hq,bk⟩:=x8 bN;refine⟨a,_,rfl,a0.gL hq,rfl,_,_,rfl,_,_,rfl,rfl,?_⟩;refine⟨_,rfl,_,j,small (by rw[dn.length,R8,Sx];lia),_,ab,⟨_,_,rfl⟩,ax b3 a0,?_⟩;rw[SG,X,Sm];exact dn.append (.cons bk .nil)
    ·obtain⟨_,a0,ah⟩:=q;rw[bg,Ta]at ah;have Ml:=Pm.trans a0;have B7:=G.Ib;refine⟨_,rfl,M,_,rfl,.inl (Ml.seq hqM),_,rfl,?_,?_,λU hU=>?_⟩
     ·rw[R8];lia
     ·rw[R8];lia
     rw[R8,Te];refine eQ (lo:=0) (n:=(cu v.cur).length) (λi f D H12=>(∃u,D=[u,some (.ref g),some (.int am),some (.ref M)])/\af J (wo U H12)/\aE K (wo U H12) f (((v.cur.rf.take i).filter (jb am (am+1))).map λx=>oP x.2)) ab ⟨⟨_,rfl⟩,?_,.nil⟩ (λi f D H12 N j q=>?_) (λ_ D H12 Nq q=>?_)
     ·intro c o e;rw[au (λz=>by rw[z,hU]at e;cases e),aq (λz=>by rw[z,hU]at e;cases e)];exact e
     ·obtain⟨q0,Y,dn⟩:=q;apply dJ q0;clear q0;intro u;rw[Int.zero_add];have em:(cu v.cur)[i]? = some (cu v.cur)[i]:=R9 N;generalize(cu v.cur)[i]=m at em;obtain⟨z,p,er,eo,_⟩:=Lh G em;have GD:af J H12:=Y.trans bc;have xD:=Ml.trans GD;have ht:v.cur.rf.take (i+1)=v.cur.rf.take i++[((m,z),some p)]:=by rw[SG,er];rfl
      have c1:((cu v.cur).map V.int)[i]? = some (.int m):=by rw[Se,em];rfl
      have bu:f.length<=64:=by
       rw[dn.length,R8];have h3:=S0 (jb am (am+1)) (v.cur.rf.take i);rw[Sx]at h3;lia
      rw[ht,S8,Sm];refine⟨_,rfl,_,rfl,M,_,_,_,rfl,rfl,xD.seq hqM,cA c1,_,rfl,rfl,_,rfl,?_⟩;by_cases q1:m=am
      ·rw[Zg (show V.int m=V.int am by rw[q1]),show[((m,z),some p)].filter (jb am (am+1))=[((m,z),some p)]from TL (by rw[yz,Zg q1])];refine b9 ⟨_,rfl,g,dx,_,rfl,xD _ _ hg,rfl,_,rfl,B,g,pa,tb,v,i,p,rfl,ck.same xD,eo,λL ys R hL l PU c3=>?_⟩;have b2:U≠L:=λe=>by rw[<-e,j]at hL;cases hL
       have sW:af (wo U H12) (wo U (upd R U (.lst (f++[.ref L])))):=λc o e=>by
        obtain⟨h3,e⟩:=aZ e;rw[au h3,aq h3];exact l _ _ e
       refine⟨f,l _ _ j,small (by lia),_,ab,⟨_,rfl⟩,Y.trans sW,(dn.same sW).append (.cons ?_ .nil)⟩;refine .lst (.of (by rw[au b2.symm,aq b2.symm];exact PU)) (c3.same λc o e=>?_);have hn:=iY e;rw[bK hn]at e;have hc:c≠U:=λz=>hn _ (by rw[z];exact j);rw[au hc,aq hc];exact e
      ·rw[Zh (show¬ V.int m=V.int am fromλe=>q1 (V.int.inj e)),show[((m,z),some p)].filter (jb am (am+1))=[]from TM (by rw[yz,Zh q1];exact Ss),Tw,S3];exact br ⟨f,j,⟨_,rfl⟩,Y,dn⟩
     ·obtain⟨_,Y,ao⟩:=q;rw[c6,<-B7,Ta]at ao;have GD:af J H12:=Y.trans bc;have xD:=Ml.trans GD;have QJ:=ao.same bc;have Mb:=GD _ _ Rh;have Kb:=(ah.same a0).same GD;have c5:be.length=(v.cur.bs++v.cur.fs).length:=by rw[ah.length,R8]
      refine⟨_,rfl,PP,rfl,⟨_,.of Mb⟩,λ_ aw=>?_⟩;refine aK (K:=K) (xs:=be) (λi f D R=>(∃u,D=[u,some (.ref U)])/\af H12 R/\f=((gH v.cur am (am+1)).take i).map V.int) ab ⟨⟨_,rfl⟩,af.new aw,rfl⟩ (λi f D R _ _ q=>.of (q.2.1 _ _ Mb)) (λi x f D R hx j q=>?_) (λf D R MT q=>?_)
      ·obtain⟨q0,l,rfl⟩:=q;apply dJ q0;clear q0;intro u;obtain⟨d,hd,bN⟩:=Kb.get hx;rw[Se]at hd;obtain⟨p,X,rfl⟩:=Option.map_eq_some_iff.mp hd;have N:=aG X;refine cq ⟨_,rfl,.inl ⟨rfl,_,.of (l _ _ Nq)⟩,_,rfl,_,_,_,rfl,.lst (.of (l _ _ Nq)) (QJ.same l),bN.same l,Sl (iG _) (by decide),?_⟩;rw[GZ G (Sd X)];refine⟨_,j,small (by rw[R8,Sx];lia),_,ab,⟨_,rfl⟩,ax aw l,?_⟩;rw[pT X,Sm];rfl
      ·obtain⟨_,l,rfl⟩:=q;rw[c5,<-gG v.cur am (am+1),Ta]at MT;have AM:=xD.trans l;refine⟨_,rfl,_,rfl,_,rfl,_,_,rfl,rfl,B,g,pa,tb,v,am,am+1,rfl,ck.same AM,λ_ _ _ a3 Nj=>?_⟩;have wM:=AM.trans a3;refine⟨_,rfl,_,_,.lst (.of Nj) (k8 _),.lst (.of (a3 _ _ MT)) (k8 _),yy _,_,rfl,?_⟩;rw[wk];refine b9 ⟨_,rfl,_,rfl,g,dx,_,rfl,wM _ _ hg,rfl,B,g,pa,tb,v,rfl,ck.same wM,λPS pv c0 _ a6 HJ P7=>?_⟩;refine⟨_,_,.lst (.of (a6 _ _ (a3 _ _ (l _ _ Mb)))) (((Kb.same l).same a3).same a6),.lst (.of HJ) (P7.same dA),GW _,?_⟩;rw[EC];exact k c0 (wM.trans a6)
def xR (K:Vz) (P:Z6):Sp:=λvs H Q _=>∃(a:Z6) (ns:List Int),vs=[.ref a]/\SqL K H a (ns.map V.int)/\ns.length<=63/\cY P H/\∀H',Q (.bl true) H'
abbrev Mi (K:Vz) (A:Ad):=MdI K ⟨120,27,120,69⟩ Nx A.be A.aT A.aB
theorem IR {xs:List V}{lo hi:Option Int}{x:V} (h:x∈uF xs lo hi):x∈xs:=by
 unfold uF at h
 first
  | exact List.mem_of_mem_drop (TH h)
  | exact TH (List.mem_of_mem_drop h)
theorem F9 {a b c r:Int} (d:0<=r) (h1:r<3):∃m,atI [V.int a,V.int b,V.int c] r=some (.int m)/\(m=a\/m=b\/m=c):=by
 have:r=0\/r=1\/r=2:=by lia
 rcases this with rfl | rfl | rfl
 ·exact⟨a,rfl,.inl rfl⟩
 ·exact⟨b,rfl,.inr (.inl rfl)⟩
 ·exact⟨c,rfl,.inr (.inr rfl)⟩
theorem HP {a b c d r:Int} (e:0<=r) (h1:r<4):∃m,atI [V.int a,V.int b,V.int c,V.int d] r=some (.int m)/\(m=a\/m=b\/m=c\/m=d):=by
 have:r=0\/r=1\/r=2\/r=3:=by lia
 rcases this with rfl | rfl | rfl | rfl
 ·exact⟨a,rfl,.inl rfl⟩
 ·exact⟨b,rfl,.inr (.inl rfl)⟩
 ·exact⟨c,rfl,.inr (.inr (.inl rfl))⟩
 ·exact⟨d,rfl,.inr (.inr (.inr rfl))⟩
theorem BR {l:List (Str×Nat)}{x:Str×Nat} (h:x∈l):x.2<=(l.map (·.2)).sum:=by
 induction l with
 | nil=>cases h
 | cons a l ih=>
  rw[Sv,S2];rcases Su.mp h with h | h
  ·rw[h];lia
  ·have:=ih h;lia
theorem dG:aD ["script","deck","log","moments","hand","moment","line","pattern","cell","cuts","told","many","some"] ["script"] (ag (top 66)):=by refine⟨rfl,rfl,rfl,?_,rfl,?_,?_⟩<;>decide +kernel
theorem KU (F:Fun K "law" "law" (top 66) A.J6 A.J1) (T:Tx K mg A):aA P w K mg base CX0 26 A.J6 A.J1 ["script"] (xR K A.aB):=by
 have qE:aA P w K mg base CX0 25 _ _ _ _:=(xT T).mono (by decide);have yS:aA P w K mg base CX0 24 _ _ _ _:=(zR T).mono (by decide);have xv:aA P w K mg base CX0 25 _ _ _ _:=(uQ T).mono (by decide);have yc:aA P w K mg base CX0 25 _ _ _ _:=(uL T).mono (by decide);have aF:aA P w K mg base CX0 25 _ _ _ _:=(dH T).mono (by decide);have AR:aA P w K mg base CX0 25 _ _ _ _:=(Ak T).mono (by decide);have dY:aA P w K mg base CX0 25 _ _ _ _:=(jh T).mono (by decide);have tI:aA P w K mg base CX0 25 _ _ _ _:=(rB T).mono (by decide);have nG:aA P w K mg base CX0 25 _ _ _ _:=(mN T).mono (by decide);have bM:aA P w K mg base CX0 25 _ _ _ _:=(eF T).mono (by decide);have zu:aA P w K mg base CX0 25 _ _ _ _:=(wY T).mono (by decide);have Dc:aA P w K mg base CX0 25 _ _ _ _:=(AO T).mono (by decide);refine F.ok dG (λvs H Q E h=>?_) (λ_ _ _ s H vs Q E O h=>?_)
 ·obtain⟨a,ns,rfl,_⟩:=h;rfl
 ·obtain⟨a,ns,rfl,LK,hn,eh,k⟩:=h;refine⟨_,aj (bf (i:=1) dG.nd rfl (Or.inr rfl) (ar qE O (by rfl) T.fU.mg T.fU.fn.kp T.fU.bd .nil ay (aa (bi (r:=dQ K) a9 (bw (r:=vd K) o9 (pv 0) (bC (aa ap ae))) ap (λ_ _=>rfl)) (aa ap ae))))
   (aj (bf (i:=2) dG.nd rfl (Or.inl rfl) (xV T.K0 yS O (by rfl) T.MA T.zI.bd .nil ay (aa (ar yc O (by rfl) T.jQ.mg T.jQ.fn.kp T.jQ.bd .nil ay (aa (pv 1) ae)) ae)))
   (aj (bf (i:=3) dG.nd rfl (Or.inr rfl) (bC ae))
   (aj (bf (i:=4) dG.nd rfl (Or.inl rfl) ap)
   (aj (bf (i:=5) dG.nd rfl (Or.inl rfl) (bi (r:=dQ K) a9 (bC (aa (CH xm (bw kZ ap ap)) (aa (CH xm ap) (aa ap ae)))) (ar aF O (by rfl) T.ao.mg T.ao.fn.kp T.ao.bd .nil ay (aa (pv 1) (aa ap ae))) (λ_ _=>rfl)))
   (aj (fT Ys rfl (aM (ar xv O (by rfl) T.jV.mg T.jV.fn.kp T.jV.bd .nil ay (aa (pv 1) (aa ap ae)))) (av (i:=6) dG.nd rfl (Or.inl rfl)) (aj (bf (i:=5) dG.nd rfl (Or.inl rfl) (bw ed (pv 5) (bi (r:=dQ K) a9 (bC (aa ap (aa ap (aa (ar aF O (by rfl) T.ao.mg T.ao.fn.kp T.ao.bd .nil ay (aa (pv 1) (aa ap ae))) (aa (bw kZ ap ap) ae))))) (aH (D1 rfl) (by rfl) T.Oh K2 (aa ap (aa (bw yd (ar aF O (by rfl) T.ao.mg T.ao.fn.kp T.ao.bd .nil ay (aa (pv 1) (aa ap ae))) ap) ae))) (λ_ _=>rfl))))
   (aj (cm (fk (pv 2) T.a8 T.Aj AR O T.zS.bd .nil ay (aa (pv 5) (aa (pv 6) ae))))
   (aj (cm (ee Y9 Yj Yk cJ (pv 3) (aa (pv 5) ae)))
   (ak (bB ((pw_and (aP iS (ar aF O (by rfl) T.ao.mg T.ao.fn.kp T.ao.bd .nil ay (aa (pv 1) (aa ap ae))) ap (aQ _)) (pw_and1 (aP mW (pv 4) ap (aQ _)))).pt) (aj (bf (i:=7) dG.nd rfl (Or.inl rfl) (ar tI O (by rfl) T.g9.mg T.g9.fn.kp T.g9.bd .nil ay (aa (pv 1) (aa (pv 6) ae))))
   (ak (bB (aP (r:=G3 K true) (vB O) (pv 7) (gv (pv 2) T.a8 T.cX bM O T.dW.bd .nil ay) (by rfl)) (aj (bf (i:=4) dG.nd rfl (Or.inl rfl) (bw ed (pv 4) ap))
   (ak (cm (fk (pv 2) T.a8 T.BS Dc O T.Cc.bd .nil ay (aa (pv 7) ae))))) aO))) aO))))))
   (aj (fT Ys rfl (aM (KW (oO (r:=Ln K) Cj (pv 0) (o5 ap) (o5 ap)) (kY (bC (aa ap ae))))) (av (i:=8) dG.nd rfl (Or.inl rfl)) (aj (bf (i:=1) dG.nd rfl (Or.inr rfl) (ar qE O (by rfl) T.fU.mg T.fU.fn.kp T.fU.bd .nil ay (aa (pv 8) (aa ap ae))))
   (aj (hJ (i:=9) (N':=["turn","deck","moments"]) (n:=1) (fi:=[1,3]) (g:=aN 0) dG.nd rfl (Or.inl rfl) rfl (aY (ag (top 66)) ["script","deck","log","moments","hand","moment","line","pattern","cell","cuts","told","many","some"] (by decide +kernel)) (dN (by rfl) T.g6 (aa ap ae)) (λs H fp=>av (i:=0) (show(["turn","deck","moments"]:List Str).Nodup by decide +kernel) rfl (Or.inl rfl) (.inr rfl)) (λs H fp=>aL) (λs H fp=>bw yd (bw ed (bi (r:=dQ K) a9 (bw (r:=vd K) o9 (pv 2) (bC (aa ap ae))) (ar aF O (by rfl) T.ao.mg T.ao.fn.kp T.ao.bd .nil ay (aa (pv 1) (aa (bw ed (aH (r:=d4 K) bh (by rfl) T.dv Yb (aa (pv 2) ae)) ap) ae))) (λ_ _=>rfl)) (ar aF O (by rfl) T.ao.mg T.ao.fn.kp T.ao.bd .nil ay (aa (pv 1) (aa ap ae)))) ap))
   (aj (bB (ip (cU (ar nG O (by rfl) T.dS.mg T.dS.fn.kp T.dS.bd .nil ay (aa (pv 2) (aa (pv 3) (aa (pv 9) ae)))))) (ak (aC kF)) aO)
   (aj (fT Ys rfl (K6 (dD (aa (fk (pv 2) T.a8 T.gf dY O T.ix.bd .nil ay (aa ap (aa ap ae))) (aa (gv (pv 2) T.a8 T.cX bM O T.dW.bd .nil ay) ae)))) (av (i:=10) dG.nd rfl (Or.inl rfl)) (ak (cm (ee Y9 Yj Yk cJ (pv 10) (aa uu ae)))))
   (ak (fT Ys rfl (aM (fk (pv 2) T.a8 T.gf dY O T.ix.bd .nil ay (aa (CH xm (bw kZ ap ap)) (aa (bw kZ ap ap) ae)))) (c7 rfl (aI (av (i:=7) dG.nd rfl (Or.inl rfl)) (aI (av (i:=11) dG.nd rfl (Or.inl rfl)) bU))) (ak (fT Ys rfl (aM (fk (pv 2) T.a8 T.xI zu O T.vA.bd .nil ay (aa (pv 7) ae))) (av (i:=12) dG.nd rfl (Or.inl rfl)) (aj (bB (aP m5 (aH (r:=EX K) (oU O.hd) (by rfl) T.Ck xK (aa (aU (N':=["word","often"]) (n:=2) (fi:=[]) (g:=oY K 2 (cF (aN 0) (cF (aN 1) pH))) rfl (aY (ag (top 66)) ["script","deck","log","moments","hand","moment","line","pattern","cell","cuts","told","many","some"] (by decide +kernel)) (aM (pv 12)) (λs H fp=>c7 rfl (aI (av (i:=0) (show(["word","often"]:List Str).Nodup by decide +kernel) rfl (Or.inl rfl) (.inr rfl)) (aI (av (i:=1) (show(["word","often"]:List Str).Nodup by decide +kernel) rfl (Or.inl rfl) (.inr rfl)) bU))) (λs H fp=>aL) (λs H fp=>pv 1)) ae)) (pv 11) (aQ _)) (ak (aC kF)) aO)
   (ak (cm (ee Y9 Yj Yk cJ (pv 12) (aa uu ae))))))))))))))
   (ak (aC kF)))))))),?_⟩
  refine⟨_,rfl,(by show 1<=Zc;decide),λp hp=>⟨a,p,_,_,rfl,rfl,(af.new hp).seq LK,.of ab,?_,λq hq=>?_⟩⟩
  ·rw[R8];exact Sl (T8 hn 1) (by decide)
  have sq:af H (upd (upd H p (.lst [.int 0])) q (.lst (ns.map V.int++[V.int 0]))):=(af.new hp).trans (af.new hq);have da:(upd (upd H p (.lst [.int 0])) q (.lst (ns.map V.int++[V.int 0]))) q=some (.lst (ns.map V.int++[V.int 0])):=ab;generalize upd (upd H p (.lst [.int 0])) q (.lst (ns.map V.int++[V.int 0]))=H1 at sq da ⊢;obtain⟨c0,g0⟩:∃c0:Int,atI (ns.map V.int++[V.int 0]) 0=some (.int c0):=by
   cases ns with
   | nil=>exact⟨0,rfl⟩
   | cons c r=>exact⟨c,cA (j:=0) rfl⟩
  refine⟨q,_,0,_,rfl,rfl,.of da,g0,c0,0,rfl,by decide,λd H2 hd s2 d2=>?_⟩;have e0:=sq.trans s2;have dm:=aV eh e0;have Ki:SqL K (wo d H2) a (ns.map V.int):=(gm hd s2).seq (sq.seq LK);clear da hq hp sq hd eh LK s2 e0;obtain⟨_,b4⟩:=d2.lst;refine⟨_,rfl,d,_,rfl,d2,by decide,λSV sv lv H3 ez s3 d1 dt=>?_⟩;have c5:=vf dm b4 s3;have Kf:SqL K (wo d H3) a (ns.map V.int):=(gm eJ s3).seq Ki;intro g dx hg ej bo;obtain⟨_,eq,sg,dn⟩:=AA A.be hg ej bo;rw[eq];refine⟨g,SV,dx,sv,lv,rfl,dn,.of (sg _ _ dt),aV c5 sg,λH4 B4 pa tb cur s4 d8 ea dw tZ e1 e2 ck=>⟨rfl,?_⟩⟩;have Dn:H3 pa=none:=sg.free ea;have yD:H3 tb=none:=sg.free dw;obtain⟨_,zZ⟩:=bj c5;obtain⟨_,bl⟩:=d1.lst;have cw:d≠A.aB:=λe=>by rw[e,zZ]at bl;cases bl
  have d9:af (wo d (wo A.aB H3)) H4:=λc o e=>by
   obtain⟨h1,e⟩:=aZ e;obtain⟨h2,e⟩:=aZ e;exact s4 _ _ (by rw[au (λz=>by rw[z,hg]at e;cases e),au h2];exact sg _ _ e)
  have dc:Dk H4 d 3:=by
   obtain⟨a,b,c,e,r⟩:=d1;exact⟨a,b,c,s4 _ _ (by rw[au (λz=>by rw[z,hg]at e;cases e),au cw];exact sg _ _ e),r⟩
  have J2:SqL K (wo d (wo A.aB H3)) a (ns.map V.int):=by
   have h1:=wZ (P:=A.aB) (by rw[au cw.symm];exact zZ) Kf;refine af.seq (λc o e=>?_) h1;obtain⟨a1,e⟩:=aZ e;obtain⟨a2,e⟩:=aZ e;rw[au a2,au a1];exact e
  refine⟨Sy _,λM hM=>?_⟩;obtain⟨H5,eq,s5,ek⟩:=fF (.lst []) hM;rw[eq];have f:Mi K A H3 d g pa M 3 [] B4 tb ⟨sv,lv,cur,cur,[],[]⟩ H5:=by
   obtain⟨_,_,_,_,_,_,ey,O6,PC,g4,_⟩:=id ck;have gd:H3 M=none:=by
    cases e:H3 M with
    | none=>rfl
    | some o=>
     by_cases h1:M=d
     ·obtain⟨R,hy⟩:=dc.lst;rw[h1,hy]at hM;cases hM
     by_cases h2:M=A.aB
     ·obtain⟨q,hq⟩:=bj d8;rw[h2,hq]at hM;cases hM
     rw[d9 M o (by rw[au h1,au h2];exact e)]at hM;cases hM
   exact⟨d9.trans s5,aV d8 s5,dc.same s5,ck.same s5,(λc o e m=>tZ c o (sg _ _ e) m),g4.free hM,(λz=>by rw[z,PC]at hM;cases hM),yD,ek,⟨_,bl⟩,⟨_,zZ⟩,hg,Dn,gd,(λz=>by rw[z,ey]at hM;cases hM),(λz=>by rw[z,O6]at hM;cases hM)⟩
  clear ek s5 dc d9 yD s4 d8 ck tZ dw ea sg dn ej bo hM Kf Ki s3 d1 dt ez d2 b4 dm eq;refine⟨_,_,rfl,rfl,⟨by decide,by decide,by decide⟩,_,rfl,_,rfl,(by show 3<=Zc;decide),λl hl=>?_⟩;have b6:d≠l:=f.dk.ne hl;obtain⟨_,eq,s6,du⟩:=fF (.lst [.int (-(10 ^ (30:Int).toNat)),.int (-5),.int 0]) hl;rw[eq];have f:=f.same s6;refine⟨_,rfl,d,3,_,rfl,f.dk,by decide,by decide,by decide,λr _ s7 dh r0 r1=>?_⟩;have f:=f.pick s7 dh;obtain⟨m0,e3,ct⟩:=F9 (a:=-(10 ^ (30:Int).toNat)) (b:=-5) (c:=0) r0 r1;refine⟨l,_,r,_,rfl,rfl,.of (cf s7 du b6),e3,?_⟩;have JX : -(10 ^ 30)<=m0/\m0<=0:=by
   have et:((10:Int) ^ (30:Int).toNat)=10 ^ 30:=rfl;rw[et]at ct;rcases ct with e | e | e <;> rw[e] <;> decide
  clear ct e3 s7 dh s6 du eq b6 hl r0 r1;refine⟨_,rfl,d,40,_,rfl,f.dk,by decide,by decide,by decide,λZ zs _ hZ s8 eb bu dp dq=>⟨Z,rfl,⟨_,.of bu⟩,?_⟩⟩;have b3:d≠Z:=f.dk.ne hZ;obtain⟨_,_,_,_,_,_,ef,ME,By,_⟩:=id f.lg;have cp:Z≠g:=λe=>by rw[e,ef]at hZ;cases hZ
  have d5:Z≠pa:=λe=>by rw[e,ME]at hZ;cases hZ
  have dz:Z≠M:=λe=>by rw[e,f.lf]at hZ;cases hZ
  have d6:Z≠A.aB:=λe=>by
   obtain⟨q,hq⟩:=bj f.la;rw[e,hq]at hZ;cases hZ
  have f:=f.pick s8 eb;have gj:zs.length<=40:=dq;clear s8 eb hZ dq ef ME By;refine gz (K:=K) (xs:=zs.map V.str) (λi B H9=>∃(hd m:Int) (u6 u7:Option V) (Bi:Hp) (tb:Z6) (v:km),B=[some (.ref a),some (.ref d),some (.ref g),some (.ref M),some (.int hd),some (.int m),u6,u7,none,none,none,none,none]/\Mi K A H3 d g pa M (2100+200 * i) ((cu v.cur).map V.int) Bi tb v H9/\H9 Z=some (.lst (zs.map V.str))/\v.cur.rs.length=i/\v.cur.bs.Nodup/\(v.cur.bs.length:Int)<=hd/\hd<=2/\v.past.length<=2 * i/\(∀q∈v.cur.rs,-(10 ^ 30)<=q.1/\q.1<=m) /\ -(10 ^ 30)<=m/\m<=i * 10 ^ 28) ⟨0,m0,none,none,B4,tb,⟨sv,lv,cur,cur,[],[]⟩,rfl,?_,bu,by show cur.rs.length=0;rw[e1];rfl,by show cur.bs.Nodup;rw[e2];exact UC,by show(cur.bs.length:Int)<=0;rw[e2];exact UM _,by decide,Sy _,(λq hq=>by replace hq:q∈cur.rs:=hq;rw[e1]at hq;cases hq),JX.1,by have:=JX.2;lia⟩ (λi B H9 _ q=>.of (by obtain⟨_,_,_,_,_,_,_,_,_,h,_⟩:=q;exact h)) (λi x B H9 J q=>?_) (λB H9 q=>?_)
  ·have e:cu cur=[]:=by unfold cu;rw[e1];rfl
   show Mi K A H3 d g pa M _ ((cu cur).map V.int) _ _ _ _;rw[e];exact{ f with dk:=f.dk.mono (by lia) }
  ·clear f bu JX e1 e2 c5 bl zZ hg Dn;obtain⟨hd,m,u6,u7,Bi,tb,v,rfl,f,cg,b2,c8,cj,hh,b8,ai,cx,bz⟩:=q;obtain⟨y,hy,rfl⟩:=e9 J;have hi:=aG hy;obtain⟨wy,ah⟩:=dp y (Sd hy);have g8:=ah.ok (by decide);refine⟨_,rfl,_,rfl,d,5,_,rfl,f.dk,by lia,by decide,by decide,λr1 G d7 IT _ _=>⟨_,_,rfl,rfl,⟨by decide,by decide,by decide⟩,(by show 4<=Zc;decide),λl hl=>?_⟩⟩;have OD:G Z=_:=cf d7 cg b3;have f:=f.pick d7 IT;have b6:d≠l:=f.dk.ne hl;obtain⟨bg,eq,a7,OZ⟩:=fF (.lst [.int 0,.int 1,.int r1,.int (10 ^ (28:Int).toNat)]) hl;rw[eq];have Nl:=a7 _ _ OD;have f:=f.same a7;clear d7 IT a7 hl OD cg eq;refine⟨_,rfl,d,7,_,rfl,f.dk,by lia,by decide,by decide,λr2 dy a6 Ek ft fe=>?_⟩;have NJ:dy Z=_:=cf a6 Nl b3;have f:=f.pick a6 Ek;obtain⟨st,e7,df⟩:=HP (a:=0) (b:=1) (c:=r1) (d:=10 ^ (28:Int).toNat) (r:=if r2 - 3 > 0 then r2 - 3 else 0) (by split <;> lia) (by split <;> lia);have uC:0<=st/\st<=10 ^ 28:=by
    have f6:((10:Int) ^ (28:Int).toNat)=10 ^ 28:=rfl;rw[f6]at df;rcases df with e | e | e | e <;> rw[e] <;> lia
   refine⟨_,_,rfl,rfl,_,_,rfl,l,_,_,_,rfl,rfl,.of (cf a6 OZ b6),e7,_,_,rfl,rfl,?_⟩;clear df e7 a6 Ek OZ b6 Nl ft fe;obtain⟨az,t1,f9,f7,a5⟩:=f.lg.gg;refine⟨_,rfl,g,az,_,rfl,a5,rfl,_,rfl,_,rfl,Bi,g,pa,tb,v,m+st,y,rfl,f.lg,f.dd.2.2.2.2.2.2,⟨wy,ah⟩,by lia,(λq hq=>by have:=(ai q (List.mem_of_getLast? hq)).2;lia),by lia,f.la,λH13 bk Gk ud W MX M7 ei tZ e1 e2 Fd=>?_⟩;have MC:H13 Z=_:=W _ _ (by rw[au cp,au d5,au d6];exact NJ);have f:=f.OC W MX M7 tZ Fd;clear W MX M7 ei tZ Fd a5 NJ;refine⟨_,rfl,.inl ⟨rfl,_,.of f.lf⟩,_,rfl,M,_,_,rfl,rfl,f.lf,small (by rw[R8];unfold cu;rw[R8];lia),?_⟩;have f:=f.pop (lv':=(cu v.cur).map V.int++[.int (m+st)]);have Ll:(upd H13 M (.lst ((cu v.cur).map V.int++[.int (m+st)]))) Z=some (.lst (zs.map V.str)):=by rw[aq dz];exact MC
   generalize upd H13 M (.lst ((cu v.cur).map V.int++[.int (m+st)]))=H14 at f Ll ⊢;rw[show(cu v.cur).map V.int++[V.int (m+st)]=(cu ud).map V.int by unfold cu;rw[e1,Sm,Sm];rfl]at f;have Jg:ud.rs.length=i+1:=by rw[e1,Sj,Sw,b2]
   have Ja:∀q∈ud.rs,-(10 ^ 30)<=q.1/\q.1<=m+st:=λq hq=>by
    rw[e1]at hq;rcases Sz.mp hq with h | h
    ·have:=ai q h;exact⟨this.1,by lia⟩
    ·rw[Sg.mp h];exact⟨by show _<=m+st;lia,UM _⟩
   have IW:m+st<=((i+1:Nat):Int) * 10 ^ 28:=by
    have:((i+1:Nat):Int) * 10 ^ 28=(i:Int) * 10 ^ 28+10 ^ 28:=by
     rw[Int.natCast_add,Int.add_mul];rfl
    rw[this];lia
   have HR : -(10 ^ 30)<=m+st:=by lia
   have MJ:(v.past++[(v.cur.rs,v.cur.bs)]).length<=2 * i+1:=by rw[Sj,Sw];lia
   have JG:ud.bs.Nodup:=by rw[e2];exact c8
   have Ku:(ud.bs.length:Int)<=hd:=by rw[e2];exact cj
   clear MC b2 ai bz cx b8 c8 cj e1 e2;generalize hv':(⟨v.s,v.l,ud,v.cur,v.past++[(v.cur.rs,v.cur.bs)],[]⟩:km)=v13 at f;have Qm:v13.cur=ud:=by rw[<-hv']
   have RO:v13.past.length<=2 * i+1:=by rw[<-hv'];exact MJ
   subst Qm;clear hv' MJ;refine⟨_,rfl,d,20,_,rfl,f.dk,by lia,by decide,by decide,λ_ dg S JA _ _=>⟨rfl,_,rfl,?_⟩⟩;have Jb:dg Z=_:=cf S Ll b3;have f:=f.pick S JA;clear S JA Ll;refine yb (λ_=>?_) (λ_=>br ⟨hd,_,_,u7,bk,Gk,v13,rfl,{ f with dk:=f.dk.mono (by lia) },Jb,Jg,JG,Ku,hh,by lia,Ja,HR,IW⟩);refine⟨_,rfl,_,_,rfl,rfl,_,rfl,?_⟩;by_cases dj:hd<2
   ·rw[Zg dj];refine b9 ⟨_,rfl,_,rfl,d,y,_,rfl,f.dk,by lia,by lia,g8.1,λF c6 ps hF U IX _ d0 fl bN=>?_⟩;have NX:c6 Z=_:=cf U Jb b3;have f:=f.pick U IX;have bN:=bN.same dA;rw[ah.split]at d0;have My:PW ps:=GF ah.wd d0;have M6:ps.length=wy.length:=d0.1;have gp:=ah.pos;have gk:=ah.le;have gh:ps≠[]:=λe=>by rw[e]at M6;simp at M6;lia
    have PK:∀p∈ps,p.ok:=λp hp=>(My p hp).okP.1;have c2:=f.lg.okc;clear U IX hF fl Jb;obtain⟨g7,_,_,_,e8⟩:=f.lg.gg;refine⟨_,rfl,_,rfl,g,g7,_,rfl,e8,rfl,bk,g,pa,Gk,v13,rfl,f.lg,λPS pv I cc N N6 b7=>?_⟩;refine⟨_,_,.lst (.of N6) (b7.same dA),bN.same N,Sl (iG _) (by decide),_,rfl,?_⟩;rw[Zj rfl,xW c2.pok PK];have f:=f.same N;have OE:=N _ _ NX;have bN:=bN.same N;clear N N6 b7 cc e8 NX;by_cases Hj:ps∈v13.cur.bs++v13.cur.fs
    ·rw[Zg Hj];exact br ⟨hd,_,_,_,bk,Gk,v13,rfl,{ f with dk:=f.dk.mono (by lia) },OE,Jg,JG,Ku,hh,by lia,Ja,HR,IW⟩
    ·rw[Zh Hj];obtain⟨eu,_,_,_,ep⟩:=f.lg.gg;have el:ps∉v13.cur.bs:=λz=>Hj (Sz.mpr (.inl z));refine b9 ⟨_,rfl,_,_,rfl,rfl,?_⟩;refine⟨_,rfl,g,eu,_,rfl,ep,rfl,_,rfl,bk,g,pa,Gk,v13,.ref F,ps,rfl,f.lg,f.dd.2.2.2.2.2.2,bN,My,gh,by lia,el,by lia,by lia,f.la,λde fx PY zD cb P8 Po ei tZ e1 hp hk K8=>?_⟩;have Qq:de Z=_:=cb _ _ (by rw[au cp,au d5,au d6];exact OE);have f:=f.OC cb P8 Po tZ K8;have f3:=hp.length_eq;rw[Sj,Sw]at f3;have em:cu v13.cur=cu zD:=by unfold cu;rw[e1]
     rw[em]at f;refine⟨hd+1,_,_,_,fx,PY,_,rfl,{ f with dk:=f.dk.mono (by lia) },Qq,by rw[<-Jg];show zD.rs.length=_;rw[e1],?_,by show(zD.bs.length:Int)<=_;lia,by lia,?_,?_,HR,IW⟩
     ·show zD.bs.Nodup;rw[hp.nodup_iff,Tv];exact⟨JG,by simp,λx J y hy e=>el (by rw[<-Sg.mp hy,<-e];exact J)⟩
     ·show(v13.past++[_]).length<=_;rw[Sj,Sw];lia
     ·intro q hq;replace hq:q∈zD.rs:=hq;rw[e1]at hq;exact Ja q hq
   ·rw[Zh dj];exact br ⟨hd,_,_,u7,bk,Gk,v13,rfl,{ f with dk:=f.dk.mono (by lia) },Jb,Jg,JG,Ku,hh,by lia,Ja,HR,IW⟩
  ·obtain⟨hd,m,u6,u7,Bi,tb,v,rfl,f,cg,b2,c8,cj,hh,b8,ai,cx,bz⟩:=q;rw[R8]at b2 bz;have c2:=f.lg.okc;have Y:=f.lg;have ec:=f.lf;have JY:=f.sB.seq J2;have fC:∀q∈v.cur.rs,-(10 ^ 31)<=q.1/\q.1<10 ^ 31:=λq hq=>by
    have:=ai q hq;lia
   have RC:(cu v.cur).length=zs.length:=by unfold cu;rw[R8];exact b2
   clear f ai cx bz b8 cj hh cg J2 dp bu cp d5 dz d6 b3 c5 bl zZ cw hg Dn e1 e2 JX;refine⟨λx G=>∃(Z:Z6) (cells:List V),x = .ref Z/\G Z=some (.lst cells)/\(∀x∈cells,∃c:Int,x = .int c)/\af H9 G,λx G ⟨Z,cells,ex,hZ,b5,sZ⟩=>?_,?_⟩
   case refine_2=>
    refine⟨_,rfl,(1:Int),rfl,(9:Int),rfl,a,_,rfl,JY,λZ hZ=>?_⟩;have b5:∀x∈uF (ns.map V.int) (some 1) (some 9),∃c:Int,x = .int c:=λx J=>by
     obtain⟨c,_,rfl⟩:=Si.mp (IR J);exact⟨c,rfl⟩
    generalize uF (ns.map V.int) (some 1) (some 9)=Kx at b5;refine⟨_,.inl ⟨_,.of ab,rfl⟩,?_⟩;by_cases bb:Kx.isEmpty=true
    ·rw[bb];exact br ⟨(by show 1<=Zc;decide),λZ2 fc=>⟨Z2,_,rfl,ab,λx J=>⟨0,Sg.mp J⟩,(af.new hZ).trans (af.new fc)⟩⟩
    ·rw[SI.mpr bb];exact b9 ⟨Z,_,rfl,ab,b5,af.new hZ⟩
   refine⟨Z,ex,⟨_,.of hZ⟩,?_⟩;have OX:=sZ _ _ ec;have Y:=Y.same sZ;clear ec JY sZ ex;refine gz (K:=K) (xs:=cells) (λi B bg=>(∃u1 u4 u5 u6 u7 u8 u9 u10 u11 u12,B=[some (.ref a),u1,some (.ref g),some (.ref M),u4,u5,u6,u7,u8,u9,u10,u11,u12])/\af G bg) ⟨⟨_,_,_,_,_,_,_,_,_,_,rfl⟩,af.refl _⟩ (λi B bg _ q=>.of (q.2 _ _ hZ)) (λi x B bg J q=>?_) (λB bg q=>?_)
   ·obtain⟨c,rfl⟩:=b5 x (Sd J);obtain⟨q0,a7⟩:=q;apply Fk q0;clear q0;intro u1 u4 u5 _ _ u8 u9 u10 u11 u12;clear J b5 hZ;refine⟨_,rfl,c,1010,rfl,by decide,λe dy he a6 Ek=>?_⟩;have c9:G e=none:=a7.free he;have xD:=a7.trans a6;refine⟨3,rfl,by decide,by decide,λC hC=>?_⟩;have bt:e≠C:=Ek.ne hC;have cs:G C=none:=xD.free hC;refine eQ (lo:=0) (n:=(3:Int).toNat) (λi a4 B H13=>(∃u,B=[u,some (.ref e),some (.ref M)])/\af G (wo e H13)/\Dk H13 e (1010+2 * i)/\∃ks:List Int,a4=ks.map V.int/\ks.length=i) ab ⟨⟨_,rfl⟩,gm c9 (ax cs xD),Ek.same (af.new hC),[],rfl,rfl⟩ (λi a4 B H13 en cn q=>?_) (λa4 B H13 IE q=>?_)
    ·obtain⟨q0,W,BW,ks,rfl,c4⟩:=q;apply dJ q0;clear q0;intro u;have en:i<3:=en;have NU:=(W.trans bc) _ _ OX;refine cq ⟨_,rfl,(by show 1<=Zc;decide),λl1 ba=>⟨M,l1,_,_,rfl,rfl,.of (af.new ba _ _ NU),.of ab,?_,λl2 bp=>?_⟩⟩
     ·refine Sl (show((cu v.cur).map V.int).length+1<=100 by rw[R8];lia) (by decide)
     have a3:af H13 (upd (upd H13 l1 (.lst [.int 0])) l2 (.lst ((cu v.cur).map V.int++[V.int 0]))):=(af.new ba).trans (af.new bp);have Nd:(upd (upd H13 l1 (.lst [.int 0])) l2 (.lst ((cu v.cur).map V.int++[V.int 0]))) l2=some (.lst ((cu v.cur).map V.int++[V.int 0])):=ab;have fh:e≠l2:=(BW.same (af.new (o:=.lst [.int 0]) ba)).ne bp;generalize upd (upd H13 l1 (.lst [.int 0])) l2 (.lst ((cu v.cur).map V.int++[V.int 0]))=H14 at a3 Nd ⊢;have Pc:=a3 _ _ NU;refine⟨_,rfl,_,rfl,M,_,rfl,.inl (.of Pc),_,_,rfl,rfl,e,_,_,rfl,BW.same a3,by lia,by lia,by rw[R8];lia,λr dg S JA r0 r1=>?_⟩;obtain⟨k1,gi⟩:∃k1:Int,atI ((cu v.cur).map V.int++[V.int 0]) r=some (.int k1):=by
      obtain⟨j,rfl⟩:∃j:Nat,r=(j:Int):=⟨r.toNat,(Int.toNat_of_nonneg r0).symm⟩;have hj:j<(cu v.cur++[0]).length:=by rw[Sj,Sw];rw[R8]at r1;lia
      refine⟨(cu v.cur++[0])[j],cA ?_⟩;rw[show(cu v.cur).map V.int++[V.int 0]=(cu v.cur++[0]).map V.int by rw[Sm];rfl,Se,R9 hj];rfl
     refine⟨l2,_,r,_,rfl,rfl,.of (cf S Nd fh),gi,?_⟩;refine⟨_,rfl,e,3,_,rfl,JA,by lia,by decide,by decide,λr' c6 U IX _ _=>?_⟩;have Pp:c6 C=_:=cf U (cf S (a3 _ _ cn) bt) bt;refine⟨_,_,rfl,rfl,_,_,rfl,rfl,_,Pp,small (by rw[R8];lia),_,ab,⟨_,rfl⟩,gm c9 (ax cs λc o h=>?_),?_,ks++[k1+r' - 1],by rw[Sm];rfl,by rw[Sj,Sw];lia⟩
     ·have bb:c≠e:=λz=>by rw[z,c9]at h;cases h
      exact U _ _ (by rw[au bb];exact S _ _ (by rw[au bb];exact a3 _ _ ((W.trans bc) _ _ h)))
     ·exact(IX.mono (by lia)).upd bt
    ·obtain⟨_,W,BW,ks,rfl,c4⟩:=q;have c4:ks.length=3:=c4
     match ks,c4,IE with
     | [k1,k2,k3],_,IE=>
     have AM:af G H13:=W.trans bc;clear W BW Ek a6 he a7 xD;refine⟨_,rfl,_,rfl,_,rfl,Bi,g,pa,tb,M,C,v,k1,k2,k3,rfl,Y.same AM,c8,.of (AM _ _ OX),.of IE,λH14 a3=>⟨_,rfl,?_⟩⟩;refine br ?_;have wM:=AM.trans a3;clear AM a3 IE bt c9 cs hC;obtain⟨az,t1,f9,f7,a5⟩:=Y.gg;refine⟨_,rfl,g,az,_,rfl,wM _ _ a5,rfl,Bi,g,pa,tb,v,0,9,rfl,Y.same wM,λCT cv dg d3 S OB c1=>?_⟩;have FJ:=wM.trans S;refine⟨_,rfl,g,az,_,rfl,FJ _ _ a5,rfl,Bi,g,pa,tb,v,rfl,Y.same FJ,λPS pv c6 cc U OO b7=>⟨(by show 2<=Zc;decide),λt ht=>⟨t,rfl,⟨_,.of ab⟩,?_⟩⟩⟩;have Ow:=FJ.trans U;have eo:cv.length=(v.cur.bs++v.cur.fs).length:=by rw[c1.length,R8]
     have b8:pv.length=(v.cur.bs++v.cur.fs).length:=by rw[b7.length,R8]
     have QC:=(i3 (lo:=0) (hi:=0) c2).2;rw[gG]at QC;have OA:G CT=none:=wM.free d3;have Nz:G PS=none:=FJ.free cc;have sT:=af.new (o:=.tup [.ref CT,.ref PS]) ht;refine JU (K:=K) (xs:=[.ref CT,.ref PS]) (λj B I=>(∃u1 u4 u5 u6 u7 u8 u9 u10 u11 u12,B=[some (.ref a),u1,some (.ref g),some (.ref M),u4,u5,u6,u7,u8,u9,u10,u11,u12])/\af G I/\(∃R,I CT=some (.lst R)/\R.length<=130+j)/\(∃R,I PS=some (.lst R)/\R.length<=130+j)/\I t=some (.tup [.ref CT,.ref PS])) ⟨⟨_,_,_,_,_,_,_,_,_,_,rfl⟩,Ow.trans sT,⟨cv,sT _ _ (U _ _ OB),by lia⟩,⟨pv,sT _ _ OO,by lia⟩,ab⟩ (λj B I _ q=>.of q.2.2.2.2) (λj x B I J q=>?_) (λB I q=>?_)
     ·obtain⟨q0,N,⟨e5,bq,ba⟩,⟨di,bx,bp⟩,Kt⟩:=q;apply Fk q0;clear q0;intro v1 v4 v5 v6 v7 v8 v9 er fb fj;have hj:j<2:=aG J;have eg:∀(L:Z6) (R:List V),I L=some (.lst R)->R.length<=130+j->G L=none->af G (upd I L (.lst (R++[.non])))/\(∃ys',(upd I L (.lst (R++[.non]))) CT=some (.lst ys')/\ys'.length<=130+(j+1))/\(∃ys',(upd I L (.lst (R++[.non]))) PS=some (.lst ys')/\ys'.length<=130+(j+1))/\(upd I L (.lst (R++[.non]))) t=some (.tup [.ref CT,.ref PS]):=λL R hL hl h0=>by
       refine⟨ax h0 N,?_,?_,?_⟩
       ·by_cases h:CT=L
        ·subst h;exact⟨_,ab,by rw[Sj,Sw];lia⟩
        ·exact⟨_,by rw[aq h];exact bq,by lia⟩
       ·by_cases h:PS=L
        ·subst h;exact⟨_,ab,by rw[Sj,Sw];lia⟩
        ·exact⟨_,by rw[aq h];exact bx,by lia⟩
       ·rw[aq λz=>by rw[z,hL]at Kt;cases Kt];exact Kt
      have fa:j=0\/j=1:=by lia
      rcases fa with rfl | rfl
      ·cases J;exact⟨_,rfl,.inl ⟨rfl,_,.of bq⟩,CT,e5,_,rfl,rfl,bq,small (by lia),⟨_,_,_,_,_,_,_,_,_,_,rfl⟩,eg CT e5 bq ba OA⟩
      ·cases J;exact⟨_,rfl,.inl ⟨rfl,_,.of bx⟩,PS,di,_,rfl,rfl,bx,small (by lia),⟨_,_,_,_,_,_,_,_,_,_,rfl⟩,eg PS di bx bp Nz⟩
     ·obtain⟨q0,N,_⟩:=q;apply Fk q0;clear q0;intro v1 v4 v5 v6 v7 v8 v9 er fb fj;clear sT Nz OA b7 c1 OO OB U S ht cc d3 Ow FJ wM eo b8;refine⟨_,rfl,g,az,_,rfl,N _ _ a5,rfl,_,_,rfl,rfl,⟨by decide,by decide,by decide⟩,_,rfl,_,_,rfl,rfl,⟨by decide,by decide,by decide⟩,Bi,g,pa,tb,v,_,_,rfl,Y.same N,λCT cv de d3 cb Ou c1=>⟨CT,rfl,⟨_,.of Ou⟩,?_⟩⟩;have Nh:=N.trans cb;refine gz (K:=K) (xs:=cv) (λj B b0=>(∃u1 u4 u5 u6 u7 u8 u9 u10 u11 u12,B=[some (.ref a),u1,some (.ref g),some (.ref M),u4,u5,u6,u7,u8,u9,u10,u11,u12])/\af de b0) ⟨⟨_,_,_,_,_,_,_,_,_,_,rfl⟩,af.refl _⟩ (λj B b0 _ q=>.of (q.2 _ _ Ou)) (λj x B b0 J q=>?_) (λB b0 q=>?_)
      ·obtain⟨⟨w1,w4,w5,w6,w7,w8,w9,es,fo,fy,rfl⟩,aw⟩:=q;obtain⟨_,b4,bN⟩:=c1.get J;rw[Se]at b4;obtain⟨p,e1,rfl⟩:=Option.map_eq_some_iff.mp b4;have fz:=Sd e1;obtain⟨b,y,rfl,hq,fv⟩:=x8 bN;refine⟨b,_,rfl,aw.gL hq,rfl,_,_,rfl,_,_,rfl,rfl,?_⟩;have MR:=Nh.trans aw;rw[show cnt v.cur (-(10 ^ (31:Int).toNat)) (10 ^ (31:Int).toNat) p=(gu v.cur p).length from Jr fC];refine⟨_,rfl,g,az,_,rfl,MR _ _ a5,rfl,_,rfl,Bi,g,pa,tb,v,y,p,rfl,Y.same MR,fv.same aw,fz,λD as _ _ fw Nk Qj f5 dr=>⟨D,rfl,⟨_,.of Nk⟩,?_⟩⟩;have Oe:=Cg (p:=p) c2;refine gz (K:=K) (xs:=as.map V.ref) (λn B a0=>(∃u1 u4 u5 u6 u7 u8 u9 u10 u12,B=[some (.ref a),u1,some (.ref g),some (.ref M),u4,u5,u6,u7,u8,u9,u10,some (.int ((gu v.cur p).length:Nat)),u12])/\af b0 a0/\a0 D=some (.lst (as.map V.ref))/\∀n' a',n<=n'->as[n']? = some a'->∃R mm,a0 a' = some (.lst R)/\HwL a0 R mm/\(mm.map (·.2)).sum=(gu v.cur p).length/\R.length<64) ⟨⟨_,_,_,_,_,_,_,_,_,rfl⟩,fw,Nk,λn' a' _ h=>(dr a' (Sd h)).2⟩ (λn B a0 _ q=>.of q.2.2.1) (λn x B a0 J q=>?_) (λB a0 q=>?_)
       ·obtain⟨⟨z1,z4,z5,z6,z7,z8,z9,g5,ff,rfl⟩,cy,Q7,FU⟩:=q;rw[Se]at J;obtain⟨a1,b1,rfl⟩:=Option.map_eq_some_iff.mp J;have M9:=Sd b1;obtain⟨R,mm,hy,hw,DZ,fq⟩:=FU n a1 (Sb _) b1;have fg:b0 a1=none:=(dr a1 M9).1;have gn:mm.length<64:=by rw[<-hw.1];exact fq
        refine⟨_,rfl,a1,rfl,⟨_,.of hy⟩,λSL e4=>?_⟩;refine aK (K:=K) (xs:=R) (λk a4 B c3=>(∃u w,B=[u,w])/\af a0 c3/\a4=((mm.take k).map λx=>((x.2:Nat):Int)).map V.int) ab ⟨⟨_,_,rfl⟩,af.new e4,rfl⟩ (λk a4 B c3 _ _ q=>.of (q.2.1 _ _ hy)) (λk x a4 B c3 J cn q=>?_) (λa4 B c3 M4 q=>?_)
        ·obtain⟨⟨u,w,rfl⟩,X,rfl⟩:=q;have hk:=aG J;have e6:k<mm.length:=by rw[<-hw.1];exact hk
         have ew:mm[k]? = some (mm[k]'e6):=R9 e6;obtain⟨tp,rfl,fu⟩:=hw.2 k x _ J ew;refine⟨tp,_,rfl,.of (X _ _ fu),rfl,_,_,rfl,_,_,rfl,rfl,?_⟩;refine⟨_,rfl,_,cn,small (by rw[R8,R8,Sx];lia),_,ab,⟨_,_,rfl⟩,ax e4 X,?_⟩;rw[SG,ew,Sm,Sm];rfl
        ·obtain⟨_,X,rfl⟩:=q;rw[hw.1,Ta]at M4;refine⟨SL,_,rfl,.of M4,(λi hi=>?_),by rw[R8];lia,_,rfl,rfl,_,rfl,?_⟩
         ·obtain⟨x,J,rfl⟩:=Si.mp hi;have:=BR J;lia
         rw[pA λx:Str×Nat=>x.2,DZ,Zg rfl];refine br ?_;have KQ:=X _ _ hy;have gc:D≠a1:=λz=>f5 (z ▸ M9);refine⟨_,rfl,.inl ⟨rfl,_,.of KQ⟩,a1,R,_,rfl,rfl,KQ,small (by lia),⟨_,_,_,_,_,_,_,_,_,rfl⟩,ax fg (cy.trans X),by rw[aq gc];exact X _ _ Q7,λn' a' _ h'=>?_⟩;obtain⟨ys',gb,h1,h2,h3,h4⟩:=FU n' a' (by lia) h';have bo:a'≠a1:=λz=>by
          have i1:=aG h';have i2:=aG b1;rw[R9 i1]at h';rw[R9 i2]at b1;exact Ud.mp Qj n n' i2 i1 (by lia) ((Ye b1).trans (z.symm.trans (Ye h').symm))
         refine⟨ys',gb,by rw[aq bo];exact X _ _ h1,h2.mono λc _ hc=>?_,h3,h4⟩;have cz:=X _ _ hc;rw[aq λz=>by rw[z,KQ]at cz;cases cz];exact cz
       ·obtain⟨⟨z1,z4,z5,z6,z7,z8,z9,g5,ff,rfl⟩,cy,_⟩:=q;exact⟨⟨_,_,_,_,_,_,_,_,_,_,rfl⟩,aw.trans cy⟩
      ·obtain⟨⟨w1,w4,w5,w6,w7,w8,w9,es,fo,fy,rfl⟩,aw⟩:=q;exact⟨⟨_,_,_,_,_,_,_,_,_,_,rfl⟩,Nh.trans aw⟩
   ·exact k _
end
theorem hX1 {s:Vx} (e:hX s=true):PySem.W.xlAt hV [] s=true:=by unfold hX at e;exact(Tt.mp e).1
theorem hX2 {s:Vx} (e:hX s=true):PySem.W.recOk (PySem.W.RowW.records (PySem.W.OpenRow.toRowW (PySem.W.OpenLaw.row Yl))) s=true:=by unfold hX at e;exact(Tt.mp e).2
theorem hS:PySem.Challenge.rw_loggather_k26_whole_spans_of_time.wellSaid=true:=by kernel_rfl
abbrev hFo (i:Nat) (x:Str) (m:Vy) (c:Nat):Z7:=YB x x (cB (top i)) (bT (top i)) (ag (top i)) .none .none .none m none (.ref c) .none
theorem hDf {P:Params}{h:Heap}{mg:Str->Option Vy}{i f c:Nat}{x:Str}{m:Vy} (X:(hK P).In h) (G:h.Ns mainGlobals mg) (ps:List Str) (l:(hK P).lookup f=some (hFn i x m c)) (d:YO (hK P) (.ref c) x=true) (k:YF (hK P) (.ref f)=true) (a:PySem.W.nsIn (hK P) mainGlobals x=some (some (.ref f)))
  (b:∀(kV doc pm:Vy) (an:Option Z6) (cdv ct:Vy) (us:List Vy),us.length=ps.length->bindArgs (YB x x (cB (top i)) (bT (top i)) (ag (top i)) .none kV doc pm an cdv ct) ⟨us,[]⟩=pure (ps.zip us)):bz (hK P) mg x (top i) ps f (hFo i x m c):=
 have F:Fun (hK P) x x (top i) f (hFo i x m c):=Fl l d k
 ⟨F,F.binds b,Yt X G a⟩
abbrev Fz (i:Nat) (x:Str) (m:Vy) (c D:Nat):Z7:=YB x x (cB (top i)) (bT (top i)) (ag (top i)) (.ref D) .none .none m none (.ref c) .none
theorem QL {P:Params}{h:Heap}{mg:Str->Option Vy}{i f c D:Nat}{x:Str}{m:Vy} (X:(hK P).In h) (G:h.Ns mainGlobals mg) (ps:List Str) (l:(hK P).lookup f=some (hFd i x m c D)) (d:YO (hK P) (.ref c) x=true) (k:YF (hK P) (.ref f)=true) (a:PySem.W.nsIn (hK P) mainGlobals x=some (some (.ref f)))
  (b:Binds (hK P) (Fz i x m c D) ps []):GU (hK P) mg x (top i) ps f (Fz i x m c D):=
 ⟨⟨⟨_,_,_,_,_,_,_,_,_,_,rfl,l,d⟩,k⟩,b,Yt X G a⟩
abbrev mFo (i j:Nat) (x q:Str) (m:Vy) (c:Nat):Z7:=YB x q (cB (mIn i j)) (bT (mIn i j)) (ag (mIn i j)) .none .none .none m none (.ref c) .none
abbrev FI (i j:Nat) (x q:Str) (m:Vy) (c D:Nat):Z7:=YB x q (cB (mIn i j)) (bT (mIn i j)) (ag (mIn i j)) (.ref D) .none .none m none (.ref c) .none
theorem mDf {P:Params}{i j f c:Nat}{x q:Str}{m:Vy} (ps:List Str) (l:(hK P).lookup f=some ⟨.type "function",none,.func (mFd i j x q 3 m (.ref c)),#[]⟩) (d:YO (hK P) (.ref c) q=true) (k:YF (hK P) (.ref f)=true)
  (b:∀(kV doc pm:Vy) (an:Option Z6) (cdv ct:Vy) (us:List Vy),us.length=ps.length->bindArgs (YB x q (cB (mIn i j)) (bT (mIn i j)) (ag (mIn i j)) .none kV doc pm an cdv ct) ⟨us,[]⟩=pure (ps.zip us)):gX (hK P) x q (mIn i j) ps f (mFo i j x q m c):=
 ⟨⟨⟨_,_,_,_,_,_,_,_,_,rfl,l,d⟩,k⟩,Binds.all λus a=>b _ _ _ _ _ _ us a⟩
theorem Pg {P:Params}{i j f c D:Nat}{x q:Str}{m:Vy} (ps:List Str) (l:(hK P).lookup f=some ⟨.type "function",none,.func (KN i j x q 3 m (.ref c) D),#[]⟩) (d:YO (hK P) (.ref c) q=true) (k:YF (hK P) (.ref f)=true) (b:Binds (hK P) (FI i j x q m c D) ps []):F6 (hK P) x q (mIn i j) ps f (FI i j x q m c D):=
 ⟨⟨⟨_,_,_,_,_,_,_,_,_,_,rfl,l,d⟩,k⟩,b⟩
theorem on1 {C:List Vy->Prop} (h:∀a0,C [a0]):∀us:List Vy,us.length=1->C us
 | [a0],_=>h a0
theorem on2 {C:List Vy->Prop} (h:∀a0 a1,C [a0,a1]):∀us:List Vy,us.length=2->C us
 | [a0,a1],_=>h a0 a1
theorem on3 {C:List Vy->Prop} (h:∀a0 a1 a2,C [a0,a1,a2]):∀us:List Vy,us.length=3->C us
 | [a0,a1,a2],_=>h a0 a1 a2
theorem on4 {C:List Vy->Prop} (h:∀a0 a1 a2 a3,C [a0,a1,a2,a3]):∀us:List Vy,us.length=4->C us
 | [a0,a1,a2,a3],_=>h a0 a1 a2 a3
theorem uD {P:Params}{s:Vx} (X:(hK P).In s.heap) (us:List Vy) (a:us.length=2):BindsTo s (Fz 43 "gathered" (.str "loggather.gathering" 450) 263 259) ⟨us,[]⟩ ((["lines","sieve"]:List Str).zip (us++[])):=by
 rw[S3];exact on2 (C:=λus=>BindsTo s (Fz 43 "gathered" (.str "loggather.gathering" 450) 263 259) ⟨us,[]⟩ ((["lines","sieve"]:List Str).zip us)) (λ_ _=>BindsTo.of_defaults rfl (X 259 _ rfl) rfl rfl rfl) us a
theorem uE {P:Params}{s:Vx} (X:(hK P).In s.heap) (us:List Vy) (a:us.length=2):BindsTo s (FI 54 0 "__init__" "Log.__init__" (.str "loggather.logs" 536) 333 327) ⟨us,[]⟩ ((["self","sieve"]:List Str).zip (us++[])):=by
 rw[S3];exact on2 (C:=λus=>BindsTo s (FI 54 0 "__init__" "Log.__init__" (.str "loggather.logs" 536) 333 327) ⟨us,[]⟩ ((["self","sieve"]:List Str).zip us)) (λ_ _=>BindsTo.of_defaults rfl (X 327 _ rfl) rfl rfl rfl) us a
def hA:Ad:=⟨21,hFo 0 "_wall" (.str "__main__" 164) 20,108,hFo 13 "has_only" (.str "loggather.words" 303) 107,115,hFo 14 "is_word" (.str "loggather.words" 303) 114,122,hFo 15 "kind_of" (.str "loggather.words" 303) 121,129,hFo 16 "words_of" (.str "loggather.words" 303) 128,134,hFo 17 "is_line" (.str "loggather.words" 303) 133,141,hFo 18 "word_key" (.str "loggather.words" 303) 140,149,hFo 22 "is_part" (.str "loggather.patterns" 355) 148,154,hFo 23 "is_pattern" (.str "loggather.patterns" 355) 153,161,hFo 24 "is_hole" (.str "loggather.patterns" 355) 160,168,hFo 25 "part_takes" (.str "loggather.patterns" 355) 167,175,hFo 26 "all_taken" (.str "loggather.patterns" 355) 174,182,hFo 27 "fits" (.str "loggather.patterns" 355) 181,189,hFo 28 "kind_of_hole_around" (.str "loggather.patterns" 355) 188,194,hFo 29 "joined_part" (.str "loggather.patterns" 355) 193,199,hFo 30 "joined" (.str "loggather.patterns" 355) 198,206,hFo 31 "part_key" (.str "loggather.patterns" 355) 205,211,hFo 32 "pattern_key" (.str "loggather.patterns" 355) 210,216,hFo 33 "ordered" (.str "loggather.patterns" 355) 215,224,hFo 36 "grouped" (.str "loggather.gathering" 450) 223,229,hFo 37 "words_at" (.str "loggather.gathering" 450) 228,236,hFo 38 "many_unlike_at" (.str "loggather.gathering" 450) 235,241,hFo 39 "is_fit_to_part_at" (.str "loggather.gathering" 450) 240,246,hFo 40 "place_to_part_at" (.str "loggather.gathering" 450) 245,253,hFo 41 "parted" (.str "loggather.gathering" 450) 252,258,hFo 42 "pattern_of_group" (.str "loggather.gathering" 450) 257,264,Fz 43 "gathered" (.str "loggather.gathering" 450) 263 259,271,hFo 45 "looseness_of_part" (.str "loggather.falling" 515) 270,276,hFo 46 "looseness" (.str "loggather.falling" 515) 275,281,hFo 47 "falls_under" (.str "loggather.falling" 515) 280,288,hFo 51 "how_often" (.str "loggather.logs" 536) 287,293,hFo 52 "words_in_order" (.str "loggather.logs" 536) 292,461,hFo 56 "_law_deck" (.str "law_loggather_k26_whole_spans_of_time" 759) 460,468,hFo 57 "_law_pick" (.str "law_loggather_k26_whole_spans_of_time" 759) 467,473,hFo 58 "_law_kind" (.str "law_loggather_k26_whole_spans_of_time" 759) 472,478,hFo 59 "_law_word" (.str "law_loggather_k26_whole_spans_of_time" 759) 477,483,hFo 60 "_law_line" (.str "law_loggather_k26_whole_spans_of_time" 759) 482,488,hFo 61 "_law_lines" (.str "law_loggather_k26_whole_spans_of_time" 759) 487,495,hFo 62 "_law_pattern" (.str "law_loggather_k26_whole_spans_of_time" 759) 494,502,hFo 63 "_law_sieve" (.str "law_loggather_k26_whole_spans_of_time" 759) 501,507,hFo 64 "_law_many" (.str "law_loggather_k26_whole_spans_of_time" 759) 506,512,hFo 65 "_law_spans_right" (.str "law_loggather_k26_whole_spans_of_time" 759) 511,517,hFo 66 "law" (.str "law_loggather_k26_whole_spans_of_time" 759) 516,305,mFo 53 0 "__init__" "State.__init__" (.str "loggather.logs" 536) 304,334,FI 54 0 "__init__" "Log.__init__" (.str "loggather.logs" 536) 333 327,341,mFo 54 1 "__len__" "Log.__len__" (.str "loggather.logs" 536) 340,348,mFo 54 2 "__eq__" "Log.__eq__" (.str "loggather.logs" 536) 347,355,mFo 54 3 "held" "Log.held" (.str "loggather.logs" 536) 354,362,mFo 54 4 "rows_with_falls" "Log.rows_with_falls" (.str "loggather.logs" 536) 361,369,mFo 54 5 "turn_to" "Log.turn_to" (.str "loggather.logs" 536) 368,376,mFo 54 6 "do_deed" "Log.do_deed" (.str "loggather.logs" 536) 375,383,mFo 54 7 "come" "Log.come" (.str "loggather.logs" 536) 382,390,mFo 54 8 "put" "Log.put" (.str "loggather.logs" 536) 389,404,mFo 54 10 "back" "Log.back" (.str "loggather.logs" 536) 403,411,mFo 54 11 "again" "Log.again" (.str "loggather.logs" 536) 410,423,mFo 54 13 "patterns" "Log.patterns" (.str "loggather.logs" 536) 422,430,mFo 54 14 "under" "Log.under" (.str "loggather.logs" 536) 429,442,mFo 54 16 "counts" "Log.counts" (.str "loggather.logs" 536) 441,447,mFo 54 17 "holes" "Log.holes" (.str "loggather.logs" 536) 446,142,217,315,450,245,243⟩
theorem hT {P:Params}{h:Heap}{mg:Str->Option Vy} (X:(hK P).In h) (G:h.Ns mainGlobals mg):Tx (hK P) mg hA:=⟨Yc X G (by kernel_rfl),
 Yc X G (by kernel_rfl),
 Yc X G (by kernel_rfl),
 Yc X G (by kernel_rfl),
 Yc X G (by kernel_rfl),
 Yc X G (by kernel_rfl),
 Yc X G (by kernel_rfl),
 Yc X G (by kernel_rfl),
 Yc X G (by kernel_rfl),
 Yc X G (by kernel_rfl),
 Yc X G (by kernel_rfl),
 Yc X G (by kernel_rfl),
 Yc X G (by kernel_rfl),
 Yc X G (by kernel_rfl),
 Yc X G (by kernel_rfl),
 Yc X G (by kernel_rfl),
 Yc X G (by kernel_rfl),
 ⟨305,Yt X G (by kernel_rfl)⟩,
 (by rw[Ir];exact⟨307,Yt X G (by kernel_rfl)⟩),
 (by rw[HL];exact⟨309,Yt X G (by kernel_rfl)⟩),
 (by rw[Hf];exact⟨311,Yt X G (by kernel_rfl)⟩),
 ⟨357,Yt X G (by kernel_rfl)⟩,
 Yt X G (by kernel_rfl),
 (λH=>.inr ⟨_,_,_,rfl,rfl,rfl,(by show 3<=Zc;decide),.cons ⟨_,rfl⟩ (.cons ⟨_,rfl⟩ (.cons ⟨_,rfl⟩ (.nil)))⟩),
 ⟨_,rfl,rfl,rfl⟩,
 Yt X G (by kernel_rfl),
 (λH=>.inr ⟨_,_,_,rfl,rfl,rfl,(by show 2<=Zc;decide),.cons ⟨_,rfl⟩ (.cons ⟨_,rfl⟩ (.nil))⟩),
 ⟨_,rfl,rfl,rfl⟩,
 ⟨538,Yt X G (by kernel_rfl)⟩,
 ⟨540,Yt X G (by kernel_rfl)⟩,
 hDf X G ["k"] rfl (by kernel_rfl) (by kernel_rfl) (by kernel_rfl) λ_ _ _ _ _ _=>on1 λ_=>rfl,
 hDf X G ["text","signs"] rfl (by kernel_rfl) (by kernel_rfl) (by kernel_rfl) λ_ _ _ _ _ _=>on2 λ_ _=>rfl,
 hDf X G ["thing"] rfl (by kernel_rfl) (by kernel_rfl) (by kernel_rfl) λ_ _ _ _ _ _=>on1 λ_=>rfl,
 hDf X G ["word"] rfl (by kernel_rfl) (by kernel_rfl) (by kernel_rfl) λ_ _ _ _ _ _=>on1 λ_=>rfl,
 hDf X G ["line"] rfl (by kernel_rfl) (by kernel_rfl) (by kernel_rfl) λ_ _ _ _ _ _=>on1 λ_=>rfl,
 hDf X G ["thing"] rfl (by kernel_rfl) (by kernel_rfl) (by kernel_rfl) λ_ _ _ _ _ _=>on1 λ_=>rfl,
 hDf X G ["word"] rfl (by kernel_rfl) (by kernel_rfl) (by kernel_rfl) λ_ _ _ _ _ _=>on1 λ_=>rfl,
 hDf X G ["thing"] rfl (by kernel_rfl) (by kernel_rfl) (by kernel_rfl) λ_ _ _ _ _ _=>on1 λ_=>rfl,
 hDf X G ["thing"] rfl (by kernel_rfl) (by kernel_rfl) (by kernel_rfl) λ_ _ _ _ _ _=>on1 λ_=>rfl,
 hDf X G ["part"] rfl (by kernel_rfl) (by kernel_rfl) (by kernel_rfl) λ_ _ _ _ _ _=>on1 λ_=>rfl,
 hDf X G ["part","word"] rfl (by kernel_rfl) (by kernel_rfl) (by kernel_rfl) λ_ _ _ _ _ _=>on2 λ_ _=>rfl,
 hDf X G ["parts","words"] rfl (by kernel_rfl) (by kernel_rfl) (by kernel_rfl) λ_ _ _ _ _ _=>on2 λ_ _=>rfl,
 hDf X G ["pattern","line"] rfl (by kernel_rfl) (by kernel_rfl) (by kernel_rfl) λ_ _ _ _ _ _=>on2 λ_ _=>rfl,
 hDf X G ["part"] rfl (by kernel_rfl) (by kernel_rfl) (by kernel_rfl) λ_ _ _ _ _ _=>on1 λ_=>rfl,
 hDf X G ["parts"] rfl (by kernel_rfl) (by kernel_rfl) (by kernel_rfl) λ_ _ _ _ _ _=>on1 λ_=>rfl,
 hDf X G ["patterns"] rfl (by kernel_rfl) (by kernel_rfl) (by kernel_rfl) λ_ _ _ _ _ _=>on1 λ_=>rfl,
 hDf X G ["part"] rfl (by kernel_rfl) (by kernel_rfl) (by kernel_rfl) λ_ _ _ _ _ _=>on1 λ_=>rfl,
 hDf X G ["pattern"] rfl (by kernel_rfl) (by kernel_rfl) (by kernel_rfl) λ_ _ _ _ _ _=>on1 λ_=>rfl,
 hDf X G ["patterns"] rfl (by kernel_rfl) (by kernel_rfl) (by kernel_rfl) λ_ _ _ _ _ _=>on1 λ_=>rfl,
 hDf X G ["rows","keys"] rfl (by kernel_rfl) (by kernel_rfl) (by kernel_rfl) λ_ _ _ _ _ _=>on2 λ_ _=>rfl,
 hDf X G ["group","place"] rfl (by kernel_rfl) (by kernel_rfl) (by kernel_rfl) λ_ _ _ _ _ _=>on2 λ_ _=>rfl,
 hDf X G ["group","place"] rfl (by kernel_rfl) (by kernel_rfl) (by kernel_rfl) λ_ _ _ _ _ _=>on2 λ_ _=>rfl,
 hDf X G ["group","place","sieve"] rfl (by kernel_rfl) (by kernel_rfl) (by kernel_rfl) λ_ _ _ _ _ _=>on3 λ_ _ _=>rfl,
 hDf X G ["group","sieve"] rfl (by kernel_rfl) (by kernel_rfl) (by kernel_rfl) λ_ _ _ _ _ _=>on2 λ_ _=>rfl,
 hDf X G ["group","sieve"] rfl (by kernel_rfl) (by kernel_rfl) (by kernel_rfl) λ_ _ _ _ _ _=>on2 λ_ _=>rfl,
 hDf X G ["group"] rfl (by kernel_rfl) (by kernel_rfl) (by kernel_rfl) λ_ _ _ _ _ _=>on1 λ_=>rfl,
 QL X G ["lines","sieve"] rfl (by kernel_rfl) (by kernel_rfl) (by kernel_rfl) λs c b a=>uD b c (by rw[S3]at a;exact a),
 hDf X G ["part"] rfl (by kernel_rfl) (by kernel_rfl) (by kernel_rfl) λ_ _ _ _ _ _=>on1 λ_=>rfl,
 hDf X G ["pattern"] rfl (by kernel_rfl) (by kernel_rfl) (by kernel_rfl) λ_ _ _ _ _ _=>on1 λ_=>rfl,
 hDf X G ["line","patterns"] rfl (by kernel_rfl) (by kernel_rfl) (by kernel_rfl) λ_ _ _ _ _ _=>on2 λ_ _=>rfl,
 hDf X G ["things"] rfl (by kernel_rfl) (by kernel_rfl) (by kernel_rfl) λ_ _ _ _ _ _=>on1 λ_=>rfl,
 hDf X G ["words"] rfl (by kernel_rfl) (by kernel_rfl) (by kernel_rfl) λ_ _ _ _ _ _=>on1 λ_=>rfl,
 hDf X G ["cell","turn"] rfl (by kernel_rfl) (by kernel_rfl) (by kernel_rfl) λ_ _ _ _ _ _=>on2 λ_ _=>rfl,
 hDf X G ["deck","many"] rfl (by kernel_rfl) (by kernel_rfl) (by kernel_rfl) λ_ _ _ _ _ _=>on2 λ_ _=>rfl,
 hDf X G ["word"] rfl (by kernel_rfl) (by kernel_rfl) (by kernel_rfl) λ_ _ _ _ _ _=>on1 λ_=>rfl,
 hDf X G ["deck"] rfl (by kernel_rfl) (by kernel_rfl) (by kernel_rfl) λ_ _ _ _ _ _=>on1 λ_=>rfl,
 hDf X G ["deck","most"] rfl (by kernel_rfl) (by kernel_rfl) (by kernel_rfl) λ_ _ _ _ _ _=>on2 λ_ _=>rfl,
 hDf X G ["deck","most"] rfl (by kernel_rfl) (by kernel_rfl) (by kernel_rfl) λ_ _ _ _ _ _=>on2 λ_ _=>rfl,
 hDf X G ["deck","line"] rfl (by kernel_rfl) (by kernel_rfl) (by kernel_rfl) λ_ _ _ _ _ _=>on2 λ_ _=>rfl,
 hDf X G ["deck"] rfl (by kernel_rfl) (by kernel_rfl) (by kernel_rfl) λ_ _ _ _ _ _=>on1 λ_=>rfl,
 hDf X G ["log","low","high"] rfl (by kernel_rfl) (by kernel_rfl) (by kernel_rfl) λ_ _ _ _ _ _=>on3 λ_ _ _=>rfl,
 hDf X G ["log","moments","cuts"] rfl (by kernel_rfl) (by kernel_rfl) (by kernel_rfl) λ_ _ _ _ _ _=>on3 λ_ _ _=>rfl,
 mDf ["self","sieve","rows","by_hand"] rfl (by kernel_rfl) (by kernel_rfl) λ_ _ _ _ _ _=>on4 λ_ _ _ _=>rfl,
 Pg ["self","sieve"] rfl (by kernel_rfl) (by kernel_rfl) λs c b a=>uE b c (by rw[S3]at a;exact a),
 mDf ["self"] rfl (by kernel_rfl) (by kernel_rfl) λ_ _ _ _ _ _=>on1 λ_=>rfl,
 mDf ["self","other"] rfl (by kernel_rfl) (by kernel_rfl) λ_ _ _ _ _ _=>on2 λ_ _=>rfl,
 mDf ["self"] rfl (by kernel_rfl) (by kernel_rfl) λ_ _ _ _ _ _=>on1 λ_=>rfl,
 mDf ["self"] rfl (by kernel_rfl) (by kernel_rfl) λ_ _ _ _ _ _=>on1 λ_=>rfl,
 mDf ["self","held"] rfl (by kernel_rfl) (by kernel_rfl) λ_ _ _ _ _ _=>on2 λ_ _=>rfl,
 mDf ["self","rows","by_hand"] rfl (by kernel_rfl) (by kernel_rfl) λ_ _ _ _ _ _=>on3 λ_ _ _=>rfl,
 mDf ["self","moment","line"] rfl (by kernel_rfl) (by kernel_rfl) λ_ _ _ _ _ _=>on3 λ_ _ _=>rfl,
 mDf ["self","pattern"] rfl (by kernel_rfl) (by kernel_rfl) λ_ _ _ _ _ _=>on2 λ_ _=>rfl,
 mDf ["self"] rfl (by kernel_rfl) (by kernel_rfl) λ_ _ _ _ _ _=>on1 λ_=>rfl,
 mDf ["self"] rfl (by kernel_rfl) (by kernel_rfl) λ_ _ _ _ _ _=>on1 λ_=>rfl,
 mDf ["self"] rfl (by kernel_rfl) (by kernel_rfl) λ_ _ _ _ _ _=>on1 λ_=>rfl,
 mDf ["self","number"] rfl (by kernel_rfl) (by kernel_rfl) λ_ _ _ _ _ _=>on2 λ_ _=>rfl,
 mDf ["self","low","high"] rfl (by kernel_rfl) (by kernel_rfl) λ_ _ _ _ _ _=>on3 λ_ _ _=>rfl,
 mDf ["self","pattern"] rfl (by kernel_rfl) (by kernel_rfl) λ_ _ _ _ _ _=>on2 λ_ _=>rfl,
 Yt X G (by kernel_rfl),
 ⟨by kernel_rfl,by kernel_rfl,by kernel_rfl,by kernel_rfl⟩,
 ⟨by kernel_rfl,by kernel_rfl,by kernel_rfl,by kernel_rfl,by kernel_rfl⟩,
 ⟨by kernel_rfl,by kernel_rfl,by kernel_rfl,by kernel_rfl⟩,
 (by unfold bS;kernel_rfl),
 (by unfold bS;kernel_rfl),
 (by unfold bS;kernel_rfl),
 (by unfold bS;kernel_rfl),
 Yt X G (by kernel_rfl),
 ⟨by kernel_rfl,by kernel_rfl,by kernel_rfl,by kernel_rfl⟩,
 ⟨by kernel_rfl,by kernel_rfl,by kernel_rfl,by kernel_rfl,by kernel_rfl⟩,
 ⟨by kernel_rfl,by kernel_rfl,by kernel_rfl,by kernel_rfl⟩,
 ⟨by kernel_rfl,by kernel_rfl,by kernel_rfl⟩,
 ⟨by kernel_rfl,by kernel_rfl,by kernel_rfl⟩,
 ⟨by kernel_rfl,by kernel_rfl,by kernel_rfl⟩,
 ⟨by kernel_rfl,by kernel_rfl,by kernel_rfl⟩,
 ⟨by kernel_rfl,by kernel_rfl,by kernel_rfl⟩,
 ⟨by kernel_rfl,by kernel_rfl,by kernel_rfl⟩,
 ⟨by kernel_rfl,by kernel_rfl,by kernel_rfl⟩,
 ⟨by kernel_rfl,by kernel_rfl,by kernel_rfl⟩,
 ⟨by kernel_rfl,by kernel_rfl,by kernel_rfl⟩,
 ⟨by kernel_rfl,by kernel_rfl,by kernel_rfl⟩,
 ⟨by kernel_rfl,by kernel_rfl,by kernel_rfl⟩,
 ⟨by kernel_rfl,by kernel_rfl,by kernel_rfl⟩,
 ⟨by kernel_rfl,by kernel_rfl,by kernel_rfl⟩,
 ⟨by kernel_rfl,by kernel_rfl,by kernel_rfl⟩,
 (by unfold bS;kernel_rfl),
 (by unfold bS;kernel_rfl),
 (by unfold bS;kernel_rfl),
 (by unfold bS;kernel_rfl),
 (by unfold bS;kernel_rfl),
 ⟨rfl,λh b=>PySem.W.codeHd_of_K b (by kernel_rfl),4,_,Yt X G (by kernel_rfl),by decide,by decide,rfl,rfl,rfl,rfl⟩⟩
theorem hF (w:Za) (mg:Str->Option Vy) (a:Z6) (h:Heap) (X:(hK w.params).In h) (G:h.Ns mainGlobals mg) (e:mg "law" = some (.ref a)) :
  ∃fd:Z7,(∀(s:Vx) (u:Vy),BindsTo s fd ⟨[u],[]⟩ [("script",u)])/\∀base:Heap,aA PySem.Challenge.rw_loggather_k26_whole_spans_of_time.prog w (hK w.params) mg base CX0 26 a fd ["script"] (xR (hK w.params) 243):=by
 have q:=e.symm.trans (Yt X G (show PySem.W.nsIn (hK w.params) mainGlobals "law" = some (some (.ref 517))by kernel_rfl));cases q;exact⟨hFo 66 "law" (.str "law_loggather_k26_whole_spans_of_time" 759) 516,λs v=>.of_eq rfl,λbase=>KU (A:=hA) (Fl rfl (by kernel_rfl) (by kernel_rfl)) (hT X G)⟩
abbrev hSp:=xR
end K26
open PySem PySem.W PyProof.Rows
set_option maxRecDepth 100000 in
theorem PySem.Challenge.cw_loggather_k26_whole_spans_of_time_holds : PySem.Challenge.rw_loggather_k26_whole_spans_of_time.Holds := by
 refine holds_law K26.hS λf=>@PySem.W.holds_open (OpenLaw.row Yl) K26.hV K26.hLo K26.hX (XL K26.hV []) _ K26.hH.obs K26.hH.val K26.hH.says ?dr ?kw 7470 K26.hL K26.hH.of K26.hH.keeps
  (λs e=>xl_of s (K26.hX1 e)) XL.keeps ?x1 ?x2 ?x3 (λs e=>recFacts_of (K26.hX2 e)) ?x4 f ?x5 ?x6 ?hw ?hc
 case x1=>exact rfl
 case x2=>exact rfl
 case x3=>exact rfl
 case x4=>rfl
 case x5=>decide +kernel
 case x6=>exact⟨rfl,rfl,rfl,rfl,rfl,by decide +kernel⟩
 case hw=>w_witness2
 exact L2.FZ (l:=Yl) (n:=63) (k:=26) (x:= "script") (K:=K26.hK) (c:=245) (T:=243) (sp:=λw=>K26.hSp (K26.hK w.params) 243) rfl (by decide) rfl ⟨rfl,by decide,by decide,rfl⟩ (λw h Y=>⟨PySem.W.km_in_of Y,PySem.W.km_tabs_of Y _ (List.Mem.head _)⟩) (λw h X=>PySem.W.codeHd_of_K X (by kernel_rfl)) (λw=>by kernel_rfl)
  (λw g m h X G e=>let ⟨fd,b,k⟩:=K26.hF w g m h X G e;⟨fd,b,λd=>k d⟩) (λ_ _ a i j hT hS=>⟨a,i,rfl,hS,j,⟨_,hT,trivial,.inl rfl⟩,λ_=>rfl⟩)
