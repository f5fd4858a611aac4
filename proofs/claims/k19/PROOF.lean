import PyProof.Rows.All
import Wide.All
import OpenK.AllK
import Wide.FinOn
import Lean
import PyProof.EqAt
import PyProof.EqKinds
import PyProof.TupleCall
import PyProof.NeData
import PyProof.StrLawsChain
import KE.KSortTup
import KE.KRevSl
import KE.KMinKey
import PyProof.P3In
import KE.KRevIter
import KE.KDictSum
import PyProof.StrCalls6
import PyProof.ToksMono
import PyProof.ReprRoads
import PyProof.StrOps2
import KE.KDictLaws
import KE.KDictList
import PyProof.DictValues
import PyProof.TupleKey
import PyProof.IsRules
import PyProof.Rows.SetFrom
import PyProof.DictWalks
import PyProof.FactsAll.set_1
import PyProof.ReprText
import KE.KLam
import PyProof.WalkInts
import PyProof.ZipIter
import PyProof.CollectWalk
import PyProof.ListNew
import PyProof.ListStr
import PyProof.Rows.Range3
import PySem.Challenge.RW_loggather_k19_whole_lines_in_any_order
set_option maxHeartbeats 8000000
abbrev Xz:=PySem.W.Frag
abbrev Xy:=PySem.Value
abbrev Xx:=PySem.Shared
abbrev Uq:=List PySem.Str
abbrev Ul:=List Uq
abbrev Uy:=Array Xy
abbrev Uz:=List PySem.Addr
abbrev UF:=List PySem.PyData
abbrev WF:=List Xy
def Xw:=@PySem.wpAny_bind
def Xv:=@PySem.wpAny_pure
def Xu:=@PySem.Heap.get?_push_of_some
def Xs:=@PySem.wpAny_mono
def Xr:=@PySem.wpAny_holding
open PySem.Challenge renaming pw_loggather_k19_whole_lines_in_any_order→Y0,rw_loggather_k19_whole_lines_in_any_order→Yj
open PySem.PyData renaming strOk→Y1,canLayAll0→Y5,depthAll→Y6,eqv→Yc,depth→Yr,eqvAll→YN
open PySem.Heap renaming lt_size→Y2,get?_push_size→Y3,get?_update_other→Yu,SameBut→YI,size_push→YZ
open PySem.Txt renaming split→Y4,join→YG,slice→YO,stripChars→Z0
open List renaming range→Y7,getD→YA,toArray→YJ,lookup→YT,length→YV
open PySem.Obj renaming mapSeq→Y8
open PySem.F renaming plainAttrs_list→Y9,slot_list_append→Yk,type_list_append→Yl,plain_min_loop→Yv,plainAttrs_str→Yw,slot_list_count→Z4
open PySem renaming boot_len→Yb,mem_of_lookup→Yq,Addr→Za,FuncData→Zb,Around→Zc,Program→Zd,World→Ze,PyData→Zf,sizeLine→Zg,wpAny→Zh,starEach→Zi,SetTable→Zj
open PySem.W renaming mg_none_of→Yd,boot_heap→Yn,findIn→Yp,kia_one→Ys,mg_of→Yt,emptyDict→Yz,fnOf→YC,keepIn→YF,topFrame→YH,instObj→YK,codeIn→YP
open Option.some renaming inj→Ye
open PySem.Around renaming under_plainId→Yg
open PySem.Str renaming empty→Yh,ofString→Yo,length→YX,join→Z5
open PySem.Heap.SameBut renaming update→Yi
open PyProof.Rows renaming callWith_type1→Ym
open PySem.PassesOwn renaming never→Yx
open PySem.Builtin.List renaming listExtendWith→Yy,listSameRef→YY
open PySem.Builtin.SmallTypes renaming ownedTupleIsFree→YB,nextOf→YS
open PySem.Calls renaming spliced_cons→YD,callWith_builtin→YM,spliced_nil→YU
open Exists renaming choose_spec→YE
open PyProof.Rows.F renaming plain_set_update_loop→YL
open PySem.SetTable renaming grown→YQ,below→Z9
open Ne renaming symm→YR
open PySem.SetTable.below renaming go→YW
open Array renaming getD→Z6
open PySem.W.KasT renaming kasWp→Z7
open List.Perm renaming refl→Z8
def Zk:=@decide_eq_true
def Zl:=@decide_eq_false
def Zm:=@of_decide_eq_true
def Zn:=@if_pos
def Zo:=@if_neg
open List renaming length_map→UA,getElem?_eq_getElem→UB,mem_of_getElem?→UC,mem_map→UE,mem_singleton→UG,length_append→UH,getElem?_map→UI,mem_cons_of_mem→UJ,map_append→UL,mem_cons_self→UM,size_toArray→UN,take_of_length_le→UP,length_singleton→UQ,mem_cons→UR,getD_eq_getElem?_getD→US,length_take→UT,map_cons→UW,take_add_one→UX,mem_append→UY,mem_filter→U0,length_cons→U1,all_eq_true→U4,map_congr_left→U5,getElem?_append_left→U6,mem_append_right→U8,length_filter_le→U9,getElem?_append_right→Vb,map_map→Vc,append_nil→Vd,getElem?_zip_eq_some→Vf,getElem_mem→Vh,filter_append→Vi,mem_range→Vj,drop_eq_getElem_cons→Vk,take_length→Vl,sum_cons→Vo,getElem?_eq_none→Vp,filterMap_cons→Vq,eq_nil_of_length_eq_zero→Vr,any_cons→Vt,filterMap_append→Vu,find?_cons→Vw,lookup_cons→Vx,drop_of_length_le→Vy,any_eq_true→Vz,getElem?_eq_some_iff→VA,exists_mem_of_ne_nil→VB,map_eq_nil_iff→VC,pairwise_map→VD,nodup_append→VE,nodup_cons→VG,length_nil→VH,not_mem_nil→VI,getElem?_of_mem→VJ,countP_cons→VL,length_range→VN,mem_flatMap→VO,filter_cons→VP,map_nil→VQ,mem_of_mem_take→VS,filter_cons_of_neg→VT,length_zip→VU,length_drop→VY,filterMap_map→V0,mem_append_left→V3,mem_map_of_mem→V5,length_eq_zero_iff→V6,filter_cons_of_pos→V7,ext_getElem→V8,mem_filterMap→Wc,take_append_drop→We,getElem?_toArray→Wf,flatMap_cons→Wg,nodup_nil→Wh,getElem?_eq_none_iff→Wm,length_pos_iff→Wn,all_cons→Wp,range_succ→Wr,forIn_cons→Ws,zip_cons_cons→Wv,foldl_append→Ww,filter_eq_nil_iff→Wx,any_eq_false→Wy,length_replicate→WA,isEmpty_iff→WB,mem_iff_getElem→WD,drop_eq_nil_iff→WE,count_singleton→WG,of_mem_zip→WH,dropLast_concat_getLast→WI,perm_ext_iff_of_nodup→WK,length_eraseIdx_of_lt→WL,drop_zero→WM,count_eq_zero→WN,pairwise_iff_getElem→WS,take_sublist→WU,count_append→WV,append_assoc→WW,length_filterMap_le→WY,map_snd_zip→WZ,getElem_map→W0,getElem?_replicate→W1,cons_append→W2,getElem?_set_self→W5
open Nat renaming le_refl→UD,le_trans→UK,zero_le→UU,ne_of_lt→U2,lt_of_lt_of_le→U7,lt_or_ge→Vs,lt_irrefl→Vv,add_le_add_right→VR,le_succ→VX,min_self→V1,le_of_lt→V2,lt_of_le_of_lt→Wb,sub_self→Wi,ne_of_gt→Wj,lt_trans→Wk,lt_succ_self→Wl,min_eq_left→Wq,lt_succ_of_lt→WT,zero_add→W3,le_of_eq→W4
open Bool renaming false_ne_true→UO,eq_false_iff→U3,eq_iff_iff→Va,false_eq_true→Ve,and_eq_true→Vm,and_eq_true_iff→VM,true_and→V4,and_false→Wz
open Array renaming length_toList→UZ,getElem?_eq_getElem→Vg,getElem?_toList→Vn,getElem?_eq_none→VV,getD_eq_getD_getElem?→VW,toList_inj→VZ,toList_append→Wo,mem_append→WC,size_push→WJ,size_extract→WO,perm_iff_toList_perm→WQ,forIn_toList→WR,all_eq_true→WX
open Int renaming toNat_natCast→VF,eq_ofNat_of_zero_le→Wa,emod_lt_of_pos→Wd,emod_nonneg→Wu
set_option compiler.extract_closed false
set_option Elab.async false
set_option linter.all false
set_option autoImplicit false
set_option maxRecDepth 100000
open PySem
variable {byT:Bool}{env:Env}{e elt iter tg value:Expr}{base h h' h1 h2:Heap}{hi l lo:Int}{m:List (Str×Nat)}{pins:List (Za×Obj)}{outer:List Env}{CP ifs:List Expr}{fi:List Nat}{M:Model}{ep i j n n' n2 p slot t' tk:Nat}{oT oe ox:Obj}{IA apos dD p2 pos pos' wF:Pos}{scope:Scope}{name qual x y z:Str}{α β κ:Type}{C CL CS D I L T a a0 a1 a2 b c d dx ea f it pa tb':Za}{kf:Za->Int×Str}{fd:Zb}{A:Zc}{P prog:Zd}{w:Ze}{S:Zf->Prop}{tb:Zj}
namespace L2
open PySem PySem.W
section
variable {p:Zd}{q:Zd}{loose:Uq}{Xt:Xx->Bool}{Yf:Xx->α}{Ya:Ze->α}{N:Nat}{H₀:Params->Heap}{d₀:Drawn}{k₀ m₀:Nat}{ann:Option Xy}{c:Code}{qp:Pos}
def uO (p q:Zd) (loose:Uq) (Xt:Xx->Bool) {α:Type} (Yf:Xx->α) (Ya:Ze->α) (H₀:Params->Heap) (m₀:Nat) (ann:Option Xy) (env:Env) (c:Code) (qp:Pos) (n:Nat) (l:List Stmt) (pos:Pos) (w:Ze) (s:Xx):Prop:=
 ∃r,topRun treeTable p w m₀ ann n s (restOf l env c pos [topFrame qp])=some r/\(staticsOk (importedModules p.main.body) (H₀ w.params) r.heap && namesBound p r.heap && gensDone r && laidKept (H₀ w.params) r.heap)=true/\openSeen q loose (importedModules p.main.body) Xt true r=openGood q loose/\Yf r=Ya w
theorem Gm {e:Nat}{l:List Stmt}{s:Xx}
  (h:(segRun treeTable p w m₀ ann 1 n s (piecesOf l env c pos [topFrame qp])).bind (λz=>(topRun treeTable p w m₀ ann e z.2.1 ⟨doneF .next,c,z.2.2.2,[topFrame qp]⟩).map λr=>(z.1,z.2.2.1,(staticsOk (importedModules p.main.body) (H₀ w.params) r.heap && namesBound p r.heap && gensDone r && laidKept (H₀ w.params) r.heap),openSeen q loose (importedModules p.main.body) Xt true r,Yf r))=some (.next,c,true,openGood q loose,Ya w)) :
  uO p q loose Xt Yf Ya H₀ m₀ ann env c qp (n+e) l pos w s:=by
 obtain⟨⟨f,_,j,_⟩,g,o⟩:=Option.bind_eq_some_iff.mp h;obtain⟨r,t,d⟩:=Option.map_eq_some_iff.mp o;simp only[Prod.mk.injEq]at d;obtain⟨k,v,m,i,u⟩:=d;have a:f=Flow.next:=k;have b:j = c:=v;subst a b;have:=piece_app (rest:=[]) g (piece_nil t);rw[Vd]at this;exact⟨r,this,m,i,u⟩
theorem vG {l a b:List Stmt}{s s':Xx} (h:segRun treeTable p w m₀ ann 1 n s (piecesOf l env c pos [topFrame qp])=some (.next,s',c,pos')) (f:l++a = b) (t:uO p q loose Xt Yf Ya H₀ m₀ ann env c qp n' a pos' w s'):uO p q loose Xt Yf Ya H₀ m₀ ann env c qp (n+n') b pos w s:=by
 obtain⟨r,d,e⟩:=t;rw[<-f];exact⟨r,piece_app h d,e⟩
theorem CG (b:List Stmt) (a d:Nat):(b.drop a).take d++b.drop (a+d)=b.drop a:=by
 rw[<-List.drop_drop];exact We _ _
theorem Gd {f a:Nat}{b B v:List Stmt}{m:Pos}{n:Params->Heap}{u:Drawn}{l:Nat} (U:c = .body b env) (D:B++v=b)
  (K:∀w:Ze,(fencedOpening treeTable p w N).map (λs=>(s.heap,s.gens,s.drawn,s.toks))=some (H₀ w.params,Array.mk [],d₀,k₀))
  (g:∀w:Ze,((H₀ w.params).isNs mainGlobals,(H₀ w.params).objs.size,(H₀ w.params).nsMap mainGlobals "__annotations__")=(true,m₀,ann))
  (h1:∀(w:Ze) (os:OsState),(topGo treeTable p w m₀ ann f ⟨H₀ w.params,Array.mk [],d₀,k₀,os⟩ (topStub p)).bind (λx=>(segRun treeTable p w m₀ ann 1 i x.1 (blockOf b env c m [topFrame qp])).bind λy=>(segRun treeTable p w m₀ ann 1 a y.2.1 (piecesOf B env c y.2.2.2 [topFrame qp])).map λz=>(x.2,y.1,y.2.2.1,z))=some (⟨denote treeTable c,c,m,[topFrame qp]⟩,.next,c,(.next,⟨n w.params,Array.mk [],u,l,os⟩,c,pos)))
  (h2:∀(w:Ze) (os:OsState),uO p q loose Xt Yf Ya H₀ m₀ ann env c qp n2 v pos w ⟨n w.params,Array.mk [],u,l,os⟩) (le:Nat.ble (f+(i+(a+n2))) N=true):LeftO p q loose Xt Yf Ya N true:=λw=>by
 obtain⟨⟨h,H,d,k,os⟩,e,Y⟩:=Option.map_eq_some_iff.mp (K w);obtain⟨rfl,rfl,rfl,rfl⟩:h=H₀ w.params/\H=Array.mk []/\d=d₀/\k=k₀:=by simpa using Y
 obtain⟨J,F,W⟩:_/\_/\_:=by simpa only[Prod.mk.injEq]using g w
 obtain⟨⟨_,_⟩,E,R⟩:=Option.bind_eq_some_iff.mp (h1 w os);obtain⟨⟨_,_,_,_⟩,Z,S⟩:=Option.bind_eq_some_iff.mp R;obtain⟨⟨_,_,_,_⟩,G,j⟩:=Option.map_eq_some_iff.mp S;simp only[Prod.mk.injEq]at j;obtain⟨L,M,O,P,t5,X,I⟩:=j;subst L M O P t5 X I;obtain⟨r,C,g2,V,Q⟩:=h2 w os;have A:=piece_app G C;rw[D]at A;subst U;have T:=piece_block Z A;have p3:=go_top E T;have o:=topRun_mono (N - (f+(i+(a+n2)))) _ _ _ _ p3;rw[show f+(i+(a+n2))+(N - (f+(i+(a+n2))))=N by have:=Nat.le_of_ble_eq_true le;lia]at o;have t:topFrom treeTable p w N ⟨H₀ w.params,Array.mk [],d,k,os⟩=some r:=by
  unfold topFrom;dsimp only;rw[J,F,W,o];show(match staticsOk (importedModules p.main.body) (H₀ w.params) r.heap && namesBound p r.heap && gensDone r && laidKept (H₀ w.params) r.heap with | true=>some r | false=>none)=some r
  rw[g2]
 unfold openEnds;rw[e];show((topFrom treeTable p w N ⟨H₀ w.params,Array.mk [],d,k,os⟩).map λs=>(openSeen q loose (importedModules p.main.body) Xt true s,Yf s))=_;rw[t];show some (openSeen q loose (importedModules p.main.body) Xt true r,Yf r)=_;rw[V,Q]
end
end L2
variable {es:Array (Int×Xy)}{kw:List (Str×Xy)}{R:Result->Xx->Prop}{mA mg:Str->Option Xy}{ds kds:UF}{g g' rss wss:Ul}{N N' ms ns ps ws zs:Uq}{items its:Uy}{ch fp wr:Uz}{lV us vs:WF}{s s':Xx}{O cd cls first u:Xy}{E Q:Xy->Xx->Prop}{K:Xz}
namespace L2
open PySem
def cO (s:Stmt):Arguments:=match s with
 | .FunctionDef _ a _ _ _ _ _ _ _ _=>a
 | _=>{ posonlyargs:=[],args:=[],vararg:=none,kwonlyargs:=[],kw_defaults:=[],kwarg:=none,defaults:=[] }
def bY (s:Stmt):List Stmt:=match s with
 | .FunctionDef _ _ b _ _ _ _ _ _ _=>b
 | _=>[]
def ag (s:Stmt):Scope:=match s with
 | .FunctionDef _ _ _ _ _ _ sc _ _ _=>sc
 | _=>{ kind:=.function,names:=[],isGenerator:=false,isCoroutine:=false }
end L2
namespace K19
open PySem L2
def top (i:Nat):Stmt:=Y0.main.body.getD i (.Pass ⟨0,0,0,0⟩)
def mIn (i j:Nat):Stmt:=match top i with
 | .ClassDef _ _ _ b _ _ _ _ _ _ _=>b.getD j (.Pass ⟨0,0,0,0⟩)
 | x=>x
def hqC (x:Str) (a:Nat) (L n:Int) (r:Nat) (d:Nat):Obj:=⟨.type "code",none,.fields #[.str x a,.str x (a+1),.str "/claim/cut.py" (a+2),.int L 0,.int n 0,.int 0 0,.int 0 0,.int 3 0,.ref r,.bool true,.int 181 0,.ref (r+1),.none,.ref (r+2),.ref (r+3),.ref (r+4),.int (Int.ofNat d) 0,.int L 0,.str "/claim/cut.py" (d+1)],#[]⟩
def hqD (x:Str) (a:Nat) (L n:Int) (r:Nat):Obj:=⟨.type "code",none,.fields #[.str x a,.str x (a+1),.str "/claim/cut.py" (a+2),.int L 0,.int n 0,.int 0 0,.int 0 0,.int 3 0,.ref r,.bool true,.int 181 0,.ref (r+1),.none,.none,.none,.ref (r+2),.int (Int.ofNat (a+3)) 0,.int L 0,.str "/claim/cut.py" (a+4)],#[]⟩
def hqU (l:WF):Obj:=⟨.type "tuple",none,.seq l.toArray 0,#[]⟩
def hqN:Obj:=⟨.none,none,.fields #[],#[]⟩
def hFz (i:Nat) (x:Str):Obj:=⟨.none,none,.func { name:=x,qualname:=x,params:=cO (top i),body:=.stmts (bY (top i)),scope:=ag (top i),globals:=0,closure:=[],defaults:=.none,kwdefaults:=.none },#[]⟩
def hFd (i:Nat) (x:Str) (m:Xy) (c D:Nat):Obj:=⟨.type "function",none,.func { name:=x,qualname:=x,params:=cO (top i),body:=.stmts (bY (top i)),scope:=ag (top i),globals:=3,closure:=[],defaults:=.ref D,kwdefaults:=.none,pyModule:=m,code:=.ref c },#[]⟩
def mFd (i j:Nat) (x q:Str) (g:Za) (m c:Xy):Zb:={ name:=x,qualname:=q,params:=cO (mIn i j),body:=.stmts (bY (mIn i j)),scope:=ag (mIn i j),globals:=g,closure:=[],defaults:=.none,kwdefaults:=.none,pyModule:=m,code:=c }
def MK (i j:Nat) (x q:Str) (g:Za) (m c:Xy) (D:Nat):Zb:={ name:=x,qualname:=q,params:=cO (mIn i j),body:=.stmts (bY (mIn i j)),scope:=ag (mIn i j),globals:=g,closure:=[],defaults:=.ref D,kwdefaults:=.none,pyModule:=m,code:=c }
def hEn (P:Params) (x:Str) (t:Nat) (v:Xy):DictEntry:=⟨PyData.keyHash P x,.str x t,v⟩
def hqR (P:Params) (x:Str) (n k:Nat):=hEn P x n (.ref k)
def hqM (x y:Str) (a:Nat) (L n:Int) (r d:Nat):Obj:=⟨.type "code",none,.fields #[.str x a,.str y (a+1),.str "/claim/cut.py" (a+2),.int L 0,.int n 0,.int 0 0,.int 0 0,.int 3 0,.ref r,.bool true,.int 181 0,.ref (r+1),.none,.ref (r+2),.ref (r+3),.ref (r+4),.int (Int.ofNat d) 0,.int L 0,.str "/claim/cut.py" (d+1)],#[]⟩
def hqO (x y:Str) (a:Nat) (L n:Int) (r:Nat):Obj:=⟨.type "code",none,.fields #[.str x a,.str y (a+1),.str "/claim/cut.py" (a+2),.int L 0,.int n 0,.int 0 0,.int 0 0,.int 3 0,.ref r,.bool true,.int 181 0,.ref (r+1),.none,.none,.none,.ref (r+2),.int (Int.ofNat (a+3)) 0,.int L 0,.str "/claim/cut.py" (a+4)],#[]⟩
def hqB (x:Str) (a:Nat) (L:Int) (r:Nat):Obj:=⟨.type "code",none,.fields #[.str x a,.str x (a+1),.str "/claim/cut.py" (a+2),.int L 0,.int 0 0,.int 0 0,.int 0 0,.int 0 0,.ref r,.bool false,.int 181 0,.ref (r+1),.none,.none,.none,.none,.int (Int.ofNat (a+3)) 0,.int L 0,.str "/claim/cut.py" (a+4)],#[]⟩
def bV:Xy:=.str "loggather.logs" 552
def g7:Xy:=.str "loggather.patterns" 371
def iW:Xy:=.str "loggather.errors" 194
def om:Xy:=.str "loggather.gathering" 466
def qU:Xy:=.str "law_loggather_k19_whole_lines_in_any_order" 773
def tI:Xy:=.str "loggather.words" 319
def Fn:Xy:=.str "loggather.falling" 531
def hqF (i j:Nat) (x q:Str) (m:Xy) (c:Nat):Obj:=⟨.type "function",none,.func (mFd i j x q 3 m (.ref c)),#[]⟩
def hqG (i j:Nat) (x q:Str):Obj:=⟨.none,none,.func (mFd i j x q 0 .none .none),#[]⟩
def hqW (a b:Nat) (m:Xy):Obj:=⟨.type "frame",none,.plain,#[some (.ref a),some (.ref 3),some (.ref b),none,some m,none,some (.ref 0)]⟩
def hqI (x:String) (a:Nat):Obj:=⟨.type "builtin_function_or_method",none,.fields #[.builtin x,.ref a],#[]⟩
def hqS (a:Nat):Obj:=⟨.type "super",none,.fields #[.ref a,.ref a,.ref a],#[]⟩
def hqE (x:Str) (b s n a c d:Nat):Obj:=⟨.type "type",none,.cls { name:=x,bases:=[.ref b],mro:=[.ref s,.ref b,.type "ValueError",.type "Exception",.type "BaseException",.type "object"],ns:=n,qualname:=x,hasDict:=true,slotNames:=[],subclasses:=[],abstract:=false,collection:=none,hasDel:=false },#[some (.ref a),none,some (.str x c),some (.str x d),some (.builtin "ValueError.__new__"),some (.bool true)]⟩
def Qj (P:Params):List DictEntry:=[hEn P "__doc__" 166 (.none),hEn P "__package__" 167 (.none),hEn P "__loader__" 168 (.builtin "__main__.__loader__#opaque"),hEn P "__spec__" 169 (.none),hqR P "__annotations__" 170 6,hqR P "__builtins__" 171 4,hEn P "__file__" 173 (.str "/claim/cut.py" 172),hEn P "__cached__" 174 (.none),hqR P "_wall" 193 21,hqR P "GatherError" 213 31,hqR P "NoJoin" 229 44,hqR P "NoLine" 245 56,hqR P "NoMoment" 270 75]
def Q5 (P:Params):List DictEntry:=Qj P++[hqR P "NoPattern" 286 87,hqR P "TooMany" 302 99,hqR P "NothingLeft" 318 111,hEn P "MOST_WORDS" 322 (.int 12 321),hEn P "FIGURES" 324 (.str "0123456789" 323),hEn P "SMALL_LETTERS" 326 (.str "abcdefghijklmnopqrstuvwxyz" 325),hEn P "WORD_SIGNS" 328 (.str "!\"#$&'()*+,-./0123456789:;<=>?@ABCDEFGHIJKLMNOPQRSTUVWXYZ[\\]^_`abcdefghijklmnopqrstuvwxyz{|}~" 327),hqR P "has_only" 336 120,hqR P "is_word" 343 127,hqR P "kind_of" 350 134,hqR P "words_of" 357 141,hqR P "is_line" 363 146,hqR P "word_key" 370 153,hEn P "MOST_PARTS" 374 (.int 12 373),hqR P "HOLE_KINDS" 378 154,hqR P "is_part" 385 161,hqR P "is_pattern" 391 166,hqR P "is_hole" 398 173,hqR P "part_takes" 406 180,hqR P "all_taken" 416 187,hqR P "fits" 424 194,hqR P "kind_of_hole_around" 432 201]
def PJ (P:Params):List DictEntry:=Q5 P++[hqR P "joined_part" 438 206,hqR P "joined" 444 211,hqR P "part_key" 453 218,hqR P "pattern_key" 459 223,hqR P "ordered" 465 228,hqR P "PLAIN_SIEVE" 470 229,hqR P "grouped" 481 236,hqR P "words_at" 487 241,hqR P "many_unlike_at" 495 248,hqR P "is_fit_to_part_at" 501 253,hqR P "place_to_part_at" 507 258,hqR P "parted" 518 265,hqR P "pattern_of_group" 524 270,hqR P "gathered" 530 276,hqR P "looseness_of_part" 539 283,hqR P "looseness" 545 288,hqR P "falls_under" 551 293,hEn P "MOST_LINES" 555 (.int 120 554),hEn P "MOST_BY_HAND" 557 (.int 12 556),hqR P "how_often" 566 300,hqR P "words_in_order" 572 305,hqR P "State" 610 327]
def Ox (P:Params):List DictEntry:=PJ P++[hqR P "Log" 772 460]
def SW (P:Params):List DictEntry:=Ox P++[hqR P "_law_deck" 782 471,hqR P "_law_pick" 792 478,hqR P "_law_kind" 798 483,hqR P "_law_word" 804 488,hqR P "_law_line" 810 493,hqR P "_law_lines" 816 498,hqR P "_law_pattern" 828 505,hqR P "_law_sieve" 835 512,hqR P "_law_shuffled" 845 519,hqR P "_law_filled_log" 851 524,hqR P "_law_told" 857 529,hqR P "law" 863 534]
def Pn:WF:=[.int 1 0,.int 0 0,.ref 20,.int 5 0,.int 0 0,.ref 27,.int 7 0,.int 0 0,.ref 40,.int 9 0,.int 0 0,.ref 52,.int 11 0,.int 0 0,.ref 64]
def QC:WF:=Pn++[.int 16 0,.int 0 0,.ref 83,.int 18 0,.int 0 0,.ref 95,.int 20 0,.int 0 0,.ref 107,.int 27 0,.int 0 0,.ref 119,.int 29 0,.int 0 0,.ref 126,.int 31 0,.int 0 0,.ref 133,.int 37 0,.int 0 0,.ref 140,.int 39 0,.int 0 0,.ref 145,.int 44 0,.int 0 0,.ref 152,.int 49 0,.int 0 0,.ref 160,.int 55 0,.int 0 0,.ref 165,.int 59 0,.int 0 0,.ref 172,.int 61 0,.int 0 0,.ref 179,.int 67 0,.int 0 0,.ref 186,.int 74 0,.int 0 0,.ref 193,.int 76 0,.int 0 0,.ref 200]
def OF:WF:=QC++[.int 81 0,.int 0 0,.ref 205,.int 88 0,.int 0 0,.ref 210,.int 95 0,.int 0 0,.ref 217,.int 100 0,.int 0 0,.ref 222,.int 102 0,.int 0 0,.ref 227,.int 106 0,.int 0 0,.ref 235,.int 111 0,.int 0 0,.ref 240,.int 113 0,.int 0 0,.ref 247,.int 115 0,.int 0 0,.ref 252,.int 120 0,.int 0 0,.ref 257,.int 123 0,.int 0 0,.ref 264,.int 131 0,.int 0 0,.ref 269,.int 133 0,.int 0 0,.ref 275,.int 140 0,.int 0 0,.ref 282,.int 144 0,.int 0 0,.ref 287,.int 146 0,.int 0 0,.ref 292,.int 152 0,.int 0 0,.ref 299,.int 157 0,.int 0 0,.ref 304,.int 160 0,.int 0 0,.ref 311]
def S5:WF:=OF++[.int 172 0,.int 0 0,.ref 337]
def hFn (i:Nat) (x:Str) (m:Xy) (c:Nat):Obj:=⟨.type "function",none,.func { name:=x,qualname:=x,params:=cO (top i),body:=.stmts (bY (top i)),scope:=ag (top i),globals:=3,closure:=[],defaults:=.none,kwdefaults:=.none,pyModule:=m,code:=.ref c },#[]⟩
def hV:Zd:={ Y0 with main:={ Y0.main with body:=[0,2,3,4,5,6,7,8,10,11,12,13,14,15,16,17,18,19,21,22,23,24,25,26,27,28,29,30,31,32,33,34,36,37,38,39,40,41,42,43,46,47,48,50,51,52,53,54,55,57,58,59,60,61,62,63,64,65,66,67,68].map top } }
def hK (P:Params):Xz:=[(4,⟨.type "module",some 0,.plain,#[]⟩),
 (3,⟨.type "dict",none,.dict (hEn P "__name__" 165 qU::SW P).toArray 71,#[]⟩),
 (119,hqC "has_only" 329 27 2 114 334),
 (120,hFn 14 "has_only" tI 119),
 (126,hqC "is_word" 337 29 1 121 341),
 (127,hFn 15 "is_word" tI 126),
 (133,hqC "kind_of" 344 31 1 128 348),
 (134,hFn 16 "kind_of" tI 133),
 (140,hqC "words_of" 351 37 1 135 355),
 (141,hFn 17 "words_of" tI 140),
 (145,hqD "is_line" 358 39 1 142),
 (146,hFn 18 "is_line" tI 145),
 (152,hqC "word_key" 364 44 1 147 368),
 (153,hFn 19 "word_key" tI 152),
 (154,hqU [.str "number" 375,.str "name" 376,.str "any" 377]),
 (160,hqC "is_part" 379 49 1 155 383),
 (161,hFn 23 "is_part" g7 160),
 (165,hqD "is_pattern" 386 55 1 162),
 (166,hFn 24 "is_pattern" g7 165),
 (172,hqC "is_hole" 392 59 1 167 396),
 (173,hFn 25 "is_hole" g7 172),
 (179,hqC "part_takes" 399 61 2 174 404),
 (180,hFn 26 "part_takes" g7 179),
 (186,hqC "all_taken" 407 67 2 181 414),
 (187,hFn 27 "all_taken" g7 186),
 (193,hqC "fits" 417 74 2 188 422),
 (194,hFn 28 "fits" g7 193),
 (200,hqC "kind_of_hole_around" 425 76 1 195 430),
 (201,hFn 29 "kind_of_hole_around" g7 200),
 (205,hqD "joined_part" 433 81 1 202),
 (206,hFn 30 "joined_part" g7 205),
 (210,hqD "joined" 439 88 1 207),
 (211,hFn 31 "joined" g7 210),
 (217,hqC "part_key" 445 95 1 212 451),
 (218,hFn 32 "part_key" g7 217),
 (222,hqD "pattern_key" 454 100 1 219),
 (223,hFn 33 "pattern_key" g7 222),
 (227,hqD "ordered" 460 102 1 224),
 (228,hFn 34 "ordered" g7 227),
 (229,hqU [.int 3 468,.int 2 469]),
 (235,hqC "grouped" 471 106 2 230 479),
 (236,hFn 37 "grouped" om 235),
 (240,hqD "words_at" 482 111 2 237),
 (241,hFn 38 "words_at" om 240),
 (247,hqC "many_unlike_at" 488 113 2 242 493),
 (248,hFn 39 "many_unlike_at" om 247),
 (252,hqD "is_fit_to_part_at" 496 115 3 249),
 (253,hFn 40 "is_fit_to_part_at" om 252),
 (257,hqD "place_to_part_at" 502 120 2 254),
 (258,hFn 41 "place_to_part_at" om 257),
 (264,hqC "parted" 508 123 2 259 516),
 (265,hFn 42 "parted" om 264),
 (269,hqD "pattern_of_group" 519 131 1 266),
 (270,hFn 43 "pattern_of_group" om 269),
 (271,hqU [.ref 229]),
 (275,hqD "gathered" 525 133 2 272),
 (276,hFd 44 "gathered" om 275 271),
 (282,hqC "looseness_of_part" 533 140 1 277 537),
 (283,hFn 46 "looseness_of_part" Fn 282),
 (287,hqD "looseness" 540 144 1 284),
 (288,hFn 47 "looseness" Fn 287),
 (292,hqD "falls_under" 546 146 2 289),
 (293,hFn 48 "falls_under" Fn 292),
 (299,hqC "how_often" 558 152 1 294 564),
 (300,hFn 52 "how_often" bV 299),
 (304,hqD "words_in_order" 567 157 1 301),
 (305,hFn 53 "words_in_order" bV 304),
 (316,hqO "__init__" "State.__init__" 585 162 4 313),
 (317,hqF 54 0 "__init__" "State.__init__" bV 316),
 (326,⟨.type "dict",none,.dict #[hEn P "__module__" 580 bV,hEn P "__firstlineno__" 584 (.int 160 583),hqR P "__init__" 590 317,hqR P "fall_of" 598 324,hqR P "__static_attributes__" 603 325,hqR P "__dict__" 605 328,hqR P "__weakref__" 607 329,hEn P "__doc__" 608 (.none)] 4,#[]⟩),
 (327,⟨.type "type",none,.cls { name:= "State",bases:=[.type "object"],mro:=[.ref 327,.type "object"],ns:=326,qualname:= "State",hasDict:=true,slotNames:=[],subclasses:=[],abstract:=false,collection:=none,hasDel:=false },#[none,none,some (.str "State" 573),some (.str "State" 581),some (.builtin "object.__new__"),some (.bool true)]⟩),
 (339,hqU [.ref 229]),
 (345,hqM "__init__" "Log.__init__" 623 174 2 340 628),
 (346,⟨.type "function",none,.func (MK 55 0 "__init__" "Log.__init__" 3 bV (.ref 345) 339),#[]⟩),
 (352,hqM "__len__" "Log.__len__" 631 181 1 347 635),
 (353,hqF 55 1 "__len__" "Log.__len__" bV 352),
 (359,hqM "__eq__" "Log.__eq__" 638 184 2 354 643),
 (360,hqF 55 2 "__eq__" "Log.__eq__" bV 359),
 (366,hqM "held" "Log.held" 646 189 1 361 650),
 (367,hqF 55 3 "held" "Log.held" bV 366),
 (373,hqM "rows_with_falls" "Log.rows_with_falls" 653 192 1 368 657),
 (374,hqF 55 4 "rows_with_falls" "Log.rows_with_falls" bV 373),
 (380,hqM "turn_to" "Log.turn_to" 660 195 2 375 667),
 (381,hqF 55 5 "turn_to" "Log.turn_to" bV 380),
 (387,hqM "do_deed" "Log.do_deed" 670 200 3 382 676),
 (388,hqF 55 6 "do_deed" "Log.do_deed" bV 387),
 (394,hqM "come" "Log.come" 679 205 3 389 686),
 (395,hqF 55 7 "come" "Log.come" bV 394),
 (401,hqM "put" "Log.put" 689 216 2 396 695),
 (402,hqF 55 8 "put" "Log.put" bV 401),
 (406,hqO "take" "Log.take" 698 224 2 403),
 (407,hqF 55 9 "take" "Log.take" bV 406),
 (413,hqM "back" "Log.back" 704 230 1 408 708),
 (414,hqF 55 10 "back" "Log.back" bV 413),
 (420,hqM "again" "Log.again" 711 236 1 415 715),
 (421,hqF 55 11 "again" "Log.again" bV 420),
 (432,hqO "patterns" "Log.patterns" 725 245 1 429),
 (433,hqF 55 13 "patterns" "Log.patterns" bV 432),
 (439,hqM "under" "Log.under" 731 248 2 434 736),
 (440,hqF 55 14 "under" "Log.under" bV 439),
 (451,hqO "counts" "Log.counts" 747 254 3 448),
 (452,hqF 55 16 "counts" "Log.counts" bV 451),
 (456,hqO "holes" "Log.holes" 753 258 2 453),
 (457,hqF 55 17 "holes" "Log.holes" bV 456),
 (459,⟨.type "dict",none,.dict #[hEn P "__module__" 618 bV,hEn P "__firstlineno__" 622 (.int 172 621),hqR P "__init__" 630 346,hqR P "__len__" 637 353,hqR P "__eq__" 645 360,hqR P "held" 652 367,hqR P "rows_with_falls" 659 374,hqR P "turn_to" 669 381,hqR P "do_deed" 678 388,hqR P "come" 688 395,hqR P "put" 697 402,hqR P "take" 703 407,hqR P "back" 710 414,hqR P "again" 717 421,hqR P "moves" 724 428,hqR P "patterns" 730 433,hqR P "under" 738 440,hqR P "would_fall" 746 447,hqR P "counts" 752 452,hqR P "holes" 758 457,hqR P "__static_attributes__" 764 458,hqR P "__dict__" 766 461,hqR P "__weakref__" 768 462,hEn P "__doc__" 769 (.none),hEn P "__hash__" 770 (.none)] 5,#[]⟩),
 (460,⟨.type "type",none,.cls { name:= "Log",bases:=[.type "object"],mro:=[.ref 460,.type "object"],ns:=459,qualname:= "Log",hasDict:=true,slotNames:=[],subclasses:=[],abstract:=false,collection:=none,hasDel:=false },#[none,none,some (.str "Log" 611),some (.str "Log" 619),some (.builtin "object.__new__"),some (.bool true)]⟩),
 (470,hqC "_law_deck" 775 265 2 465 780),
 (471,hFn 57 "_law_deck" qU 470),
 (477,hqC "_law_pick" 783 269 2 472 790),
 (478,hFn 58 "_law_pick" qU 477),
 (482,hqD "_law_kind" 793 280 1 479),
 (483,hFn 59 "_law_kind" qU 482),
 (487,hqD "_law_word" 799 285 1 484),
 (488,hFn 60 "_law_word" qU 487),
 (492,hqD "_law_line" 805 295 2 489),
 (493,hFn 61 "_law_line" qU 492),
 (497,hqD "_law_lines" 811 297 2 494),
 (498,hFn 62 "_law_lines" qU 497),
 (504,hqC "_law_pattern" 817 308 2 499 826),
 (505,hFn 63 "_law_pattern" qU 504),
 (511,hqC "_law_sieve" 829 320 1 506 833),
 (512,hFn 64 "_law_sieve" qU 511),
 (518,hqC "_law_shuffled" 836 322 2 513 843),
 (519,hFn 65 "_law_shuffled" qU 518),
 (523,hqD "_law_filled_log" 846 327 4 520),
 (524,hFn 66 "_law_filled_log" qU 523),
 (528,hqD "_law_told" 852 345 1 525),
 (529,hFn 67 "_law_told" qU 528),
 (533,hqD "law" 858 348 1 530),
 (534,hFn 68 "law" qU 533)]
def hLo:Uq:=[("gathered" : Str),("Log" : Str)]
def hH:W.Hook:=W.kmHook hK [4,3,119,120,126,127,133,134,140,141,145,146,152,153,154,160,161,165,166,172,173,179,180,186,187,193,194,200,201,205,206,210,211,217,218,222,223,227,228,229,235,236,240,241,247,248,252,253,257,258,264,265,269,270,271,275,276,282,283,287,288,292,293,299,300,304,305,316,317,326,327,339,345,346,352,353,359,360,366,367,373,374,380,381,387,388,394,395,401,402,406,407,413,414,420,421,432,433,439,440,451,452,456,457,459,460,470,471,477,478,482,483,487,488,492,493,497,498,504,505,511,512,518,519,523,524,528,529,533,534] (λ_=>by kernel_rfl) [255]
def hX (s:Xx):Bool:=W.xlAt hV [] s && W.recOk (W.RowW.records (W.OpenRow.toRowW (W.OpenLaw.row Yj))) s
noncomputable def mS0 (P:Params):List Obj:=[W.boot_o_0 P,W.boot_o_1 P,W.boot_o_2 P]
noncomputable def mS4 (P:Params):List Obj:=[W.boot_o_4 P,W.boot_o_5 P,W.boot_o_6 P,W.boot_o_7 P,W.boot_o_8 P,W.boot_o_9 P,W.boot_o_10 P,hqU []]
noncomputable def Li (P:Params):List Obj:=[hqB "<module>" 182 1 11,⟨.type "frame",none,.plain,#[some (.ref 13),some (.ref 3),some (.ref 3),none,some (.str "__main__" 164),none,some (.ref 0)]⟩,hqU [],hqN,hqU [.str "k" 190],hqU [],hFz 0 "_wall",hqC "_wall" 187 1 1 15 191,hFn 0 "_wall" (.str "__main__" 164) 20,hqU [.type "ValueError"],⟨.type "builtin_function_or_method",none,.fields #[.builtin "type.__prepare__",.type "type"],#[]⟩,⟨.type "dict",none,.dict #[hEn P "__module__" 203 iW,hEn P "__qualname__" 205 (.str "GatherError" 204),hEn P "__firstlineno__" 207 (.int 5 206),hqR P "__static_attributes__" 208 29] 4,#[]⟩,hqU [],hqN,hqB "GatherError" 198 5 25,hqW 27 24 iW,hqU [],⟨.type "dict",none,.dict #[hEn P "__module__" 203 iW,hEn P "__firstlineno__" 207 (.int 5 206),hqR P "__static_attributes__" 208 29,hqR P "__weakref__" 210 32,hEn P "__doc__" 211 (.none)] 3,#[]⟩]
noncomputable def Ly (P:Params):List Obj:=[⟨.type "getset_descriptor",none,.fields #[.str "__weakref__" 209,.ref 31,.builtin "ExceptionGroup.__weakref__",.none],#[]⟩,hqS 31,hqI "object.__init_subclass__" 31,hqU [.ref 31],⟨.type "builtin_function_or_method",none,.fields #[.builtin "type.__prepare__",.type "type"],#[]⟩,⟨.type "dict",none,.dict #[hEn P "__module__" 221 iW,hEn P "__qualname__" 223 (.str "NoJoin" 222),hEn P "__firstlineno__" 225 (.int 7 224),hqR P "__static_attributes__" 226 42] 4,#[]⟩,hqU [],hqN,hqB "NoJoin" 216 7 38,hqW 40 37 iW,hqU [],⟨.type "dict",none,.dict #[hEn P "__module__" 221 iW,hEn P "__firstlineno__" 225 (.int 7 224),hqR P "__static_attributes__" 226 42,hEn P "__doc__" 227 (.none)] 2,#[]⟩,hqE "NoJoin" 31 44 43 35 214 222,hqS 44,hqI "object.__init_subclass__" 44,hqU [.ref 31],⟨.type "builtin_function_or_method",none,.fields #[.builtin "type.__prepare__",.type "type"],#[]⟩,⟨.type "dict",none,.dict #[hEn P "__module__" 237 iW,hEn P "__qualname__" 239 (.str "NoLine" 238),hEn P "__firstlineno__" 241 (.int 9 240),hqR P "__static_attributes__" 242 54] 4,#[]⟩,hqU [],hqN,hqB "NoLine" 232 9 50,hqW 52 49 iW,hqU [],⟨.type "dict",none,.dict #[hEn P "__module__" 237 iW,hEn P "__firstlineno__" 241 (.int 9 240),hqR P "__static_attributes__" 242 54,hEn P "__doc__" 243 (.none)] 2,#[]⟩,hqE "NoLine" 31 56 55 47 230 238,hqS 56,hqI "object.__init_subclass__" 56,hqU [.ref 31],⟨.type "builtin_function_or_method",none,.fields #[.builtin "type.__prepare__",.type "type"],#[]⟩,⟨.type "dict",none,.dict #[hEn P "__module__" 253 iW,hEn P "__qualname__" 255 (.str "NoMoment" 254),hEn P "__firstlineno__" 257 (.int 11 256),hqR P "__init__" 265 72,hqR P "__static_attributes__" 267 73] 5,#[]⟩,hqU [],⟨.none,none,.fields #[.int 13 0,.int 4 0,.ref 71],#[]⟩,hqB "NoMoment" 248 11 62,hqW 64 61 iW,hqU [],hqN,hqU [.str "self" 261,.str "last" 262],hqU [],hqG 5 0 "__init__" "NoMoment.__init__",hqM "__init__" "NoMoment.__init__" 258 13 2 66 263,hqF 5 0 "__init__" "NoMoment.__init__" iW 71,hqU [.str "last" 266],⟨.type "dict",none,.dict #[hEn P "__module__" 253 iW,hEn P "__firstlineno__" 257 (.int 11 256),hqR P "__init__" 265 72,hqR P "__static_attributes__" 267 73,hEn P "__doc__" 268 (.none)] 2,#[]⟩,hqE "NoMoment" 31 75 74 59 246 254,hqS 75,hqI "object.__init_subclass__" 75]
noncomputable def NX (P:Params):List Obj:=[hqU [.ref 31],⟨.type "builtin_function_or_method",none,.fields #[.builtin "type.__prepare__",.type "type"],#[]⟩,⟨.type "dict",none,.dict #[hEn P "__module__" 278 iW,hEn P "__qualname__" 280 (.str "NoPattern" 279),hEn P "__firstlineno__" 282 (.int 16 281),hqR P "__static_attributes__" 283 85] 4,#[]⟩,hqU [],hqN,hqB "NoPattern" 273 16 81,hqW 83 80 iW,hqU [],⟨.type "dict",none,.dict #[hEn P "__module__" 278 iW,hEn P "__firstlineno__" 282 (.int 16 281),hqR P "__static_attributes__" 283 85,hEn P "__doc__" 284 (.none)] 2,#[]⟩,hqE "NoPattern" 31 87 86 78 271 279,hqS 87,hqI "object.__init_subclass__" 87,hqU [.ref 31],⟨.type "builtin_function_or_method",none,.fields #[.builtin "type.__prepare__",.type "type"],#[]⟩,⟨.type "dict",none,.dict #[hEn P "__module__" 294 iW,hEn P "__qualname__" 296 (.str "TooMany" 295),hEn P "__firstlineno__" 298 (.int 18 297),hqR P "__static_attributes__" 299 97] 4,#[]⟩,hqU [],hqN,hqB "TooMany" 289 18 93,hqW 95 92 iW,hqU [],⟨.type "dict",none,.dict #[hEn P "__module__" 294 iW,hEn P "__firstlineno__" 298 (.int 18 297),hqR P "__static_attributes__" 299 97,hEn P "__doc__" 300 (.none)] 2,#[]⟩,hqE "TooMany" 31 99 98 90 287 295,hqS 99,hqI "object.__init_subclass__" 99,hqU [.ref 31],⟨.type "builtin_function_or_method",none,.fields #[.builtin "type.__prepare__",.type "type"],#[]⟩,⟨.type "dict",none,.dict #[hEn P "__module__" 310 iW,hEn P "__qualname__" 312 (.str "NothingLeft" 311),hEn P "__firstlineno__" 314 (.int 20 313),hqR P "__static_attributes__" 315 109] 4,#[]⟩,hqU [],hqN,hqB "NothingLeft" 305 20 105,hqW 107 104 iW,hqU [],⟨.type "dict",none,.dict #[hEn P "__module__" 310 iW,hEn P "__firstlineno__" 314 (.int 20 313),hqR P "__static_attributes__" 315 109,hEn P "__doc__" 316 (.none)] 2,#[]⟩,hqE "NothingLeft" 31 111 110 102 303 311,hqS 111,hqI "object.__init_subclass__" 111,hqU [],hqN,hqU [.str "text" 332,.str "signs" 333],hqU [],hFz 14 "has_only",hqC "has_only" 329 27 2 114 334,hFn 14 "has_only" tI 119,hqU [],hqN,hqU [.str "thing" 340],hqU [],hFz 15 "is_word",hqC "is_word" 337 29 1 121 341,hFn 15 "is_word" tI 126,hqU [],hqN,hqU [.str "word" 347],hqU [],hFz 16 "kind_of",hqC "kind_of" 344 31 1 128 348,hFn 16 "kind_of" tI 133,hqU [],hqN,hqU [.str "line" 354],hqU [],hFz 17 "words_of",hqC "words_of" 351 37 1 135 355,hFn 17 "words_of" tI 140,hqU [],hqN,hFz 18 "is_line",hqD "is_line" 358 39 1 142,hFn 18 "is_line" tI 145,hqU [],hqN,hqU [.str "word" 367],hqU [],hFz 19 "word_key",hqC "word_key" 364 44 1 147 368,hFn 19 "word_key" tI 152,hqU [.str "number" 375,.str "name" 376,.str "any" 377],hqU [],hqN,hqU [.str "thing" 382],hqU [],hFz 23 "is_part",hqC "is_part" 379 49 1 155 383,hFn 23 "is_part" g7 160,hqU [],hqN,hFz 24 "is_pattern",hqD "is_pattern" 386 55 1 162,hFn 24 "is_pattern" g7 165,hqU [],hqN,hqU [.str "part" 395],hqU [],hFz 25 "is_hole",hqC "is_hole" 392 59 1 167 396,hFn 25 "is_hole" g7 172,hqU [],hqN,hqU [.str "part" 402,.str "word" 403],hqU [],hFz 26 "part_takes",hqC "part_takes" 399 61 2 174 404,hFn 26 "part_takes" g7 179,hqU [],hqN,hqU [.str "parts" 410,.str "words" 411,.str "part" 412,.str "word" 413],hqU [],hFz 27 "all_taken",hqC "all_taken" 407 67 2 181 414,hFn 27 "all_taken" g7 186,hqU [],hqN,hqU [.str "pattern" 420,.str "line" 421],hqU [],hFz 28 "fits",hqC "fits" 417 74 2 188 422,hFn 28 "fits" g7 193,hqU [],hqN,hqU [.str "part" 428,.str "kind" 429],hqU [],hFz 29 "kind_of_hole_around",hqC "kind_of_hole_around" 425 76 1 195 430,hFn 29 "kind_of_hole_around" g7 200]
noncomputable def Me (P:Params):List Obj:=[hqU [],hqN,hFz 30 "joined_part",hqD "joined_part" 433 81 1 202,hFn 30 "joined_part" g7 205,hqU [],hqN,hFz 31 "joined",hqD "joined" 439 88 1 207,hFn 31 "joined" g7 210,hqU [],hqN,hqU [.str "part" 448,.str "length" 449,.str "text" 450],hqU [],hFz 32 "part_key",hqC "part_key" 445 95 1 212 451,hFn 32 "part_key" g7 217,hqU [],hqN,hFz 33 "pattern_key",hqD "pattern_key" 454 100 1 219,hFn 33 "pattern_key" g7 222,hqU [],hqN,hFz 34 "ordered",hqD "ordered" 460 102 1 224,hFn 34 "ordered" g7 227,hqU [.int 3 468,.int 2 469],hqU [],hqN,hqU [.str "rows" 474,.str "keys" 475,.str "groups" 476,.str "row" 477,.str "key" 478],hqU [],hFz 37 "grouped",hqC "grouped" 471 106 2 230 479,hFn 37 "grouped" om 235,hqU [],hqN,hFz 38 "words_at",hqD "words_at" 482 111 2 237,hFn 38 "words_at" om 240,hqU [],hqN,hqU [.str "group" 491,.str "place" 492],hqU [],hFz 39 "many_unlike_at",hqC "many_unlike_at" 488 113 2 242 493,hFn 39 "many_unlike_at" om 247,hqU [],hqN,hFz 40 "is_fit_to_part_at",hqD "is_fit_to_part_at" 496 115 3 249,hFn 40 "is_fit_to_part_at" om 252,hqU [],hqN,hFz 41 "place_to_part_at",hqD "place_to_part_at" 502 120 2 254,hFn 41 "place_to_part_at" om 257,hqU [],hqN,hqU [.str "group" 511,.str "sieve" 512,.str "place" 513,.str "groups" 514,.str "smaller" 515],hqU [],hFz 42 "parted",hqC "parted" 508 123 2 259 516,hFn 42 "parted" om 264,hqU [],hqN,hFz 43 "pattern_of_group",hqD "pattern_of_group" 519 131 1 266,hFn 43 "pattern_of_group" om 269,hqU [.ref 229],hqU [],hqN,hFz 44 "gathered",hqD "gathered" 525 133 2 272,hFd 44 "gathered" om 275 271,hqU [],hqN,hqU [.str "part" 536],hqU [],hFz 46 "looseness_of_part",hqC "looseness_of_part" 533 140 1 277 537,hFn 46 "looseness_of_part" Fn 282,hqU [],hqN,hFz 47 "looseness",hqD "looseness" 540 144 1 284,hFn 47 "looseness" Fn 287,hqU [],hqN,hFz 48 "falls_under",hqD "falls_under" 546 146 2 289,hFn 48 "falls_under" Fn 292,hqU [],hqN,hqU [.str "things" 561,.str "many" 562,.str "thing" 563],hqU [],hFz 52 "how_often",hqC "how_often" 558 152 1 294 564,hFn 52 "how_often" bV 299,hqU [],hqN,hFz 53 "words_in_order",hqD "words_in_order" 567 157 1 301,hFn 53 "words_in_order" bV 304,hqU [],⟨.type "builtin_function_or_method",none,.fields #[.builtin "type.__prepare__",.type "type"],#[]⟩,⟨.type "dict",none,.dict #[hEn P "__module__" 580 bV,hEn P "__qualname__" 582 (.str "State" 581),hEn P "__firstlineno__" 584 (.int 160 583),hqR P "__init__" 590 317,hqR P "fall_of" 598 324,hqR P "__static_attributes__" 603 325] 6,#[]⟩,hqU [],⟨.none,none,.fields #[.int 162 0,.int 4 0,.ref 316,.int 170 0,.int 4 0,.ref 323],#[]⟩,hqB "State" 575 160 309,hqW 311 308 bV,hqU [],hqN,hqG 54 0 "__init__" "State.__init__",hqO "__init__" "State.__init__" 585 162 4 313,hqF 54 0 "__init__" "State.__init__" bV 316,hqU [],hqN,hqU [.str "self" 594,.str "line" 595],hqU [],hqG 54 1 "fall_of" "State.fall_of",hqM "fall_of" "State.fall_of" 591 170 2 318 596,hqF 54 1 "fall_of" "State.fall_of" bV 323,hqU [.str "by_hand" 599,.str "falls" 600,.str "found" 601,.str "rows" 602],⟨.type "dict",none,.dict #[hEn P "__module__" 580 bV,hEn P "__firstlineno__" 584 (.int 160 583),hqR P "__init__" 590 317,hqR P "fall_of" 598 324,hqR P "__static_attributes__" 603 325,hqR P "__dict__" 605 328,hqR P "__weakref__" 607 329,hEn P "__doc__" 608 (.none)] 4,#[]⟩,⟨.type "type",none,.cls { name:= "State",bases:=[.type "object"],mro:=[.ref 327,.type "object"],ns:=326,qualname:= "State",hasDict:=true,slotNames:=[],subclasses:=[],abstract:=false,collection:=none,hasDel:=false },#[none,none,some (.str "State" 573),some (.str "State" 581),some (.builtin "object.__new__"),some (.bool true)]⟩,⟨.type "getset_descriptor",none,.fields #[.str "__dict__" 604,.ref 327,.builtin "function.__dict__",.builtin "function.__dict__#set"],#[]⟩,⟨.type "getset_descriptor",none,.fields #[.str "__weakref__" 606,.ref 327,.builtin "ExceptionGroup.__weakref__",.none],#[]⟩,hqS 327,hqI "object.__init_subclass__" 327]
noncomputable def OS (P:Params):List Obj:=[hqU [],⟨.type "builtin_function_or_method",none,.fields #[.builtin "type.__prepare__",.type "type"],#[]⟩,⟨.type "dict",none,.dict #[hEn P "__module__" 618 bV,hEn P "__qualname__" 620 (.str "Log" 619),hEn P "__firstlineno__" 622 (.int 172 621),hqR P "__init__" 630 346,hqR P "__len__" 637 353,hqR P "__eq__" 645 360,hqR P "held" 652 367,hqR P "rows_with_falls" 659 374,hqR P "turn_to" 669 381,hqR P "do_deed" 678 388,hqR P "come" 688 395,hqR P "put" 697 402,hqR P "take" 703 407,hqR P "back" 710 414,hqR P "again" 717 421,hqR P "moves" 724 428,hqR P "patterns" 730 433,hqR P "under" 738 440,hqR P "would_fall" 746 447,hqR P "counts" 752 452,hqR P "holes" 758 457,hqR P "__static_attributes__" 764 458] 22,#[]⟩,hqU [],⟨.none,none,.fields #[.int 174 0,.int 4 0,.ref 345,.int 181 0,.int 4 0,.ref 352,.int 184 0,.int 4 0,.ref 359,.int 189 0,.int 4 0,.ref 366,.int 192 0,.int 4 0,.ref 373,.int 195 0,.int 4 0,.ref 380,.int 200 0,.int 4 0,.ref 387,.int 205 0,.int 4 0,.ref 394,.int 216 0,.int 4 0,.ref 401,.int 224 0,.int 4 0,.ref 406,.int 230 0,.int 4 0,.ref 413,.int 236 0,.int 4 0,.ref 420,.int 242 0,.int 4 0,.ref 427,.int 245 0,.int 4 0,.ref 432,.int 248 0,.int 4 0,.ref 439,.int 251 0,.int 4 0,.ref 446,.int 254 0,.int 4 0,.ref 451,.int 258 0,.int 4 0,.ref 456],#[]⟩,hqB "Log" 613 172 335,hqW 337 334 bV,hqU [.ref 229],hqU [],hqN,hqU [.str "self" 626,.str "sieve" 627],hqU [],hqG 55 0 "__init__" "Log.__init__",hqM "__init__" "Log.__init__" 623 174 2 340 628,⟨.type "function",none,.func (MK 55 0 "__init__" "Log.__init__" 3 bV (.ref 345) 339),#[]⟩,hqU [],hqN,hqU [.str "self" 634],hqU [],hqG 55 1 "__len__" "Log.__len__",hqM "__len__" "Log.__len__" 631 181 1 347 635,hqF 55 1 "__len__" "Log.__len__" bV 352,hqU [],hqN,hqU [.str "self" 641,.str "other" 642],hqU [],hqG 55 2 "__eq__" "Log.__eq__",hqM "__eq__" "Log.__eq__" 638 184 2 354 643,hqF 55 2 "__eq__" "Log.__eq__" bV 359,hqU [],hqN,hqU [.str "self" 649],hqU [],hqG 55 3 "held" "Log.held",hqM "held" "Log.held" 646 189 1 361 650,hqF 55 3 "held" "Log.held" bV 366,hqU [],hqN,hqU [.str "self" 656],hqU [],hqG 55 4 "rows_with_falls" "Log.rows_with_falls",hqM "rows_with_falls" "Log.rows_with_falls" 653 192 1 368 657,hqF 55 4 "rows_with_falls" "Log.rows_with_falls" bV 373,hqU [],hqN,hqU [.str "self" 663,.str "held" 664,.str "rows" 665,.str "by_hand" 666],hqU [],hqG 55 5 "turn_to" "Log.turn_to",hqM "turn_to" "Log.turn_to" 660 195 2 375 667,hqF 55 5 "turn_to" "Log.turn_to" bV 380,hqU [],hqN,hqU [.str "self" 673,.str "rows" 674,.str "by_hand" 675],hqU [],hqG 55 6 "do_deed" "Log.do_deed",hqM "do_deed" "Log.do_deed" 670 200 3 382 676,hqF 55 6 "do_deed" "Log.do_deed" bV 387,hqU [],hqN,hqU [.str "self" 682,.str "moment" 683,.str "line" 684,.str "rows" 685],hqU [],hqG 55 7 "come" "Log.come",hqM "come" "Log.come" 679 205 3 389 686,hqF 55 7 "come" "Log.come" bV 394,hqU [],hqN,hqU [.str "self" 692,.str "pattern" 693,.str "by_hand" 694],hqU [],hqG 55 8 "put" "Log.put",hqM "put" "Log.put" 689 216 2 396 695,hqF 55 8 "put" "Log.put" bV 401,hqU [],hqN,hqG 55 9 "take" "Log.take",hqO "take" "Log.take" 698 224 2 403,hqF 55 9 "take" "Log.take" bV 406,hqU [],hqN,hqU [.str "self" 707],hqU [],hqG 55 10 "back" "Log.back",hqM "back" "Log.back" 704 230 1 408 708,hqF 55 10 "back" "Log.back" bV 413,hqU [],hqN,hqU [.str "self" 714],hqU [],hqG 55 11 "again" "Log.again",hqM "again" "Log.again" 711 236 1 415 715,hqF 55 11 "again" "Log.again" bV 420,hqU [],hqN,hqU [.str "self" 721],hqU [],hqG 55 12 "moves" "Log.moves",hqM "moves" "Log.moves" 718 242 1 422 722,hqF 55 12 "moves" "Log.moves" bV 427,hqU [],hqN,hqG 55 13 "patterns" "Log.patterns",hqO "patterns" "Log.patterns" 725 245 1 429,hqF 55 13 "patterns" "Log.patterns" bV 432,hqU [],hqN,hqU [.str "self" 734,.str "number" 735],hqU [],hqG 55 14 "under" "Log.under",hqM "under" "Log.under" 731 248 2 434 736,hqF 55 14 "under" "Log.under" bV 439,hqU [],hqN,hqU [.str "self" 742,.str "line" 743],hqU [],hqG 55 15 "would_fall" "Log.would_fall",hqM "would_fall" "Log.would_fall" 739 251 2 441 744,hqF 55 15 "would_fall" "Log.would_fall" bV 446,hqU [],hqN,hqG 55 16 "counts" "Log.counts",hqO "counts" "Log.counts" 747 254 3 448,hqF 55 16 "counts" "Log.counts" bV 451,hqU [],hqN,hqG 55 17 "holes" "Log.holes",hqO "holes" "Log.holes" 753 258 2 453,hqF 55 17 "holes" "Log.holes" bV 456,hqU [.str "ahead" 759,.str "past" 760,.str "sieve" 761,.str "state" 762,.str "taken_back" 763],⟨.type "dict",none,.dict #[hEn P "__module__" 618 bV,hEn P "__firstlineno__" 622 (.int 172 621),hqR P "__init__" 630 346,hqR P "__len__" 637 353,hqR P "__eq__" 645 360,hqR P "held" 652 367,hqR P "rows_with_falls" 659 374,hqR P "turn_to" 669 381,hqR P "do_deed" 678 388,hqR P "come" 688 395,hqR P "put" 697 402,hqR P "take" 703 407,hqR P "back" 710 414,hqR P "again" 717 421,hqR P "moves" 724 428,hqR P "patterns" 730 433,hqR P "under" 738 440,hqR P "would_fall" 746 447,hqR P "counts" 752 452,hqR P "holes" 758 457,hqR P "__static_attributes__" 764 458,hqR P "__dict__" 766 461,hqR P "__weakref__" 768 462,hEn P "__doc__" 769 (.none),hEn P "__hash__" 770 (.none)] 5,#[]⟩,⟨.type "type",none,.cls { name:= "Log",bases:=[.type "object"],mro:=[.ref 460,.type "object"],ns:=459,qualname:= "Log",hasDict:=true,slotNames:=[],subclasses:=[],abstract:=false,collection:=none,hasDel:=false },#[none,none,some (.str "Log" 611),some (.str "Log" 619),some (.builtin "object.__new__"),some (.bool true)]⟩,⟨.type "getset_descriptor",none,.fields #[.str "__dict__" 765,.ref 460,.builtin "function.__dict__",.builtin "function.__dict__#set"],#[]⟩,⟨.type "getset_descriptor",none,.fields #[.str "__weakref__" 767,.ref 460,.builtin "ExceptionGroup.__weakref__",.none],#[]⟩,hqS 460,hqI "object.__init_subclass__" 460]
noncomputable def mH0 (P:Params):Heap:=⟨(mS0 P++(([⟨.type "dict",none,.dict (hEn P "__name__" 165 iW::Qj P).toArray 14,#[]⟩]:List Obj)++(mS4 P++(([⟨.none,none,.fields Pn.toArray,#[]⟩]:List Obj)++(Li P++(([⟨.type "type",none,.cls { name:= "GatherError",bases:=[.type "ValueError"],mro:=[.ref 31,.type "ValueError",.type "Exception",.type "BaseException",.type "object"],ns:=30,qualname:= "GatherError",hasDict:=true,slotNames:=[],subclasses:=[.ref 44,.ref 56,.ref 75],abstract:=false,collection:=none,hasDel:=false },#[some (.ref 22),none,some (.str "GatherError" 196),some (.str "GatherError" 204),some (.builtin "ValueError.__new__"),some (.bool true)]⟩]:List Obj)++(Ly P))))))).toArray,(Yn P).life⟩
noncomputable def mH1 (P:Params):Heap:=⟨(mS0 P++(([⟨.type "dict",none,.dict (hEn P "__name__" 165 g7::Q5 P).toArray 36,#[]⟩]:List Obj)++(mS4 P++(([⟨.none,none,.fields QC.toArray,#[]⟩]:List Obj)++(Li P++(([⟨.type "type",none,.cls { name:= "GatherError",bases:=[.type "ValueError"],mro:=[.ref 31,.type "ValueError",.type "Exception",.type "BaseException",.type "object"],ns:=30,qualname:= "GatherError",hasDict:=true,slotNames:=[],subclasses:=[.ref 44,.ref 56,.ref 75,.ref 87,.ref 99,.ref 111],abstract:=false,collection:=none,hasDel:=false },#[some (.ref 22),none,some (.str "GatherError" 196),some (.str "GatherError" 204),some (.builtin "ValueError.__new__"),some (.bool true)]⟩]:List Obj)++(Ly P++(NX P)))))))).toArray,(Yn P).life⟩
noncomputable def mH2 (P:Params):Heap:=⟨(mS0 P++(([⟨.type "dict",none,.dict (hEn P "__name__" 165 bV::PJ P).toArray 58,#[]⟩]:List Obj)++(mS4 P++(([⟨.none,none,.fields OF.toArray,#[]⟩]:List Obj)++(Li P++(([⟨.type "type",none,.cls { name:= "GatherError",bases:=[.type "ValueError"],mro:=[.ref 31,.type "ValueError",.type "Exception",.type "BaseException",.type "object"],ns:=30,qualname:= "GatherError",hasDict:=true,slotNames:=[],subclasses:=[.ref 44,.ref 56,.ref 75,.ref 87,.ref 99,.ref 111],abstract:=false,collection:=none,hasDel:=false },#[some (.ref 22),none,some (.str "GatherError" 196),some (.str "GatherError" 204),some (.builtin "ValueError.__new__"),some (.bool true)]⟩]:List Obj)++(Ly P++(NX P++(Me P))))))))).toArray,(Yn P).life⟩
noncomputable def mH3 (P:Params):Heap:=⟨(mS0 P++(([⟨.type "dict",none,.dict (hEn P "__name__" 165 bV::Ox P).toArray 59,#[]⟩]:List Obj)++(mS4 P++(([⟨.none,none,.fields S5.toArray,#[]⟩]:List Obj)++(Li P++(([⟨.type "type",none,.cls { name:= "GatherError",bases:=[.type "ValueError"],mro:=[.ref 31,.type "ValueError",.type "Exception",.type "BaseException",.type "object"],ns:=30,qualname:= "GatherError",hasDict:=true,slotNames:=[],subclasses:=[.ref 44,.ref 56,.ref 75,.ref 87,.ref 99,.ref 111],abstract:=false,collection:=none,hasDel:=false },#[some (.ref 22),none,some (.str "GatherError" 196),some (.str "GatherError" 204),some (.builtin "ValueError.__new__"),some (.bool true)]⟩]:List Obj)++(Ly P++(NX P++(Me P++(OS P)))))))))).toArray,(Yn P).life⟩
def mB:List Stmt:=W.behindTheImports Y0
def vF:Env:={ scope:=Y0.main.scope,locals:=mainNs,globals:=mainNs,cells:=[],code:=.ref 13,frame:=some 14 }
def mC:Code:=.body mB vF
theorem mSz (w:Ze):((Yn w.params).isNs mainGlobals,(Yn w.params).objs.size,(Yn w.params).nsMap mainGlobals "__annotations__")=(true,11,some (.ref 6)):=by kernel_rfl
theorem mR0 (w:Ze) (a:OsState):(W.topGo treeTable Y0 w 11 (some (.ref 6)) 12 ⟨Yn w.params,Array.mk [],W.boot_drawn,W.boot_toks,a⟩ (W.topStub Y0)).bind (λx=>(W.segRun treeTable Y0 w 11 (some (.ref 6)) 1 1 x.1 (W.blockOf mB vF mC ⟨0,0,0,0⟩ [YH ⟨0,0,0,0⟩])).bind λy=>(W.segRun treeTable Y0 w 11 (some (.ref 6)) 1 896 y.2.1 (W.piecesOf (mB.take 6) vF mC y.2.2.2 [YH ⟨0,0,0,0⟩])).map λz=>(x.2,y.1,y.2.2.1,z))=some (⟨denote treeTable mC,mC,⟨0,0,0,0⟩,[YH ⟨0,0,0,0⟩]⟩,.next,mC,(.next,⟨mH0 w.params,Array.mk [],⟨0,0,0,0⟩,271,a⟩,mC,⟨11,0,15,24⟩)):=by kernel_rfl
theorem mR1 (w:Ze) (a:OsState):W.segRun treeTable Y0 w 11 (some (.ref 6)) 1 1094 ⟨mH0 w.params,Array.mk [],⟨0,0,0,0⟩,271,a⟩ (W.piecesOf ((mB.drop 6).take 24) vF mC ⟨11,0,15,24⟩ [YH ⟨0,0,0,0⟩])=some (.next,⟨mH1 w.params,Array.mk [],⟨0,0,0,0⟩,433,a⟩,mC,⟨76,0,80,48⟩):=by kernel_rfl
theorem mR2 (w:Ze) (a:OsState):W.segRun treeTable Y0 w 11 (some (.ref 6)) 1 813 ⟨mH1 w.params,Array.mk [],⟨0,0,0,0⟩,433,a⟩ (W.piecesOf ((mB.drop 30).take 25) vF mC ⟨76,0,80,48⟩ [YH ⟨0,0,0,0⟩])=some (.next,⟨mH2 w.params,Array.mk [],⟨0,0,0,0⟩,611,a⟩,mC,⟨160,0,171,16⟩):=by kernel_rfl
theorem mR3 (w:Ze) (a:OsState):W.segRun treeTable Y0 w 11 (some (.ref 6)) 1 766 ⟨mH2 w.params,Array.mk [],⟨0,0,0,0⟩,611,a⟩ (W.piecesOf ((mB.drop 55).take 1) vF mC ⟨160,0,171,16⟩ [YH ⟨0,0,0,0⟩])=some (.next,⟨mH3 w.params,Array.mk [],⟨0,0,0,0⟩,773,a⟩,mC,⟨172,0,263,85⟩):=by kernel_rfl
theorem mZ (w:Ze) (a:OsState):(W.segRun treeTable Y0 w 11 (some (.ref 6)) 1 349 ⟨mH3 w.params,Array.mk [],⟨0,0,0,0⟩,773,a⟩ (W.piecesOf (mB.drop 56) vF mC ⟨172,0,263,85⟩ [YH ⟨0,0,0,0⟩])).bind (λz=>(W.topRun treeTable Y0 w 11 (some (.ref 6)) 2 z.2.1 ⟨W.doneF .next,mC,z.2.2.2,[YH ⟨0,0,0,0⟩]⟩).map λr=>(z.1,z.2.2.1,(W.staticsOk (importedModules Y0.main.body) (Yn w.params) r.heap && W.namesBound Y0 r.heap && W.gensDone r && W.laidKept (Yn w.params) r.heap),W.openSeen hV hLo (importedModules Y0.main.body) hX true r,hH.obs r))=some (.next,mC,true,W.openGood hV hLo,hH.val w):=by kernel_rfl
theorem mT3 (w:Ze) (a:OsState):L2.uO Y0 hV hLo hX hH.obs hH.val Yn 11 (some (.ref 6)) vF mC ⟨0,0,0,0⟩ (766+(349+2)) (mB.drop 55) ⟨160,0,171,16⟩ w ⟨mH2 w.params,Array.mk [],⟨0,0,0,0⟩,611,a⟩:=L2.vG (mR3 w a) (L2.CG mB 55 1) (L2.Gm (mZ w a))
theorem mT2 (w:Ze) (a:OsState):L2.uO Y0 hV hLo hX hH.obs hH.val Yn 11 (some (.ref 6)) vF mC ⟨0,0,0,0⟩ (813+(766+(349+2))) (mB.drop 30) ⟨76,0,80,48⟩ w ⟨mH1 w.params,Array.mk [],⟨0,0,0,0⟩,433,a⟩:=L2.vG (mR2 w a) (L2.CG mB 30 25) (mT3 w a)
theorem mT1 (w:Ze) (a:OsState):L2.uO Y0 hV hLo hX hH.obs hH.val Yn 11 (some (.ref 6)) vF mC ⟨0,0,0,0⟩ (1094+(813+(766+(349+2)))) (mB.drop 6) ⟨11,0,15,24⟩ w ⟨mH0 w.params,Array.mk [],⟨0,0,0,0⟩,271,a⟩:=L2.vG (mR1 w a) (L2.CG mB 6 24) (mT2 w a)
theorem hL:W.LeftO Y0 hV hLo hX hH.obs hH.val 7952:=L2.Gd (c:=mC) (env:=vF) (b:=mB) (n2:=1094+(813+(766+(349+2)))) rfl (We 6 mB) (W.boot_open (by kernel_rfl) (by decide) (λs=>by kernel_rfl)) mSz mR0 (λw a=>mT1 w a) (by decide)
end K19
namespace L2
open PySem PySem.Spec PyProof.Rows
abbrev Key:=Sum Int Str
def uR:Key->Xy->Bool
 | .inl k,v=>Value.isInt k v
 | .inr x,v=>Value.isStrOf x v
def SM (w:Ze):Key->Int
 | .inl k=>hashInt k
 | .inr x=>hashStr w x
theorem ck:∀{k:Key}{v:Xy},uR k v=true->(∃i t,k=Sum.inl i/\v=Value.int i t)\/(∃x t,k=Sum.inr x/\v=Value.str x t)
 | .inl i,v,h=>by
  obtain⟨t,e⟩:=Value.isInt_shape (k:=i) (v:=v) h;exact .inl ⟨i,t,rfl,e⟩
 | .inr x,v,h=>by
  obtain⟨t,e⟩:=Value.isStrOf_shape (x:=x) (v:=v) h;exact .inr ⟨x,t,rfl,e⟩
theorem EG (i:Int) (t:Tok):uR (.inl i) (.int i t)=true:=by simp[uR,Value.isInt]
theorem FZ (x:Str) (t:Tok):uR (.inr x) (.str x t)=true:=by simp[uR,Value.isStrOf]
theorem MP (a b:Int):decide ((Sum.inl a:Key)=Sum.inl b)=(a == b):=by
 by_cases e:a=b
 ·subst e;simp
 ·have h:¬ (Sum.inl a:Key)=Sum.inl b:=λq=>e (Sum.inl.inj q);rw[Zl h];exact(beq_eq_false_iff_ne.mpr e).symm
theorem N4 (a b:Str):decide ((Sum.inr a:Key)=Sum.inr b)=decide (a=b):=by
 by_cases e:a=b
 ·subst e;simp
 ·have h:¬ (Sum.inr a:Key)=Sum.inr b:=λq=>e (Sum.inr.inj q);rw[Zl h,Zl e]
theorem NO (a:Int) (b:Str):decide ((Sum.inl a:Key)=Sum.inr b)=false:=Zl (λq=>nomatch q)
theorem NS (a:Str) (b:Int):decide ((Sum.inr a:Key)=Sum.inl b)=false:=Zl (λq=>nomatch q)
def a9 (prog:Zd) (w:Ze):PySem.KeyKind prog w Key where
 is:=uR
 hash:=SM w
 inj:=λv a b ha hb=>by
  rcases ck ha with⟨i,t,rfl,rfl⟩ | ⟨x,t,rfl,rfl⟩
  ·rcases ck hb with⟨j,u,rfl,e⟩ | ⟨y,u,rfl,e⟩
   ·injection e with e1 _;rw[e1]
   ·exact nomatch e
  ·rcases ck hb with⟨j,u,rfl,e⟩ | ⟨y,u,rfl,e⟩
   ·exact nomatch e
   ·injection e with e1 _;rw[e1]
 byValue:=λk v h=>by
  rcases ck h with⟨i,t,rfl,rfl⟩ | ⟨x,t,rfl,rfl⟩ <;> rfl
 pyHash:=λhv h=>by
  rcases ck hv with⟨i,t,rfl,rfl⟩ | ⟨x,t,rfl,rfl⟩
  ·exact wpAny_pyHash_int h
  ·exact wpAny_pyHash_str h
 eqBool:=λhu hv h=>by
  rcases ck hu with⟨i,t,rfl,rfl⟩ | ⟨x,t,rfl,rfl⟩
  ·rcases ck hv with⟨j,u,rfl,rfl⟩ | ⟨y,u,rfl,rfl⟩
   ·rw[MP]at h;exact wpAny_eqBool_int h
   ·rw[NO]at h;exact SeqAt.EqAt.int_str i t y u _ _ _ _ h
  ·rcases ck hv with⟨j,u,rfl,rfl⟩ | ⟨y,u,rfl,rfl⟩
   ·rw[NS]at h;exact SeqAt.EqAt.str_int x t j u _ _ _ _ h
   ·rw[N4]at h;exact wpAny_eqBool_str h
 «strs»:=λk x t v h=>by
  rcases ck h with⟨i,u,rfl,e⟩ | ⟨y,u,rfl,e⟩
  ·exact nomatch e
  ·injection e with e1 _;subst e1;cases v <;> rfl
theorem Ah (prog:Zd) (w:Ze) (i:Int) (t:Tok):(a9 prog w).is (.inl i) (.int i t)=true:=EG i t
theorem jy (prog:Zd) (w:Ze) (x:Str) (t:Tok):(a9 prog w).is (.inr x) (.str x t)=true:=FZ x t
inductive V where
 | non | bl (b:Bool) | int (i:Int) | str (x:Str) | byt (b:Array UInt8) | flt (b:UInt64) | ref (a:Za) | ty (n:String)
 deriving DecidableEq
abbrev Uj:=List V
def RelV:V->Xy->Prop
 | .non,u=>u=Value.none
 | .bl b,u=>u=Value.bool b
 | .int i,u=>∃t,u=Value.int i t
 | .str x,u=>∃t,u=Value.str x t
 | .byt b,u=>∃t,u=Value.bytes b t
 | .flt b,u=>∃t,u=Value.float b t
 | .ref a,u=>u=Value.ref a
 | .ty n,u=>u=Value.type n
abbrev aQ:Uj->WF->Prop:=Paired RelV
theorem aQ.length {xs:Uj} (r:aQ xs us):xs.length=us.length:=Paired.length r
theorem aQ.get:∀{xs:Uj}{us:WF}{i:Nat}{x:V},aQ xs us->xs[i]? = some x->∃u,us[i]? = some u/\RelV x u
 | _,_,_,_,.nil,e=>by simp at e
 | _,_,0,_,.cons r _,e=>by simp at e;subst e;exact⟨_,rfl,r⟩
 | _,_,i+1,x,.cons _ t,e=>by
  obtain⟨u,b,a⟩:=aQ.get (i:=i) (x:=x) t (by simpa using e);exact⟨u,by simpa using b,a⟩
theorem aQ.set {x:V}{u:Xy} (r:RelV x u):∀{xs:Uj}{us:WF} (i:Nat),aQ xs us->aQ (xs.set i x) (us.set i u)
 | _,_,_,.nil=>.nil
 | _,_,0,.cons _ t=>.cons r t
 | _,_,i+1,.cons q t=>.cons q (aQ.set r i t)
theorem aQ.append:∀{xs ys:Uj}{us ws:WF},aQ xs us->aQ ys ws->aQ (xs++ys) (us++ws)
 | _,_,_,_,.nil,s=>s
 | _,_,_,_,.cons r t,s=>.cons r (aQ.append t s)
theorem aQ.take:∀{xs:Uj}{us:WF} (n:Nat),aQ xs us->aQ (xs.take n) (us.take n)
 | _,_,0,_=>.nil
 | _,_,_+1,.nil=>.nil
 | _,_,n+1,.cons r t=>.cons r (aQ.take n t)
theorem aQ.drop:∀{xs:Uj}{us:WF} (n:Nat),aQ xs us->aQ (xs.drop n) (us.drop n)
 | _,_,0,r=>r
 | _,_,_+1,.nil=>.nil
 | _,_,n+1,.cons _ t=>aQ.drop n t
theorem aQ.none_of:∀{xs:Uj}{us:WF}{i:Nat},aQ xs us->xs[i]? = none->us[i]? = none:=λ{xs us i} r e=>by
 have h1:=r.length;have h2:xs.length<=i:=Wm.mp e;exact Wm.mpr (by lia)
def jZ:Option V->Option Xy->Prop
 | some v,some u=>RelV v u
 | none,none=>True
 | _,_=>False
def KV {κ:Type}:List (κ×V)->List (κ×Xy)->Prop:=Paired λ(p:κ×V) (q:κ×Xy)=>p.1=q.1/\RelV p.2 q.2
def kV:Key->V
 | .inl i=>.int i
 | .inr x=>.str x
inductive HO where
 | lst (xs:Uj)
 | tup (xs:Uj)
 | dK (kvs:List (Key×V)) | dT (kvs:List (List Key×V))
 | set (S:Int->Bool) (n:Nat)
 | ins (C dx:Za) (fs:List (Str×V))
 | own (x:Za)
 | xd (fs:List (Str×V))
 | met (f x:Za)
 | rng (lo hi:Int)
 | frz (o:Obj) (u:HO)
 | tbl (ps:Uy)
 | ext (φ:Heap->Prop)
abbrev Hp:=Za->Option HO
end L2
variable {o:L2.HO}{B B' H H' H0 H1 H2 H3 H5 Ha Hb:L2.Hp}{lv xs ys:L2.Uj}{v:L2.V}{fs':List (Str×L2.V)}{q:Option L2.HO}
namespace L2
open PySem PySem.Spec PyProof.Rows
def upd (H:Hp) (a:Za) (o:HO):Hp:=λb=>if b=a then some o else H b
theorem nn {f:α->β}{a b:α}{p q:β} (e:f a=p) (h:f b=q) (n:p≠q:=by nofun):a≠b:=λz=>by rw[z,h]at e;exact n e.symm
theorem nT (x:Str):[x].Nodup:=by simp
theorem ab:upd H a o a=some o:=by unfold upd;rw[Zn rfl]
theorem ap (h:b≠a):upd H a o b=H b:=by unfold upd;rw[Zo h]
theorem QV {u:HO} (h:H a=some o) (h':H b=some u) (d:o≠u):a≠b:=by
 intro e;subst e;rw[h]at h';exact d (Ye h')
theorem aw (h:H a=some o) (h':H b=none):a≠b:=by
 intro e;subst e;rw[h]at h';cases h'
section
variable (P:Zd) (w:Ze)
def cg (H:Hp) (h:Heap) (a:Za):HO->Prop
 | .lst xs=>xs.length<=Zg/\∃(its:WF) (n:Nat),aQ xs its/\h.get? a=some { cls:=.type "list",data:=.seq its.toArray n }
 | .tup xs=>xs.length<=Zg/\∃its:WF,aQ xs its/\IsTup h a its.toArray
 | .dK kvs=>kvs.length<=Zg/\(a == sysModules)=false/\∃vs,KV kvs vs/\h.DictOf (a9 P w) a vs
 | .dT kvs=>kvs.length<=Zg/\(a == sysModules)=false/\∃xs:List (List Key×Za×Xy),
   Paired (λ(p:List Key×V) (q:List Key×Za×Xy)=>p.1=q.1/\H q.2.1=some (.tup (p.1.map kV))/\RelV p.2 q.2.2) kvs xs /\
   ∃o es ep,h.get? a=some o/\o.ExactDict/\o.data = .dict es ep/\es.toList=xs.map (entryOfKey (tupleKind (a9 P w)))/\(xs.map (·.1)).Nodup
 | .set S n=>h.SetOf (intKind P w) a S n
 | .ins C dx fs=>H dx=some (.own a)/\fs.length<=1000/\dx≠a/\h.get? a=some (YK C dx) /\
   ∃mA,h.Ns1 dx mA/\(∀f,jZ (fs.lookup f) (mA f))/\PySem.Within mA (fs.map (·.1))
 | .own _=>∃o,h.get? a=some o
 | .xd fs=>∃mA,h.Ns1 a mA/\∀f,jZ (fs.lookup f) (mA f)
 | .rng lo hi=>∃t u v,h.get? a=some { cls:=.type "range",data:=.fields #[.int lo t,.int hi u,.int 1 v] }
 | .frz o u=>h.get? a=some o/\cg H h a u
 | .tbl ps=>h.get? a=some { cls:=.none,data:=.fields ps }
 | .met f x=>h.get? a=some (W.methodObj (.ref f) (.ref x))
 | .ext φ=>φ h/\(∃o,h.get? a=some o)/\∀h1 h2:Heap,φ h1->(∀o,h1.get? a=some o->h2.get? a=some o)->φ h2
def HOk (H:Hp) (h:Heap):Prop:=∀a o,H a=some o->cg P w H h a o
end
theorem cg.lt (x:cg P w H h a o):a<h.objs.size:=by
 cases o with
 | lst d=>obtain⟨_,_,_,_,e⟩:=x;exact Y2 e
 | tup d=>obtain⟨_,_,_,p⟩:=x;exact p.lt
 | dK b=>obtain⟨_,_,_,_,o,_,_,e,_⟩:=x;exact Y2 e
 | dT b=>obtain⟨_,_,_,_,o,_,_,e,_⟩:=x;exact Y2 e
 | set S n=>obtain⟨o,_,_,_,e,_⟩:=x;exact Y2 e
 | ins C _ c=>obtain⟨_,_,_,e,_⟩:=x;exact Y2 e
 | own y=>obtain⟨_,e⟩:=x;exact Y2 e
 | xd c=>obtain⟨_,⟨_,_,_,e,_⟩,_⟩:=x;exact Y2 e
 | rng _ _=>obtain⟨_,_,_,e⟩:=x;exact Y2 e
 | frz _ u=>obtain⟨e,_⟩:=x;exact Y2 e
 | tbl _=>exact Y2 (show h.get? a=some _ from x)
 | met f y=>exact Y2 (show h.get? a=some _ from x)
 | ext _=>obtain⟨_,⟨_,e⟩,_⟩:=x;exact Y2 e
theorem Paired.Np {α β:Type}{F G:α->β->Prop}:∀{l₁:List α}{l₂:List β},Paired F l₁ l₂->(∀a b,F a b->G a b)->Paired G l₁ l₂
 | _,_,.nil,_=>.nil
 | _,_,.cons r t,f=>.cons (f _ _ r) (Paired.Np t f)
theorem cg.yY (x:cg P w H h a o) (k:∀b u,(b=a\/H b=some (.own a))->h.get? b=some u->h'.get? b=some u)
  (I:∀b,H b=some (.own a)->H' b=some (.own a)) (E:∀b xs,H b=some (.tup xs)->H' b=some (.tup xs)):cg P w H' h' a o:=by
 induction o with
 | lst xs=>obtain⟨z,l,n,r,e⟩:=x;exact⟨z,l,n,r,k _ _ (.inl rfl) e⟩
 | tup xs=>obtain⟨z,l,r,g,e,c⟩:=x;exact⟨z,l,r,g,k _ _ (.inl rfl) e,c⟩
 | dK s=>obtain⟨z,y,K,r,g,i,j,e,c⟩:=x;exact⟨z,y,K,r,g,i,j,k _ _ (.inl rfl) e,c⟩
 | dT s=>
  obtain⟨z,y,xs,r,g,i,j,e,c⟩:=x;exact⟨z,y,xs,Paired.Np r λp q z=>⟨z.1,E _ _ z.2.1,z.2.2⟩,g,i,j,k _ _ (.inl rfl) e,c⟩
 | set S n=>obtain⟨g,i,j,t,e,c⟩:=x;exact⟨g,i,j,t,k _ _ (.inl rfl) e,c⟩
 | ins C _ F=>
  obtain⟨d,z,G,e,m,⟨A,i,j,L,c⟩,r⟩:=x;exact⟨I _ d,z,G,k _ _ (.inl rfl) e,m,⟨A,i,j,k _ _ (.inr d) L,c⟩,r⟩
 | own y=>obtain⟨g,e⟩:=x;exact⟨g,k _ _ (.inl rfl) e⟩
 | xd F=>obtain⟨m,⟨A,i,j,e,c⟩,r⟩:=x;exact⟨m,⟨A,i,j,k _ _ (.inl rfl) e,c⟩,r⟩
 | rng _ _=>obtain⟨t,u,v,e⟩:=x;exact⟨t,u,v,k _ _ (.inl rfl) e⟩
 | frz g u J=>obtain⟨e,q⟩:=x;exact⟨k _ _ (.inl rfl) e,J q⟩
 | tbl B=>
  have e:h.get? a=some { cls:=.none,data:=.fields B }:=x;show h'.get? a=some { cls:=.none,data:=.fields B };exact k a _ (.inl rfl) e
 | met f y=>
  have e:h.get? a=some (W.methodObj (.ref f) (.ref y)):=x;show h'.get? a=some (W.methodObj (.ref f) (.ref y));exact k a _ (.inl rfl) e
 | ext _=>obtain⟨p,⟨o,e⟩,D⟩:=x;exact⟨D _ _ p λo q=>k _ _ (.inl rfl) q,⟨o,k _ _ (.inl rfl) e⟩,D⟩
theorem HOk.lt (x:HOk P w H h) (e:H a=some o):a<h.objs.size:=(x a o e).lt
theorem HOk.fresh (x:HOk P w H h) (e:h.objs.size<=a):H a=none:=by
 cases q:H a with
 | none=>rfl
 | some u=>exact absurd (U7 (x.lt q) e) (Vv _)
theorem HOk.kept (x:HOk P w H h) (k:∀b u,h.get? b=some u->h'.get? b=some u):HOk P w H h':=λa o e=>
 (x a o e).yY (λb u _ q=>k b u q) (λ_ q=>q) λ_ _ q=>q
theorem HOk.laid (x:HOk P w H h) (k:∀b u,h.get? b=some u->h'.get? b=some u) (i:h.objs.size<=a) (d:cg P w (upd H a o) h' a o):HOk P w (upd H a o) h':=λb u e=>by
 have f:=x.fresh i;by_cases g:b=a
 ·subst g;rw[ab]at e;cases e;exact d
 ·rw[ap g]at e;exact(x b u e).yY (λc v _ q=>k c v q) (λc q=>by rw[ap (aw q f)];exact q) λc _ q=>by rw[ap (aw q f)];exact q
def Rd (H:Hp) (a:Za) (u:HO):Prop:=H a=some u\/∃o,H a=some (.frz o u)
theorem Rd.of {u:HO} (h:H a=some u):Rd H a u:=.inl h
theorem Rd.ok {u:HO} (r:Rd H a u) (x:HOk P w H h):cg P w H h a u:=by
 rcases r with r | ⟨o,r⟩
 ·exact x a u r
 ·obtain⟨_,q⟩:=x a _ r;exact q
def Mut:Option HO->Prop
 | some (.lst _)=>True
 | some (.dK _)=>True
 | some (.dT _)=>True
 | some (.set _ _)=>True
 | some (.ins _ _ _)=>True
 | some (.ext _)=>True
 | _=>False
section
variable {x e:Za}{o':HO}
theorem HOk.write (p:HOk P w H h) (mu:Mut (H x)) (l:e=x\/H e=some (.own x)) (k:∀b u,b≠e->h.get? b=some u->h'.get? b=some u) (j:∃u,h'.get? e=some u)
  (i:cg P w (upd H x o') h' x o'):HOk P w (upd H x o') h':=λb u q=>by
 have n:∀c y,H c=some (.own y)->c≠x:=λc y r z=>by subst z;rw[r]at mu;exact mu
 have s:∀c f,H c=some (.tup f)->c≠x:=λc f r z=>by subst z;rw[r]at mu;exact mu
 by_cases d:b=x
 ·subst d;rw[ab]at q;cases q;exact i
 ·rw[ap d]at q;by_cases a:b=e
  ·have m:H b=some (.own x):=by
    rcases l with z | z
    ·exact absurd (a.trans z) d
    ·rw[a];exact z
   rw[q]at m;cases m;obtain⟨v,o⟩:=j;exact⟨v,by rw[a];exact o⟩
  ·refine(p b u q).yY (λc v g r=>k c v ?_ r) (λc r=>by rw[ap (n c b r)];exact r) λc f r=>by rw[ap (s c f r)];exact r
   rcases g with rfl | g
   ·exact a
   ·rintro rfl;rcases l with z | z
    ·exact n c b g z
    ·rw[g]at z;cases z;exact d rfl
end
structure Un (fs ex:Uz) (H H':Hp) (h h':Heap):Prop where
 keep:∀b o,h.get? b=some o->H b=none->b∉fs->b∉ex->h'.get? b=some o
 slot:∀b o,h.get? b=some o->H b=none->b∈fs->b∉ex->∃sl,h'.get? b=some { o with slots:=sl }
 free:∀b o,h.get? b=some o->H b=none->b∉ex->H' b=none
 there:∀b o,h.get? b=some o->b∉ex->∃o',h'.get? b=some o'
 uy:∀b xs,H b=some (.tup xs)->H' b=some (.tup xs)
 tN:∀b o u,H b=some (.frz o u)->H' b=some (.frz o u)
 tF:∀b ps,H b=some (.tbl ps)->∃more,H' b=some (.tbl (ps++more))
section
variable {fs fs' ex ex':Uz}{x e:Za}
theorem Un.any (u:Un fs ex H H1 h h1) {a:Obj} (q:h.get? b=some a) (n:H b=none) (hx:b∉ex):∃sl,h1.get? b=some { a with slots:=sl }:=by
 by_cases c:b∈fs
 ·exact u.slot b a q n c hx
 ·exact⟨a.slots,u.keep b a q n c hx⟩
theorem Un.trans (a:Un fs ex H H1 h h1) (b:Un fs ex H1 H2 h1 h2):Un fs ex H H2 h h2 where
 keep:=λc e q n i d=>b.keep c e (a.keep c e q n i d) (a.free c e q n d) i d
 slot:=λc e q n i d=>by
  obtain⟨_,f⟩:=a.slot c e q n i d;obtain⟨j,l⟩:=b.slot c _ f (a.free c e q n d) i d;exact⟨j,l⟩
 free:=λc e q n d=>by
  obtain⟨k,f⟩:=a.there c e q d;exact b.free c k f (a.free c e q n d) d
 there:=λc e q d=>by
  obtain⟨k,f⟩:=a.there c e q d;exact b.there c k f d
 uy:=λc g q=>b.uy c g (a.uy c g q)
 tN:=λc e g q=>b.tN c e g (a.tN c e g q)
 tF:=λc o q=>by
  obtain⟨p,f⟩:=a.tF c o q;obtain⟨m,l⟩:=b.tF c _ f;exact⟨p++m,by rw[l,Array.append_assoc]⟩
theorem Un.kept (k:∀b u,h.get? b=some u->h'.get? b=some u):Un fs ex H H h h':=
 ⟨λb a q _ _ _=>k b a q,λb a q _ _ _=>⟨a.slots,k b a q⟩,λ_ _ _ n _=>n,λb a q _=>⟨a,k b a q⟩,λ_ _ q=>q,λ_ _ _ q=>q,λ_ _ q=>⟨#[],by rw[q];simp⟩⟩
theorem Un.refl:Un fs ex H H h h:=Un.kept λ_ _ q=>q
theorem Un.laid (k:∀b u,h.get? b=some u->h'.get? b=some u) (d:h.objs.size<=a) (c:H a=none):Un fs ex H (upd H a o) h h' where
 keep:=λb u q _ _ _=>k b u q
 slot:=λb u q _ _ _=>⟨u.slots,k b u q⟩
 free:=λb u q n _=>by rw[ap (U2 (U7 (Y2 q) d))];exact n
 there:=λb u q _=>⟨u,k b u q⟩
 uy:=λb e q=>by rw[ap (aw q c)];exact q
 tN:=λb u e q=>by rw[ap (aw q c)];exact q
 tF:=λb _ q=>⟨#[],by rw[ap (aw q c),q];simp⟩
theorem Un.write (mu:Mut (H x)) (j:e=x\/H e=some (.own x)) (k:∀b u,b≠e->h.get? b=some u->h'.get? b=some u) (c:∃u,h'.get? e=some u):Un fs ex H (upd H x o) h h':=by
 have f:∀b,H b=none->b≠x:=λb n z=>by subst z;rw[n]at mu;exact mu
 have g:∀b,H b=none->b≠e:=λb n z=>by
  subst z;rcases j with r | r
  ·exact f b n r
  ·rw[n]at r;cases r
 have d:∀b u,H b=some u -> ¬ Mut (some u)->b≠x:=λb u q l z=>by subst z;rw[q]at mu;exact l mu
 refine⟨λb u q n _ _=>k b u (g b n) q,λb u q n _ _=>⟨u.slots,k b u (g b n) q⟩,λb u q n _=>by rw[ap (f b n)];exact n,λb u q _=>?_,
  λb i q=>by rw[ap (d b _ q λz=>z)];exact q,λb u i q=>by rw[ap (d b _ q λz=>z)];exact q,λb _ q=>⟨#[],by rw[ap (d b _ q λz=>z),q];simp⟩⟩
 by_cases a:b=e
 ·subst a;exact c
 ·exact⟨u,k b u a q⟩
end
def trk (h:Heap) (H:Hp):Uz:=(Y7 h.objs.size).filter λa=>(H a).isSome
def z5 (h:Heap) (H:Hp):Heap:=W.hideAll h (trk h H)
theorem EC (h:Heap) (H:Hp):(z5 h H).objs.size=h.objs.size:=W.hideAll_size _ _
theorem Av {o:Obj} (e:h.get? b=some o) (n:H b=none):(z5 h H).get? b=some o:=
 W.hideAll_get _ e λhm=>by
  have q:(H b).isSome=true:=(U0.mp hm).2;rw[n]at q;simp at q
theorem Kw {o:Obj} (e:(z5 h H).get? b=some o):h.get? b=some o/\H b=none:=by
 have a:h.get? b=some o:=W.of_hideAll (trk h H) e;refine⟨a,?_⟩;cases q:H b with
 | none=>rfl
 | some x=>
  have c:b∈trk h H:=U0.mpr ⟨Vj.mpr (Y2 a),by simp[q]⟩;have z:(z5 h H).get? b=none:=W.hideAll_none (trk h H) c;rw[z]at e;cases e
def JR (g h:Heap) (L:Za):List (Za×Obj):=(Y7 h.objs.size).filterMap λa=>if a=L\/(g.get? a).isSome=true then none else(h.get? a).map λo=>(a,o)
def rest (g h:Heap) (L d:Za):List (Za×Obj):=(JR g h L).filter λp=>decide (p.1≠d)
structure Mod (K:Xz) (mg:Str->Option Xy) (base:Heap):Prop where
 kin:K.In base
 glob:base.Ns mainGlobals mg
 blt:∃mb,base.Ns builtinsNs mb/\∀x:Str,x ≠ "__name__" -> mb x=bootBuiltins x
 nolimit:base.NoLimit
structure Cx where
 prog:Zd
 w:Ze
 K:Xz
 mg:Str->Option Xy
 base:Heap
 A:Zc
 N:Uq
 s₀:Xx
 H₀:Hp
 env:Env
 outer:List Env
 stack:List Env
 ex:Uz
 fn:Str->Bool
 calm:Bool
 pn:List (Za×Obj)
 xe:Xy->Xx->Prop
end L2
variable {X:L2.Cx}
namespace L2
open PySem PySem.Spec PyProof.Rows
def frs (l:List Env):Uz:=l.filterMap (·.frame)
abbrev Cx.fs (X:Cx):Uz:=frs X.outer
def Vis (sc:Scope) (x:Str):Prop:=sc.names.lookup x=some .local\/sc.names.lookup x=some .cell\/sc.names.lookup x=some .free
def Loc (sc:Scope) (x:Str):Prop:=sc.names.lookup x=some .local\/sc.names.lookup x=some .cell
def Look (env:Env) (h:Heap) (m:Str->Option Xy) (x:Str) (u:Xy):Prop:=
 (env.kindOf x=some .local/\m x=some u)\/((env.kindOf x=some .cell\/env.kindOf x=some .free)/\∃c,env.cells.lookup x=some c/\h.IsCell c (some u))
structure Cx.Ok (X:Cx):Prop where
 mod:Mod X.K X.mg X.base
 kind:X.env.scope.kind = .function
 glob:X.env.globals=mainGlobals
 blt:X.env.builtins=builtinsNs
 above:X.s₀.heap.objs.size<=X.env.locals
 inj:∀x y c,X.env.cells.lookup x=some c->X.env.cells.lookup y=some c->x=y
 has:∀x,(X.env.kindOf x=some .cell\/X.env.kindOf x=some .free)->∃c,X.env.cells.lookup x=some c
 cab:∀x c,X.fn x=true->X.env.cells.lookup x=some c->X.s₀.heap.objs.size<=c
 hd:X.calm=true->X.A.handled=none
 frames:X.A.frames=some X.stack
 stk:X.stack=X.outer\/(X.stack=X.env::X.outer/\X.env.frame=some X.env.locals)
 exf:∀b∈X.ex,b≠X.env.locals/\∀x c,X.env.cells.lookup x=some c->c≠b
 bs:∀b o,X.base.get? b=some o->X.s₀.heap.get? b=some o/\X.H₀ b=none
 bsz:X.base.objs.size<=X.s₀.heap.objs.size
 G4:∀b o,X.base.get? b=some o->b∉X.ex
 Hy:∀b∈X.ex,b∉X.fs
 qF:X.s₀.heap.FunFrames X.base X.outer
 frf:∀b∈X.fs,X.H₀ b=none
structure Inv (X:Cx) (pins:List (Za×Obj)) (σ:List (Option V)) (H:Hp) (s:Xx):Prop where
 ok:X.Ok
 os:s.os=X.s₀.os
 bare:AllBare s.gens
 base:Un X.fs X.ex X.H₀ H X.s₀.heap s.heap
 loc:∃m,s.heap.Ns X.env.locals m/\∀(i:Nat) (x:Str) (v:V),X.N[i]? = some x->σ[i]? = some (some v)->Vis X.env.scope x->∃u,RelV v u/\Look X.env s.heap m x u
 cell:∀x c,X.env.cells.lookup x=some c->∃v,s.heap.IsCell c v
 free:H X.env.locals=none
 lT:∀x c,X.env.cells.lookup x=some c->H c=none
 pin:∀p∈X.pn++pins,s.heap.get? p.1=some p.2/\H p.1=none/\p.1≠X.env.locals/\p.1∉X.fs/\∀v,p.2.data ≠ .cell v
 hok:HOk X.prog X.w H s.heap
 len:σ.length=X.N.length
section
variable {σ:List (Option V)}
theorem Cx.Ok.RQ (ok:X.Ok) {o:Obj} (e:X.base.get? b=some o):b∉X.fs:=λhb=>by
 have:=(ok.qF.mem hb).1;rw[e]at this;cases this
theorem Inv.bs (I:Inv X pins σ H s):∀b o,X.base.get? b=some o->s.heap.get? b=some o/\H b=none:=λb o e=>
 ⟨I.base.keep b o (I.ok.bs b o e).1 (I.ok.bs b o e).2 (I.ok.RQ e) (I.ok.G4 b o e),I.base.free b o (I.ok.bs b o e).1 (I.ok.bs b o e).2 (I.ok.G4 b o e)⟩
theorem Inv.bk (I:Inv X pins σ H s):∀b o,X.base.get? b=some o->s.heap.get? b=some o:=λb o e=>(I.bs b o e).1
theorem Inv.mod (I:Inv X pins σ H s):Mod X.K X.mg X.base:=I.ok.mod
theorem Inv.kIn (I:Inv X pins σ H s):X.K.In s.heap:=I.ok.mod.kin.keeps I.bk
theorem Inv.nolimit (I:Inv X pins σ H s):s.heap.NoLimit:=I.ok.mod.nolimit.keeps I.bk
theorem Inv.lt (I:Inv X pins σ H s):X.env.locals<s.heap.objs.size:=let ⟨_,hn,_⟩:=I.loc;hn.lt
theorem Inv.sz (I:Inv X pins σ H s):X.s₀.heap.objs.size<=s.heap.objs.size:=UK I.ok.above (V2 I.lt)
theorem Inv.OK (I:Inv X pins σ H s)  (h:s.heap.objs.size<=a):a∉X.fs:=λhb=>by
 obtain⟨_,o,ho,_⟩:=I.ok.qF.mem hb;exact absurd (U7 (Y2 ho) (UK I.sz h)) (Vv _)
theorem Inv.cne (I:Inv X pins σ H s):∀x c,X.env.cells.lookup x=some c->c≠X.env.locals:=λx c e z=>by
 obtain⟨v,o,f,d⟩:=I.cell x c e;obtain⟨m,⟨_,_,_,b,a,_⟩,_⟩:=I.loc;rw[z,b]at f;cases f;rw[a]at d;cases d
theorem Inv.qF (I:Inv X pins σ H s):s.heap.FunFrames X.base X.outer:=by
 have d:∀(l:List Env),(∀b∈frs l,b∈X.fs)->X.s₀.heap.FunFrames X.base l->s.heap.FunFrames X.base l:=by
  intro l
  induction l with
  | nil=>intro _ _;trivial
  | cons _ r m=>
   intro f i;obtain⟨h,⟨L,o,c,n,j,g⟩,k⟩:=i;have hL:L∈X.fs:=f L (by unfold frs;rw[Vq,c];exact UM);obtain⟨_,e⟩:=I.base.slot L o j (I.ok.frf L hL) hL λz=>I.ok.Hy L z hL;exact⟨h,⟨L,_,c,n,e,g⟩,m (λb a=>f b (by unfold frs;rw[Vq,c];exact UJ _ a)) k⟩
 exact d X.outer (λ_ a=>a) I.ok.qF
theorem Inv.stack (I:Inv X pins σ H s):s.heap.FunFrames X.base X.stack:=by
 rcases I.ok.stk with e | ⟨e,b⟩
 ·rw[e];exact I.qF
 ·rw[e];obtain⟨m,a,_⟩:=I.loc;refine .cons (by rw[I.ok.kind];decide) b a ?_ I.qF;exact Heap.get?_none_of_le (UK I.ok.bsz I.ok.above)
theorem Inv.Ca (I:Inv X pins σ H s):∀b∈frs X.stack,b∈X.env.locals::X.fs:=λb a=>by
 rcases I.ok.stk with e | ⟨e,c⟩
 ·rw[e]at a;exact UJ _ a
 ·rw[e]at a;unfold frs at a;rw[Vq,c]at a;exact a
theorem Inv.DH (I:Inv X pins σ H s):∀b∈frs X.stack,H b=none:=λb a=>by
 rcases UR.mp (I.Ca b a)with e | a
 ·rw[e];exact I.free
 ·obtain⟨_,o,c,_⟩:=I.ok.qF.mem a;exact I.base.free b o c (I.ok.frf b a) λz=>I.ok.Hy b z a
theorem Inv.step {g':Array GenState}{t':Nat}{d':Drawn} (I:Inv X pins σ H s)
  (g:∀b∈ch,(b∈X.ex\/X.s₀.heap.objs.size<=b)/\b≠X.env.locals/\(∀x c,X.env.cells.lookup x=some c->c≠b)/\∀p∈X.pn++pins,p.1≠b)
  (j:∀b o,b≠X.env.locals->b∉X.fs->b∉ch->s.heap.get? b=some o->H b=none->h'.get? b=some o)
  (slot:∀b o,b≠X.env.locals->b∈X.fs->b∉ch->s.heap.get? b=some o->H b=none->∃sl,h'.get? b=some { o with slots:=sl }) (f:∀b o,b∉ch->s.heap.get? b=some o->H b=none->H' b=none)
  (B:∀b o,b∉ch->s.heap.get? b=some o->∃o',h'.get? b=some o')
  (O:∀b xs,H b=some (.tup xs)->H' b=some (.tup xs)) (Q:∀b o u,H b=some (.frz o u)->H' b=some (.frz o u)) (T:∀b ps,H b=some (.tbl ps)->∃more,H' b=some (.tbl (ps++more)))
  (ns:∀m,s.heap.Ns X.env.locals m->h'.Ns X.env.locals m) (J:HOk X.prog X.w H' h') (W:AllBare g') :
  Inv X pins σ H' { s with heap:=h',gens:=g',drawn:=d',toks:=t' }:=by
 have D:∀b o,X.s₀.heap.get? b=some o->b≠X.env.locals:=λb o e=>U2 (U7 (Y2 e) I.ok.above);have t:∀b o,X.s₀.heap.get? b=some o->b∉X.ex->b∉ch:=λb o e a A=>by
  rcases(g b A).1 with z | z
  ·exact a z
  ·exact absurd (U7 (Y2 e) z) (Vv _)
 have cellK:∀x c,X.env.cells.lookup x=some c->∀v,s.heap.IsCell c v->h'.IsCell c v:=λx c e v ⟨o,C,F⟩=>by
  have h:c∉ch:=λz=>(g c z).2.2.1 x c e rfl;by_cases N:c∈X.fs
  ·obtain⟨sl,q⟩:=slot c o (I.cne x c e) N h C (I.lT x c e);exact⟨_,q,F⟩
  ·exact⟨o,j c o (I.cne x c e) N h C (I.lT x c e),F⟩
 refine⟨I.ok,I.os,W,⟨λb o e n A a=>?_,λb o e n A a=>?_,λb o e n a=>?_,λb o e a=>?_,λb xs e=>O b xs (I.base.uy b xs e),λb o xs e=>Q b o xs (I.base.tN b o xs e),λb ps e=>?_⟩,?_,λx c e=>?_,?_,λx c e=>?_,λp K=>?_,J,I.len⟩
 ·exact j b o (D b o e) A (t b o e a) (I.base.keep b o e n A a) (I.base.free b o e n a)
 ·obtain⟨sl,y⟩:=I.base.slot b o e n A a;obtain⟨G,E⟩:=slot b _ (D b o e) A (t b o e a) y (I.base.free b o e n a);exact⟨G,E⟩
 ·obtain⟨o',y⟩:=I.base.there b o e a;exact f b o' (t b o e a) y (I.base.free b o e n a)
 ·obtain⟨o',y⟩:=I.base.there b o e a;exact B b o' (t b o e a) y
 ·obtain⟨S,y⟩:=I.base.tF b ps e;obtain⟨U,E⟩:=T b _ y;exact⟨S++U,by rw[E,Array.append_assoc]⟩
 ·obtain⟨m,V,R⟩:=I.loc;refine⟨m,ns m V,λi x v y E P=>?_⟩;obtain⟨u,r,l⟩:=R i x v y E P;refine⟨u,r,?_⟩;rcases l with l | ⟨k,c,e,z⟩
  ·exact .inl l
  ·exact .inr ⟨k,c,e,cellK x c e _ z⟩
 ·obtain⟨v,z⟩:=I.cell x c e;exact⟨v,cellK x c e v z⟩
 ·obtain⟨m,⟨o,_,_,C,_⟩,_⟩:=I.loc;exact f _ o (λz=>(g _ z).2.1 rfl) C I.free
 ·obtain⟨v,o,C,F⟩:=I.cell x c e;exact f c o (λz=>(g c z).2.2.1 x c e rfl) C (I.lT x c e)
 ·obtain⟨e,n,M,L,d⟩:=I.pin p K;have h:p.1∉ch:=λz=>(g p.1 z).2.2.2 p K rfl;exact⟨j p.1 p.2 M L h e n,f p.1 p.2 h e n,M,L,d⟩
theorem Inv.un {t':Nat} (I:Inv X pins σ H s) (u:Un X.fs [] H H' s.heap h') (g:HOk X.prog X.w H' h'):Inv X pins σ H' { s with heap:=h',toks:=t' }:=by
 obtain⟨m,⟨o,_,_,h,r⟩,_⟩:=id I.loc;obtain⟨_,hL⟩:=u.any h I.free (by simp);exact I.step (g':=s.gens) (d':=s.drawn) (ch:=[]) (λ_ z=>nomatch z) (λb o _ d _ e n=>u.keep b o e n d (by simp)) (λb o _ d _ e n=>u.slot b o e n d (by simp)) (λb o _ e n=>u.free b o e n (by simp)) (λb o _ e=>u.there b o e (by simp)) u.uy u.tN u.tF (λ_ j=>by
  obtain⟨_,f,c,a,i⟩:=j;rw[h]at a;cases a;exact⟨_,f,c,hL,i⟩) g I.bare
theorem Inv.call {g':Array GenState}{t':Nat}{d':Drawn} (I:Inv X pins σ H s) (u:Un (frs X.stack) ch H H' s.heap h') (i:HOk X.prog X.w H' h') (t:AllBare g')
  (d:∀b∈ch,(b∈X.ex\/X.s₀.heap.objs.size<=b)/\b≠X.env.locals/\(∀x c,X.env.cells.lookup x=some c->c≠b)/\∀p∈X.pn++pins,p.1≠b) :
  Inv X pins σ H' { s with heap:=h',gens:=g',drawn:=d',toks:=t' }:=by
 obtain⟨m,⟨o,_,_,j,r⟩,_⟩:=id I.loc;obtain⟨_,hL⟩:=u.any j I.free λz=>(d _ z).2.1 rfl;exact I.step (ch:=ch) d (λb o hL l a e n=>u.keep b o e n (λz=>(UR.mp (I.Ca b z)).elim hL l) a) (λb o _ _ a e n=>u.any e n a) (λb o a e n=>u.free b o e n a) (λb o a e=>u.there b o e a) u.uy u.tN u.tF (λ_ q=>by
  obtain⟨_,h,g,f,k⟩:=q;rw[j]at f;cases f;exact⟨_,h,g,hL,k⟩) i t
theorem Inv.turned {t':Nat} (I:Inv X pins σ H s) (k:∀b o,b≠it->s.heap.get? b=some o->h'.get? b=some o) (t:H it=none) (hL:it≠X.env.locals)
  (h1:it∈X.ex\/X.s₀.heap.objs.size<=it) (h2:∀x c,X.env.cells.lookup x=some c->c≠it) (h:∀p∈X.pn++pins,p.1≠it):Inv X pins σ H { s with heap:=h',toks:=t' }:=by
 have d:∀b u,H b=some u->b≠it:=λb u e z=>by rw[z,t]at e;cases e
 refine I.step (g':=s.gens) (d':=s.drawn) (ch:=[it]) (λb f=>?_) (λb o _ _ a e _=>k b o (λz=>a (by simp[z])) e) (λb o _ _ a e _=>⟨o.slots,k b o (λz=>a (by simp[z])) e⟩) (λ_ _ _ _ n=>n)
  (λb o a e=>⟨o,k b o (λz=>a (by simp[z])) e⟩) (λ_ _ e=>e) (λ_ _ _ e=>e) (λb _ e=>⟨#[],by rw[e];simp⟩) (λm g=>?_) (λb u e=>?_) I.bare
 ·have e:b=it:=by simpa using f
  subst e;exact⟨h1,hL,h2,h⟩
 ·obtain⟨o,i,j,l,r⟩:=g;exact⟨o,i,j,k _ o (YR hL) l,r⟩
 ·refine(I.hok b u e).yY (λc v a q=>k c v ?_ q) (λ_ q=>q) λ_ _ q=>q;rcases a with z | z
  ·rw[z];exact d b u e
  ·exact d c _ z
theorem Inv.tok (I:Inv X pins σ H s) (t:Nat):Inv X pins σ H { s with toks:=t }:=I.un (h':=s.heap) (t':=t) Un.refl I.hok
theorem Inv.kept {t':Nat} (I:Inv X pins σ H s) (k:∀b u,s.heap.get? b=some u->h'.get? b=some u):Inv X pins σ H { s with heap:=h',toks:=t' }:=I.un (Un.kept k) (I.hok.kept k)
theorem Inv.laid {t':Nat} (I:Inv X pins σ H s) (k:∀b u,s.heap.get? b=some u->h'.get? b=some u) (d:s.heap.objs.size<=a) (c:cg X.prog X.w (upd H a o) h' a o) :
  Inv X pins σ (upd H a o) { s with heap:=h',toks:=t' }:=I.un (Un.laid k d (I.hok.fresh d)) (I.hok.laid k d c)
theorem Inv.write {x e:Za}{t':Nat} (I:Inv X pins σ H s) (mu:Mut (H x)) (d:e=x\/H e=some (.own x)) (k:∀b u,b≠e->s.heap.get? b=some u->h'.get? b=some u) (a:∃u,h'.get? e=some u)
  (c:cg X.prog X.w (upd H x o) h' x o):Inv X pins σ (upd H x o) { s with heap:=h',toks:=t' }:=I.un (Un.write mu d k a) (I.hok.write mu d k a c)
theorem Inv.pZ {a:List (Za×Obj)} (I:Inv X pins σ H s) (h:∀p∈a,s.heap.get? p.1=some p.2/\H p.1=none/\p.1≠X.env.locals/\p.1∉X.fs/\∀v,p.2.data ≠ .cell v):Inv X a σ H s:=
 ⟨I.ok,I.os,I.bare,I.base,I.loc,I.cell,I.free,I.lT,λp b=>(UY.mp b).elim (λz=>I.pin p (V3 _ z)) (h p),I.hok,I.len⟩
theorem zy (hN:N.Nodup)  (a:N[i]? = some x) (b:N[j]? = some x):i=j:=by
 obtain⟨h1,e1⟩:=VA.mp a;obtain⟨h2,e2⟩:=VA.mp b;exact(List.getElem_inj hN).mp (e1.trans e2.symm)
theorem xR {M:Model}{A:Zc}{E:Xy->Xx->Prop}{Q:Unit->Xx->Prop} (I:Inv X pins σ H s) (hN:X.N.Nodup) (hi:X.N[i]? = some x) (hx:Loc X.env.scope x) (r:RelV v u)
  (h:∀s',Inv X pins (σ.set i (some v)) H s'->(∃a,YI a s.heap s'.heap/\(a=X.env.locals\/X.env.cells.lookup x=some a))->Q () s') (hf:X.fn x=true\/X.env.scope.names.lookup x=some .local:=by first | exact .inl rfl | exact .inr rfl | assumption):Zh M A (storeName X.env x u) Q E s:=by
 obtain⟨m,hn,hl⟩:=id I.loc;have RH:(X.env.scope.kind == .class || (X.env.scope.kind == .module && X.env.locals != X.env.globals))=false:=by rw[I.ok.kind];rfl
 have C:i<σ.length:=by rw[I.len];exact(VA.mp hi).1
 have D:=I.cne;have g:∀{a:Za}{h':Heap},(∃o,s.heap.get? a=some o/\H a=none)->YI a s.heap h'->HOk X.prog X.w H h':=λ{a h'} ha f b ob e=>by
  obtain⟨_,_,Mn⟩:=ha;refine(I.hok b ob e).yY (λc R t q=>(f.2 c ?_).trans q) (λ_ q=>q) λ_ _ q=>q;rintro rfl;rcases t with rfl | t
  ·rw[Mn]at e;cases e
  ·rw[Mn]at t;cases t
 rcases hx with hk | hk
 ·refine wpAny_storeName_local hk hn (λh' hn' f=>?_) RH;obtain⟨oL,_,_,T,_⟩:=id hn;refine h _ ⟨I.ok,I.os,I.bare,⟨λb o e n F hx=>?_,λb o e n F hx=>?_,I.base.free,λb o e hx=>?_,I.base.uy,I.base.tN,I.base.tF⟩,⟨_,hn',λj y Y l B W=>?_⟩,λy c e=>?_,I.free,I.lT,λp Z=>?_,g ⟨oL,T,I.free⟩ f,by simpa using I.len⟩ ⟨_,f,.inl rfl⟩
  ·exact(f.2 b (U2 (U7 (Y2 e) I.ok.above))).trans (I.base.keep b o e n F hx)
  ·obtain⟨sl,l⟩:=I.base.slot b o e n F hx;exact⟨sl,(f.2 b (U2 (U7 (Y2 e) I.ok.above))).trans l⟩
  ·obtain⟨o',l⟩:=I.base.there b o e hx;exact⟨o',(f.2 b (U2 (U7 (Y2 e) I.ok.above))).trans l⟩
  ·by_cases G:j=i
   ·subst G;rw[hi]at l;cases l;rw[W5 C]at B;cases B;exact⟨u,r,.inl ⟨hk,by simp⟩⟩
   ·rw[List.getElem?_set_ne (YR G)]at B;obtain⟨u',U,q⟩:=hl j y Y l B W;refine⟨u',U,?_⟩;rcases q with⟨k,e⟩ | ⟨k,c,e,z⟩
    ·refine .inl ⟨k,?_⟩;have:y≠x:=λe=>G (zy hN l (e ▸ hi));simp[this,e]
    ·exact .inr ⟨k,c,e,z.sameBut f (D y c e)⟩
  ·obtain⟨R,z⟩:=I.cell y c e;exact⟨R,z.sameBut f (D y c e)⟩
  ·obtain⟨e,n,S,nf,d⟩:=I.pin p Z;exact⟨(f.2 p.1 S).trans e,n,S,nf,d⟩
 ·have J:X.fn x=true:=by
   rcases hf with z | z
   ·exact z
   ·rw[z]at hk;cases hk
  obtain⟨c,t⟩:=I.ok.has x (.inl hk);obtain⟨R,z⟩:=I.cell x c t;refine wpAny_storeName_cell I.ok.kind hk t z (λh' O f=>?_);obtain⟨oc,K,Sb⟩:=id z;refine h { s with heap:=h' } ⟨I.ok,I.os,I.bare,⟨λb o e n F hx=>?_,λb o e n F hx=>?_,I.base.free,λb o e hx=>?_,I.base.uy,I.base.tN,I.base.tF⟩,⟨m,hn.sameBut f (YR (D x c t)),λj y Y l B W=>?_⟩,λy P e=>?_,I.free,I.lT,λp Z=>?_,g ⟨oc,K,I.lT x c t⟩ f,by simpa using I.len⟩ ⟨c,f,.inr t⟩
  ·exact(f.2 b (U2 (U7 (Y2 e) (I.ok.cab x c J t)))).trans (I.base.keep b o e n F hx)
  ·obtain⟨sl,l⟩:=I.base.slot b o e n F hx;exact⟨sl,(f.2 b (U2 (U7 (Y2 e) (I.ok.cab x c J t)))).trans l⟩
  ·obtain⟨o',l⟩:=I.base.there b o e hx;exact⟨o',(f.2 b (U2 (U7 (Y2 e) (I.ok.cab x c J t)))).trans l⟩
  ·by_cases G:j=i
   ·subst G;rw[hi]at l;cases l;rw[W5 C]at B;cases B;exact⟨u,r,.inr ⟨.inl hk,c,t,O⟩⟩
   ·rw[List.getElem?_set_ne (YR G)]at B;obtain⟨u',U,q⟩:=hl j y Y l B W;refine⟨u',U,?_⟩;rcases q with q | ⟨k,P,e,z'⟩
    ·exact .inl q
    ·refine .inr ⟨k,P,e,z'.sameBut f ?_⟩;rintro rfl;exact G (zy hN l (I.ok.inj _ _ _ e t ▸ hi))
  ·by_cases L:P = c
   ·subst L;exact⟨_,O⟩
   ·obtain⟨w2,z2⟩:=I.cell y P e;exact⟨w2,z2.sameBut f L⟩
  ·obtain⟨e,n,S,nf,d⟩:=I.pin p Z;refine⟨(f.2 p.1 ?_).trans e,n,S,nf,d⟩;intro q;rw[q,K]at e;have q':oc=p.2:=Ye e;exact d R (by rw[<-q'];exact Sb)
theorem zQ {M:Model}{A:Zc}{E:Xy->Xx->Prop}{Q:Unit->Xx->Prop} (I:Inv X pins σ H s) (a:X.N.Nodup) (hi:X.N[i]? = some x) (hx:Loc X.env.scope x) (r:RelV v u)
  (h:∀s',Inv X pins (σ.set i (some v)) H s'->Q () s') (b:X.fn x=true\/X.env.scope.names.lookup x=some .local:=by first | exact .inl rfl | exact .inr rfl | assumption):Zh M A (storeName X.env x u) Q E s:=
 xR I a hi hx r (λs' c _=>h s' c) b
theorem Inv.QN (I:Inv X pins σ H s) (h:s'.os=s.os) (u:Un (frs X.stack) ch H H' s.heap s'.heap) (d:HOk X.prog X.w H' s'.heap) (g:AllBare s'.gens)
  (a:∀b∈ch,(b∈X.ex\/X.s₀.heap.objs.size<=b)/\b≠X.env.locals/\(∀x c,X.env.cells.lookup x=some c->c≠b)/\∀p∈X.pn++pins,p.1≠b):Inv X pins σ H' s':=by
 obtain⟨_,g',d',t',f⟩:=s';have e:f = s.os:=h;subst e;exact I.call (g':=g') (t':=t') (d':=d') u d g a
end
abbrev XK:=Xy->Option Za->Hp->Prop
abbrev St:=List (Option V)
abbrev VK:=V->Hp->Prop
abbrev TE:=St->Hp->VK->Prop
abbrev TT:=St->Hp->(Bool->Hp->Prop)->Prop
abbrev TA:=St->Hp->(Uj->Hp->Prop)->Prop
end L2
variable {σ:L2.St}{F G:L2.St->L2.Hp->Prop}{t ta:L2.TA}{tc td te tl tv tx ty:L2.TE}{tt:L2.TT}{r:L2.V->L2.Uj->L2.Hp->L2.VK->Prop}
namespace L2
open PySem PySem.Spec PyProof.Rows
structure Ends where
 nx:St->Hp->Prop
 rt:VK
 bk:St->Hp->Prop:=λ_ _=>False
 ct:St->Hp->Prop:=λ_ _=>False
abbrev TS:=Ends->St->Hp->Prop
def EP (X:Cx) (pins:List (Za×Obj)) (σ:St) (Q:VK) (u:Xy) (s':Xx):Prop:=∃v H',Inv X pins σ H' s'/\RelV v u/\Q v H'
def TP (X:Cx) (pins:List (Za×Obj)) (σ:St) (Q:Bool->Hp->Prop) (b:Bool) (s':Xx):Prop:=∃H',Inv X pins σ H' s'/\Q b H'
def AP (X:Cx) (pins:List (Za×Obj)) (σ:St) (Q:Uj->Hp->Prop) (us:WF) (s':Xx):Prop:=∃vs H',Inv X pins σ H' s'/\aQ vs us/\Q vs H'
def SP (X:Cx) (pins:List (Za×Obj)) (D:Ends) (f:Flow) (s':Xx):Prop:=
 match f with
 | .next=>∃σ' H',Inv X pins σ' H' s'/\D.nx σ' H'
 | .brk=>∃σ' H',Inv X pins σ' H' s'/\D.bk σ' H'
 | .cont=>∃σ' H',Inv X pins σ' H' s'/\D.ct σ' H'
 | .ret u=>∃v σ' H',Inv X pins σ' H' s'/\RelV v u/\D.rt v H'
def PE (X:Cx) (e:Expr) (t:TE):Prop:=
 ∀(pins:List (Za×Obj)) (s:Xx) (σ:St) (H:Hp) (Q:VK),Inv X pins σ H s->t σ H Q->Zh (model X.prog X.w) X.A (eval e X.env) (EP X pins σ Q) X.xe s
def PT (X:Cx) (e:Expr) (t:TT):Prop:=
 ∀(pins:List (Za×Obj)) (s:Xx) (σ:St) (H:Hp) (Q:Bool->Hp->Prop),Inv X pins σ H s->t σ H Q->Zh (model X.prog X.w) X.A (isTrue e X.env (eval e X.env)) (TP X pins σ Q) X.xe s
def PW (X:Cx) (e:Expr) (t:TT):Prop:=
 ∀(whole:Sem Xy) (pins:List (Za×Obj)) (s:Xx) (σ:St) (H:Hp) (Q:Bool->Hp->Prop),Inv X pins σ H s->t σ H Q->Zh (model X.prog X.w) X.A (isTrue e X.env whole) (TP X pins σ Q) X.xe s
theorem PW.pt {t:TT} (h:PW X e t):PT X e t:=h _
def PA (X:Cx) (es:List Expr) (t:TA):Prop:=
 ∀(pos:Pos) (pins:List (Za×Obj)) (s:Xx) (σ:St) (H:Hp) (Q:Uj->Hp->Prop),Inv X pins σ H s->t σ H Q->Zh (model X.prog X.w) X.A (spliced (backTo pos (Zi es X.env))) (AP X pins σ Q) X.xe s
def PS (X:Cx) (st:Stmt) (t:TS):Prop:=
 ∀(pins:List (Za×Obj)) (s:Xx) (σ:St) (H:Hp) (D:Ends),Inv X pins σ H s->t D σ H->Zh (model X.prog X.w) X.A (exec st X.env) (SP X pins D) X.xe s
def PSs (X:Cx) (st:List Stmt) (t:TS):Prop:=
 ∀(pins:List (Za×Obj)) (s:Xx) (σ:St) (H:Hp) (D:Ends),Inv X pins σ H s->t D σ H->Zh (model X.prog X.w) X.A (execs st X.env) (SP X pins D) X.xe s
theorem thn {t:Sem α}{Q Q':α->Xx->Prop} (h:Zh M A t Q E s) (hQ:∀a s,Q a s->Q' a s):Zh M A t Q' E s:=Xs h hQ λ_ _ x=>x
section
def rD (i:Nat):TE:=λσ H Q=>∃v,σ[i]? = some (some v)/\Q v H
def tC (v:V):TE:=λ_ H Q=>Q v H
theorem MQ {pos:Pos} (o:X.N[i]? = some x) (n:Vis X.env.scope x) (f:(x == ("__debug__" : Str))=false:=by decide) (g:(x == ("__classdict__" : Str))=false:=by decide):PE X (.Name x pos) (rD i):=by
 intro d s t H Q I h;obtain⟨v,e,h⟩:=h;obtain⟨m,w,q⟩:=I.loc;obtain⟨u,r,l⟩:=q i x v o e n;have b:EP X d t Q u s:=⟨v,H,I,r,h⟩;rcases l with⟨a,p⟩ | ⟨a,c,j,k⟩
 ·exact wpAny_Name (wpAny_loadName_local I.ok.kind a w p b) f
 ·rcases a with a | a
  ·exact wpAny_Name (wpAny_loadName_cell I.ok.kind a j k b) f
  ·exact wpAny_Name (wpAny_loadName_free I.ok.kind a j k b g) f
theorem au {i j pos}:PE X (.Constant (.int i) j pos) (tC (.int i)):=λ_ _ _ H _ I h=>wpAny_Constant_int ⟨.int i,H,I.tok _,⟨_,rfl⟩,h⟩
theorem sZ {b j pos}:PE X (.Constant (.bool b) j pos) (tC (.bl b)):=λ_ _ _ H _ I h=>Constant_bool ⟨.bl b,H,I,rfl,h⟩
theorem Cb {j pos}:PE X (.Constant .none j pos) (tC .non):=λ_ _ _ H _ I h=>Constant_none ⟨.non,H,I,rfl,h⟩
theorem aI {x j pos}:PE X (.Constant (.str x) j pos) (tC (.str x)):=λ_ _ _ H _ I h=>Calls.Constant_str ⟨.str x,H,I.tok _,⟨_,rfl⟩,h⟩
def Gl (X:Cx) (x:Str):Prop:=X.env.kindOf x=some .globalImplicit
theorem kC {E:Xy->Xx->Prop}{pos:Pos} (I:Inv X pins σ H s) (c:Gl X x) (b:X.mg x=some u) (h:Q u s)
  (a:(x == ("__debug__" : Str))=false:=by decide):Zh (model X.prog X.w) X.A (eval (.Name x pos) X.env) Q E s:=
 Calls.Name_function_global I.ok.kind c (Calls.loadGlobal_global (by rw[I.ok.glob];exact I.mod.glob.keeps I.bk) b h) a
theorem fm {E:Xy->Xx->Prop}{pos:Pos} (I:Inv X pins σ H s) (e:Gl X x) (g:X.mg x=none) (f:bootBuiltins x=some u) (h:Q u s)
  (c:x ≠ "__name__" :=by decide) (a:(x == ("__debug__" : Str))=false:=by decide):Zh (model X.prog X.w) X.A (eval (.Name x pos) X.env) Q E s:=by
 obtain⟨_,b,d⟩:=I.mod.blt;exact Calls.Name_function_global I.ok.kind e (Calls.loadGlobal_builtin (by rw[I.ok.glob];exact I.mod.glob.keeps I.bk) g (by rw[I.ok.blt];exact b.keeps I.bk) ((d x c).trans f) h) a
theorem gF {pos:Pos} (b:Gl X x) (c:X.mg x=some u) (r:RelV v u) (a:(x == ("__debug__" : Str))=false:=by decide):PE X (.Name x pos) (tC v):=
 λ_ _ _ H _ I h=>kC I b c ⟨v,H,I,r,h⟩ a
theorem tZ {pos:Pos} (d:Gl X x) (e:X.mg x=none) (c:bootBuiltins x=some u) (r:RelV v u) (b:x ≠ "__name__" :=by decide) (a:(x == ("__debug__" : Str))=false:=by decide):PE X (.Name x pos) (tC v):=
 λ_ _ _ H _ I h=>fm I d e c ⟨v,H,I,r,h⟩ b a
variable {a b:Expr}{ta tb:TE}
def tB (t:TE):TT:=λσ H Q=>t σ H λx H1=>∃c,x = .bl c/\Q c H1
theorem cY {t:TE} (h:PE X e t) (c:∀whole,isTrue e X.env whole=(do let v <-whole;standAt e.pos;holding [v] (truthy v)):=by intro _;rfl):PT X e (tB t):=by
 intro a s f H Q I i;refine isTrue_plain (thn (h a s f H _ I i) λv _ ⟨x,b,k,g,j⟩=>?_) (c _);obtain⟨d,rfl,q⟩:=j;cases g;exact wpAny_truthy_bool ⟨b,k,q⟩
variable {tA tB':TT}{rest:List Expr}
def RT (t u:TT):TT:=λσ H Q=>t σ H λc H1=>if c=true then u σ H1 Q else Q false H1
def tOr (t u:TT):TT:=λσ H Q=>t σ H λc H1=>if c=true then Q true H1 else u σ H1 Q
def Ou (t:TT):TT:=λσ H Q=>t σ H λc H1=>Q (!c) H1
theorem pw_and1 (f:PT X a tA):PW X (.BoolOp .And [a] pos) tA:=by
 intro _ b s d H Q I h;refine isTrue_and (thn (f b s d H Q I h) λc _ e=>?_);cases c with
 | true=>exact isTrue_and_nil e
 | false=>exact e
theorem pw_or1 (f:PT X a tA):PW X (.BoolOp .Or [a] pos) tA:=by
 intro _ b s d H Q I h;refine isTrue_or (thn (f b s d H Q I h) λc _ e=>?_);cases c with
 | false=>exact isTrue_or_nil e
 | true=>exact e
theorem pw_and (m:PT X a tA) (l:PW X (.BoolOp .And (b::rest) pos) tB'):PW X (.BoolOp .And (a::b::rest) pos) (RT tA tB'):=by
 intro k d s f H Q I h;refine isTrue_and (thn (m d s f H _ I h) λc j ⟨e,i,g⟩=>?_);cases c with
 | true=>exact l k d j f e Q i g
 | false=>exact⟨e,i,g⟩
theorem pw_or (m:PT X a tA) (l:PW X (.BoolOp .Or (b::rest) pos) tB'):PW X (.BoolOp .Or (a::b::rest) pos) (tOr tA tB'):=by
 intro k d s f H Q I h;refine isTrue_or (thn (m d s f H _ I h) λc j ⟨e,i,g⟩=>?_);cases c with
 | true=>exact⟨e,i,g⟩
 | false=>exact l k d j f e Q i g
theorem ia (ha:PT X a tA):PT X (.UnaryOp .Not a pos) (Ou tA):=by
 intro pins s σ H Q I h;exact isTrue_not (ha pins s σ H (λc H1=>Q (!c) H1) I h)
def QO (ta tb:TE):TE:=λσ H Q=>ta σ H λx H1=>∃c,x = .bl c/\if c=true then tb σ H1 Q else Q (.bl false) H1
theorem pF {op}{t:TE} (h:PE X a t):PE X (.BoolOp op [a] pos) t:=λpins s σ H Q I hw=>BoolOp_one (h pins s σ H Q I hw)
theorem o4 (l:PE X a ta) (m:PE X (.BoolOp .And (b::rest) pos) tb):PE X (.BoolOp .And (a::b::rest) pos) (QO ta tb):=by
 intro d s g H Q I h;refine BoolOp_and (thn (l d s g H _ I h) λv j ⟨x,f,i,k,e⟩=>?_);obtain⟨c,rfl,e⟩:=e;cases k;refine wpAny_truthy_bool ?_;cases c with
 | true=>exact m d j g f Q i e
 | false=>exact⟨.bl false,f,i,rfl,e⟩
def tIf (t:TT) (ta tb:TE):TE:=λσ H Q=>t σ H λc H1=>if c=true then ta σ H1 Q else tb σ H1 Q
theorem jT {c:Expr} (l:PT X c tA) (n:PE X a ta) (m:PE X b tb):PE X (.IfExp c a b pos) (tIf tA ta tb):=by
 intro e s f H Q I h;refine wpAny_IfExp (thn (l e s f H _ I h) λd i ⟨g,k,j⟩=>?_);cases d with
 | true=>exact n e i f g Q k j
 | false=>exact m e i f g Q k j
end
def SqL (K:Xz) (H:Hp) (a:Za) (xs:Uj):Prop:=
 Rd H a (.lst xs) \/
  ∃(o:Obj) (its:Uy) (n:Nat),K.lookup a=some o/\o.cls = .type "list" /\ o.dict=none/\o.data = .seq its n/\its.size<=Zg/\aQ xs its.toList
def SqT (K:Xz) (H:Hp) (a:Za) (xs:Uj):Prop:=
 Rd H a (.tup xs) \/
  ∃(o:Obj) (its:Uy) (n:Nat),K.lookup a=some o/\o.cls = .type "tuple" /\ o.data = .seq its n/\its.size<=Zg/\aQ xs its.toList
def Rx:Xy->Option V
 | .none=>some .non
 | .bool b=>some (.bl b)
 | .int i _=>some (.int i)
 | .str x _=>some (.str x)
 | .bytes b _=>some (.byt b)
 | .float b _=>some (.flt b)
 | .ref a=>some (.ref a)
 | .type n=>some (.ty n)
 | _=>none
theorem RelV.abs {x:V} (r:RelV x u):Rx u=some x:=by
 cases x with
 | non=>cases r;rfl
 | bl _=>cases r;rfl
 | int _=>obtain⟨t,rfl⟩:=r;rfl
 | str _=>obtain⟨t,rfl⟩:=r;rfl
 | byt _=>obtain⟨t,rfl⟩:=r;rfl
 | flt _=>obtain⟨t,rfl⟩:=r;rfl
 | ref _=>cases r;rfl
 | ty _=>cases r;rfl
theorem RelV.inj {x y:V} (r:RelV x u) (q:RelV y u):x=y:=Ye (r.abs.symm.trans q.abs)
theorem aQ.inj:∀{xs ys:Uj}{us:WF},aQ xs us->aQ ys us->xs=ys
 | _,_,_,.nil,.nil=>rfl
 | _,_,_,.cons r t,.cons r' t'=>by rw[r.inj r',aQ.inj t t']
theorem SqL.of (h:H a=some (.lst xs)):SqL K H a xs:=.inl (.inl h)
theorem SqT.of (h:H a=some (.tup xs)):SqT K H a xs:=.inl (.inl h)
theorem Inv.list (I:Inv X pins σ H s) (h:SqL X.K H a xs):∃its:WF,aQ xs its/\PlainL s.heap a its.toArray/\xs.length<=Zg:=by
 rcases h with h | ⟨o,its,n,d,c,b,f,_,r⟩
 ·obtain⟨z,its,n,r,e⟩:=h.ok I.hok;exact⟨its,r,⟨_,n,e,rfl,rfl,rfl⟩,z⟩
 ·refine⟨its.toList,r,⟨o,n,I.kIn a o d,c,b,by simpa using f⟩,?_⟩;have e:=r.length;simp only[UZ]at e;lia
theorem Inv.tuple (I:Inv X pins σ H s) (h:SqT X.K H a xs):∃its:WF,aQ xs its/\IsTup s.heap a its.toArray/\xs.length<=Zg:=by
 rcases h with h | ⟨o,its,n,c,b,d,_,r⟩
 ·obtain⟨z,its,r,p⟩:=h.ok I.hok;exact⟨its,r,p,z⟩
 ·refine⟨its.toList,r,⟨o,I.kIn a o c,b,n,by simpa using d⟩,?_⟩;have e:=r.length;simp only[UZ]at e;lia
theorem Inv.qC (I:Inv X pins σ H s) (h:SqL X.K H a xs) (h':SqL X.K H a ys):xs=ys:=by
 obtain⟨b,r,⟨o,n,e,_,_,d⟩,_⟩:=I.list h;obtain⟨lV,g,⟨_,_,f,_,_,c⟩,_⟩:=I.list h';rw[e]at f;cases f;rw[d]at c;injection c with d1 _;have:b=lV:=by simpa using congrArg Array.toList d1
 subst this;exact r.inj g
abbrev Cx.wb (X:Cx) (E:Xy->Xx->Prop):Cx:={ X with xe:=E }
abbrev Cx.nox (X:Cx):Cx:=X.wb λ_ _=>False
theorem Cx.Ok.wb (ok:X.Ok) (E:Xy->Xx->Prop):(X.wb E).Ok:=
 ⟨ok.mod,ok.kind,ok.glob,ok.blt,ok.above,ok.inj,ok.has,ok.cab,ok.hd,ok.frames,ok.stk,ok.exf,ok.bs,ok.bsz,ok.G4,ok.Hy,ok.qF,ok.frf⟩
theorem Cx.Ok.mH (ok:(X.wb E).Ok):X.Ok:=
 ⟨ok.mod,ok.kind,ok.glob,ok.blt,ok.above,ok.inj,ok.has,ok.cab,ok.hd,ok.frames,ok.stk,ok.exf,ok.bs,ok.bsz,ok.G4,ok.Hy,ok.qF,ok.frf⟩
theorem Inv.wb (I:Inv X pins σ H s) (E:Xy->Xx->Prop):Inv (X.wb E) pins σ H s:=⟨I.ok.wb E,I.os,I.bare,I.base,I.loc,I.cell,I.free,I.lT,I.pin,I.hok,I.len⟩
theorem Inv.mH (I:Inv (X.wb E) pins σ H s):Inv X pins σ H s:=⟨I.ok.mH,I.os,I.bare,I.base,I.loc,I.cell,I.free,I.lT,I.pin,I.hok,I.len⟩
theorem SP.mH {D:Ends}{f:Flow} (h:SP (X.wb E) pins D f s'):SP X pins D f s':=by
 cases f with
 | next=>obtain⟨a,b,I,q⟩:=h;exact⟨a,b,I.mH,q⟩
 | brk=>obtain⟨a,b,I,q⟩:=h;exact⟨a,b,I.mH,q⟩
 | cont=>obtain⟨a,b,I,q⟩:=h;exact⟨a,b,I.mH,q⟩
 | ret u=>obtain⟨v,a,b,I,r,q⟩:=h;exact⟨v,a,b,I.mH,r,q⟩
theorem PSs.nox {st:List Stmt}{t:TS} (h:PSs X.nox st t):PSs X st t:=λpins s σ H D I hw=>
 Xs (h pins s σ H D (I.wb _) hw) (λ_ _ q=>q.mH) λ_ _ z=>False.elim z
section
variable {st:Stmt}{rest:List Stmt}{t u:TS}
def ON:TS:=λD σ H=>D.nx σ H
def So (t u:TS):TS:=λD σ H=>t { D with nx:=u D } σ H
theorem aS:PSs X [] ON:=λ_ _ σ H _ I h=>wpAny_execs_nil ⟨σ,H,I,h⟩
theorem aj (h1:PS X st t) (h2:PSs X rest u):PSs X (st::rest) (So t u):=by
 intro a s d H D I h;refine wpAny_execs_cons (thn (h1 a s d H { D with nx:=u D } I h) λf e q=>?_);cases f with
 | next=>
  obtain⟨b,c,g,q⟩:=q;exact h2 a e b c D g q
 | ret v=>exact q
 | brk=>exact q
 | cont=>exact q
theorem ao (h1:PS X st t):PSs X [st] t:=by
 intro a s b H D I h;refine wpAny_execs_cons (thn (h1 a s b H D I h) λf _ q=>?_);cases f with
 | next=>exact wpAny_execs_nil q
 | ret v=>exact q
 | brk=>exact q
 | cont=>exact q
theorem Inv.quiet (I:Inv X pins σ H s):interactive X.env=false:=by simp[interactive,I.ok.kind]
def OM (te:TE):TS:=λD σ H=>te σ H λ_ H1=>D.nx σ H1
theorem bq (d:PE X e te) (f:swapsWith e none pos.line X.env=pure false:=by rfl):PS X (.Expr e pos) (OM te):=by
 intro a s b H D I h;exact wpAny_Expr_any (thn (d a s b H _ I h) λv _ ⟨x,c,i,_,g⟩=>⟨b,c,i,g⟩) I.quiet f
def Rb (te:TE):TS:=λD σ H=>te σ H D.rt
theorem aG (he:PE X e te):PS X (.Return (some e) pos) (Rb te):=by
 intro pins s σ H D I h;exact wpAny_Return_some (thn (he pins s σ H _ I h) λv s1 ⟨x,H1,I1,r1,q1⟩=>⟨x,σ,H1,I1,r1,q1⟩)
def RN (c:TT) (t u:TS):TS:=λD σ H=>c σ H λb H1=>if b=true then t D σ H1 else u D σ H1
theorem bx {c:Expr}{a b:List Stmt}{tc:TT} (l:PT X c tc) (n:PSs X a t) (m:PSs X b u):PS X (.If c a b pos) (RN tc t u):=by
 intro e s f H D I h;refine wpAny_If (thn (l e s f H _ I h) λd i ⟨g,k,j⟩=>?_);cases d with
 | true=>exact n e i f g D k j
 | false=>exact m e i f g D k j
def N9:TS:=λ_ _ _=>False
theorem dg:PS X st N9:=λ_ _ _ _ _ _ h=>h.elim
end
abbrev TG:=V->St->Hp->(St->Hp->Prop)->Prop
abbrev TGs:=Uj->St->Hp->(St->Hp->Prop)->Prop
def PG (X:Cx) (target:Expr) (t:TG):Prop:=
 ∀(pins:List (Za×Obj)) (s:Xx) (σ:St) (H:Hp) (v:V) (u:Xy) (Q:St->Hp->Prop),Inv X pins σ H s->RelV v u->t v σ H Q ->
  Zh (model X.prog X.w) X.A (assign target X.env u) (λ_ s'=>∃σ' H',Inv X pins σ' H' s'/\Q σ' H') X.xe s
def PGs (X:Cx) (ts:List Expr) (t:TGs):Prop:=
 ∀(pins:List (Za×Obj)) (s:Xx) (σ:St) (H:Hp) (vs:Uj) (us:WF) (Q:St->Hp->Prop),Inv X pins σ H s->aQ vs us->t vs σ H Q ->
  Zh (model X.prog X.w) X.A (assignInOrder ((assignEach ts X.env).map (·.2)) us) (λ_ s'=>∃σ' H',Inv X pins σ' H' s'/\Q σ' H') X.xe s
abbrev Oi:=V->V->V->Hp->(Hp->Prop)->Prop
def PP (X:Cx) (t:Oi):Prop:=
 ∀(pins:List (Za×Obj)) (s:Xx) (σ:St) (H:Hp) (o i v:V) (ov iv u:Xy) (Q:Hp->Prop),Inv X pins σ H s->RelV o ov->RelV i iv->RelV v u->t o i v H Q ->
  Zh (model X.prog X.w) X.A (setItem ov iv u) (λ_ s'=>∃H',Inv X pins σ H' s'/\Q H') X.xe s
def aZ (i:Nat):TG:=λv σ H Q=>Q (σ.set i (some v)) H
theorem ay (a:X.N.Nodup) (hi:X.N[i]? = some x) (hx:Loc X.env.scope x) (b:X.fn x=true\/X.env.scope.names.lookup x=some .local:=by first | exact .inl rfl | exact .inr rfl | assumption):PG X (.Name x pos) (aZ i):=by
 intro _ s _ H v u Q I r h;exact wpAny_assign_Name (zQ I a hi hx r (λ_ c=>⟨_,H,c,h⟩) b)
def vY:TGs:=λvs σ H Q=>vs=[]/\Q σ H
def eR (t:TG) (u:TGs):TGs:=λvs σ H Q=>∃v r,vs=v::r/\t v σ H λσ' H'=>u r σ' H' Q
theorem dO:PGs X [] vY:=by
 intro pins s σ H vs us Q I r h;obtain⟨e,h⟩:=h;subst e;cases r;exact assignInOrder_nil ⟨σ,H,I,h⟩
theorem ba {es:List Expr}{t:TG}{u:TGs} (h1:PG X e t) (h2:PGs X es u)
  (c:(assignEach (e::es) X.env).map (·.2)=assign e X.env::(assignEach es X.env).map (·.2):=by rfl):PGs X (e::es) (eR t u):=by
 intro a s j H _ _ Q I r h;obtain⟨v,_,k,h⟩:=h;subst k;cases r with
 | cons r f=>
  rw[c];refine assignInOrder_cons (thn (h1 a s j H _ _ _ I r h) λ_ g ⟨b,i,d,l⟩=>?_);exact h2 a g b i _ _ Q d f l
def u7 (K:Xz) (n:Nat) (t:TGs):TG:=λv σ H Q=>∃a xs,v = .ref a/\SqT K H a xs/\xs.length=n/\t xs σ H Q
theorem fG {es:List Expr}{k:Nat}{t:TGs} (x:X.calm=true) (h:PGs X es t)
  (y:(assignEach es X.env).length=n:=by rfl) (f:(assignEach es X.env).findIdx? (·.1)=none:=by rfl):PG X (.Tuple es k pos) (u7 X.K n t):=by
 intro c s i H v u Q I r d;obtain⟨a,p,z,A,q,d⟩:=d;subst z;cases r;obtain⟨_,g,l,_⟩:=I.tuple A;refine assign_Tuple_tuple (I.ok.hd x) l (by simp[y,<-q,g.length]) f λj w=>?_;have m:Inv X c i H { s with heap:=j }:=I.kept (t':=s.toks) λb o e=>w b o (U2 (Y2 e)) e;exact h c _ i H p _ Q m (by simpa using g) d
def RE (to ti:TE) (t:Oi):TG:=λv σ H Q=>to σ H λo H1=>ti σ H1 λi H2=>t o i v H2 λH3=>Q σ H3
theorem C0 {o i:Expr}{to c:TE}{t:Oi} (w:PE X o to) (hi:PE X i c) (e:PP X t)
  (B:∀v,assign (.Subscript o i pos) X.env v=(do
   let ov <-holding [v] (eval o X.env)
   let iv <-holding [v,ov] (eval i X.env)
   standAt pos
   holding [v,ov,iv] (setItem ov iv v)
   release [v,ov,iv] []):=by intro _;rfl):PG X (.Subscript o i pos) (RE to c t):=by
 intro a s b H v u Q I r h;rw[B];refine Xw (Xr (thn (w a s b H _ I h) λov k ⟨x,m,f,q,A⟩=>?_));refine Xw (Xr (thn (hi a k b m _ f A) λiv z ⟨y,d,j,g,p⟩=>?_));refine Xw (wpAny_standAt (Xw (Xr (thn (e a z b d x y v ov iv u _ j q g r p) λ_ _ ⟨l,n,C⟩=>?_))));exact wpAny_release ⟨b,l,n,C⟩
def Ol (te:TE) (g:TG):TS:=λD σ H=>te σ H λx H1=>g x σ H1 D.nx
theorem rm {g:TG} (f:PE X e te) (n:PG X tg g) (c:swapsWithSole [tg] e pos.line X.env=pure false:=by rfl) (d:swappedStores [tg] e X.env=pure none:=by rfl)
  (h1:(assignEach [tg] X.env).map (·.2)=[assign tg X.env]:=by rfl):PS X (.Assign [tg] e pos) (Ol te g):=by
 intro a s b H D I h;refine wpAny_Assign_stores (thn (f a s b H _ I h) λv j ⟨x,k,i,l,m⟩=>?_) c d;rw[h1];exact thn (n a j b k x v _ i l m) λ_ _ q=>q
theorem bh (g:X.N.Nodup) (hi:X.N[i]? = some x) (hx:Loc X.env.scope x) (c:PE X e te) (b:swapsWith e (some (.Name x pos')) pos.line X.env=pure false:=by rfl) (f:X.fn x=true\/X.env.scope.names.lookup x=some .local:=by first | exact .inl rfl | exact .inr rfl | assumption) :
  PS X (.Assign [.Name x pos'] e pos) (Ol te (aZ i)):=by
 intro a s l H D I h;refine wpAny_Assign_Name (thn (c a s l H _ I h) λv _ ⟨y,k,d,m,n⟩=>?_) b;exact zQ d g hi hx m (λ_ j=>⟨_,k,j,n⟩) f
structure It where
 go:Nat->Hp->Prop
 yld:Nat->Hp->V->Hp->Prop
 stop:Nat->Hp->Prop
def cA (X:Cx) (pins:List (Za×Obj)) (H:Hp) (b:Za):Prop:=
 H b=none/\b≠X.env.locals/\b∉X.fs/\(b∈X.ex\/X.s₀.heap.objs.size<=b)/\(∀x c,X.env.cells.lookup x=some c->c≠b)/\∀p∈X.pn++pins,p.1≠b
theorem Inv.tM (I:Inv X pins σ H s) (a:s.heap.objs.size<=b) (f:H' b=none):cA X pins H' b:=by
 refine⟨f,Wj (U7 I.lt a),I.OK a,.inr (UK I.sz a),λx c e z=>?_,λp d z=>?_⟩
 ·obtain⟨v,q⟩:=I.cell x c e;exact absurd (U7 q.lt (by rw[z];exact a)) (Vv _)
 ·exact absurd (U7 (Y2 (I.pin p d).1) (by rw[z];exact a)) (Vv _)
structure Turn (P:Zd) (w:Ze) (K:Xz) (tg:Expr) (J:It) (fp:Uz) (it:Za) (tn:Nat->Heap->Prop):Prop where
 mem:it∈fp
 obj:∀i h,tn i h->∀b∈fp,∃o,h.get? b=some o/\∀v,o.data ≠ .cell v
 keep:∀i h h',tn i h->(∀b∈fp,∀o,h.get? b=some o->h'.get? b=some o)->tn i h'
 item:∀(X:Cx),X.prog=P->X.w=w->X.K=K->X.calm=true->∀(i:Nat) (pins:List (Za×Obj)) (s:Xx) (σ:St) (H:Hp) (E:Xy->Xx->Prop),Inv X pins σ H s->(∀b∈fp,cA X pins H b)->tn i s.heap->J.go i H ->
  Zh (model P w) X.A (pyNext (.ref it)) (λr s1=>∃u,r=some u /\
   Zh (model P w) X.A (letOwnedTupleGo tg (.ref it) u) (λ_ s2=>∃x H',Inv X pins σ H' s2/\RelV x u/\J.yld i H x H'/\tn (i+1) s2.heap/\∀b∈fp,H' b=none) E s1) E s
 done:∀(X:Cx),X.prog=P->X.w=w->X.K=K->X.calm=true->∀(i:Nat) (pins:List (Za×Obj)) (s:Xx) (σ:St) (H:Hp) (E:Xy->Xx->Prop),Inv X pins σ H s->(∀b∈fp,cA X pins H b)->tn i s.heap->J.stop i H ->
  Zh (model P w) X.A (pyNext (.ref it)) (λr s1=>r=none/\Inv X pins σ H s1) E s
 self:∀(A:Zc) (i:Nat) (s:Xx) (Q:Xy->Xx->Prop) (E:Xy->Xx->Prop),tn i s.heap->Q (.ref it) s->Zh (model P w) A (pyIter (.ref it)) Q E s
abbrev TI:=St->Hp->(It->Hp->Prop)->Prop
def PIE (X:Cx) (pins:List (Za×Obj)) (σ:St) (tg:Expr) (R:It->Hp->Prop) (itv:Xy) (s2:Xx):Prop:=
 ∃(it:Za) (fp:Uz) (tn:Nat->Heap->Prop) (J:It) (H':Hp),itv = .ref it/\Inv X pins σ H' s2/\Turn X.prog X.w X.K tg J fp it tn/\tn 0 s2.heap/\(∀b∈fp,cA X pins H' b)/\R J H'
def PI (X:Cx) (tg iter:Expr) (wi:TI):Prop:=
 ∀(pins:List (Za×Obj)) (s:Xx) (σ:St) (H:Hp) (R:It->Hp->Prop),Inv X pins σ H s->wi σ H R ->
  Zh (model X.prog X.w) X.A (eval iter X.env) (λv s1=>Zh (model X.prog X.w) X.A (pyIter v) (PIE X pins σ tg R) X.xe s1) X.xe s
theorem HA {o:Obj}{n:String}{vs:Uy}{Q:Unit->Xx->Prop} (e:s.heap.get? it=some o) (d:o.cls = .type n) (b:o.data = .fields vs)
  (c:["enumerate","zip","dict_itemiterator","dict_reverseitemiterator","odict_iterator","itertools.zip_longest","itertools.pairwise"].contains n=false) (a:Q () s):Zh M A (letOwnedTupleGo tg (.ref it) u) Q E s:=by
 unfold letOwnedTupleGo;cases tg <;> first
  | exact Xv a
  | (cases u <;> first
    | exact Xv a
    | (refine Xw (wpAny_load e ?_)
       rw[d,b];show Zh M A (if (["enumerate","zip","dict_itemiterator","dict_reverseitemiterator","odict_iterator","itertools.zip_longest","itertools.pairwise"].contains n && vs[0]? == some (rawInt _))=true then _ else _) Q E s;rw[Zo (by intro h;rw[c,Bool.false_and]at h;cases h)];exact Xv a))
def Itl (K:Xz) (a:Za):It:=
 ⟨λi H=>∃xs x,SqL K H a xs/\xs[i]? = some x,λi H x H'=>H' = H/\∀xs,SqL K H a xs->xs[i]? = some x,λi H=>∃xs,SqL K H a xs/\xs.length<=i⟩
def Itr (lo:Int) (n:Nat):It:=⟨λi _=>i<n,λi H x H'=>H' = H/\x = .int (lo+i),λi _=>n<=i⟩
theorem FC (a it:Za):Turn P w K tg (Itl K a) [it] it (λi h=>h.IsListIter it a i) where
 mem:=by simp
 obj:=λi h f b j=>by
  have e:b=it:=by simpa using j
  subst e;obtain⟨o,e,c,d⟩:=f;exact⟨o,e,λv z=>by rw[d]at z;cases z⟩
 keep:=λi h m f k=>f.at λo e=>k it (by simp) o e
 item:=by
  intro X G t hK M i g s N H E I n f L;subst G t hK;obtain⟨T,x,q,D⟩:=L;obtain⟨F,A,p,U⟩:=I.list q;obtain⟨u,Y,W⟩:=A.get D;obtain⟨J,y,R,r,C,B⟩:=n it (by simp);refine wpAny_pyNext_list_item f p.isList (x:=u) (by simpa using Y) λm l S=>?_;have Q:Inv X g N H { s with heap:=m }:=I.turned (t':=s.toks) (λb o j e=>(S.2 b j).trans e) J y r C B;obtain⟨o,e,c,d⟩:=id l;exact⟨u,rfl,HA (s:={ s with heap:=m }) e c d (by decide) ⟨x,H,Q,W,⟨rfl,λ_ V=>by rw[I.qC V q];exact D⟩,l,λb j=>(n b j).1⟩⟩
 done:=by
  intro X G t hK M i g s N H E I n f L;subst G t hK;obtain⟨T,q,D⟩:=L;obtain⟨F,A,p,U⟩:=I.list q;obtain⟨J,y,R,r,C,B⟩:=n it (by simp);have Z:=A.length;exact wpAny_pyNext_list_end (I.ok.hd M) f p.isList (by simp;lia) λm O=>⟨rfl,I.turned (t':=s.toks) (λb o j e=>O b o j e) J y r C B⟩
 self:=λ_ _ _ _ _ f h=>wpAny_pyIter_listiter f h
theorem Dc (it:Za) (lo:Int) (n:Nat):Turn P w K tg (Itr lo n) [it] it (λi h=>IsRangeIter h it (lo+(i:Nat) * 1) ((n:Int) - (i:Nat)) 1) where
 mem:=by simp
 obj:=λi h a b d=>by
  have e:b=it:=by simpa using d
  subst e;exact⟨_,a,λv z=>by
   have M:Data.fields _=Data.cell v:=z;cases M⟩
 keep:=λi h g a k=>k it (by simp) _ a
 item:=by
  intro X x m hK u i c s C H E I j a y;subst x m hK;obtain⟨A,p,J,l,r,q⟩:=j it (by simp);have W:=Walks.range (prog:=X.prog) (w:=X.w) (I.ok.hd u) it lo 1 n;refine W.item i s _ _ y a λv g B F f L=>?_;obtain⟨t,rfl⟩:=F;have G:Inv X c C H { s with heap:=g,toks:=B }:=I.turned (λb o d e=>L b o (by simpa using d) e) A p l r q;refine⟨_,rfl,HA (s:={ s with heap:=g,toks:=B }) (n:= "range_iterator") f rfl rfl (by decide) ⟨.int (lo+i),H,G,⟨t,?_⟩,⟨rfl,rfl⟩,f,λb d=>(j b d).1⟩⟩;rw[Int.mul_one]
 done:=by
  intro X x m hK u i c s C H E I j a y;subst x m hK;obtain⟨A,p,J,l,r,q⟩:=j it (by simp);exact wpAny_pyNext_range_end (I.ok.hd u) a (by have:n<=i:=y;lia) λg D=>⟨rfl,I.turned (t':=s.toks) (λb o d e=>D b o d e) A p l r q⟩
 self:=λ_ _ _ _ _ a h=>wpAny_pyIter_rangeiter a h
def zZ (K:Xz) (tl:TE):TI:=λσ H R=>tl σ H λx H1=>∃a,x = .ref a/\(∃xs,SqL K H1 a xs)/\R (Itl K a) H1
theorem aT {l:Expr} (g:PE X l tl):PI X tg l (zZ X.K tl):=by
 intro c s j H R I h;refine thn (g c s j H _ I h) λv s1 ⟨x,i,d,k,m⟩=>?_;obtain⟨a,e,⟨_,n⟩,q⟩:=m;subst e;cases k;obtain⟨_,_,p,_⟩:=d.list n;refine wpAny_pyIter_list p.isList ?_;refine⟨s1.heap.objs.size,[s1.heap.objs.size],_,_,i,rfl,d.kept (t':=s1.toks) λb o e=>Xu _ e,FC a _,⟨_,Y3 _ rfl,rfl,rfl⟩,λb f=>?_,q⟩;have e:b=s1.heap.objs.size:=by simpa using f
 subst e;exact d.tM (UD _) (d.hok.fresh (UD _))
theorem IE {R:It->Hp->Prop}{t u v:Tok}{tk:Nat} (I:Inv X pins σ H s) (h1 : -(2 ^ 62)<=lo) (h2:lo<2 ^ 62) (g : -(2 ^ 62)<=hi) (c:hi<2 ^ 62)
  (q:R (Itr lo (hi - lo).toNat) H):Zh (model X.prog X.w) X.A (pyIter (.ref s.heap.objs.size)) (PIE X pins σ tg R) E { s with heap:=s.heap.push { cls:=.type "range",data:=.fields #[.int lo t,.int hi u,.int 1 v] },toks:=tk }:=by
 refine wpAny_pyIter_range (IsRange.new ..) (small_one h1 h2 g c) ?_;have a:Inv X pins σ H { s with heap:=s.heap.push { cls:=.type "range",data:=.fields #[.int lo t,.int hi u,.int 1 v] },toks:=tk }:=I.kept λb o e=>Xu _ e;refine⟨(s.heap.push { cls:=.type "range",data:=.fields #[.int lo t,.int hi u,.int 1 v] }).objs.size,[(s.heap.push { cls:=.type "range",data:=.fields #[.int lo t,.int hi u,.int 1 v] }).objs.size],_,_,H,rfl,
  a.kept (t':=tk) λb o e=>Xu _ e,Dc _ lo (hi - lo).toNat,?_,λb f=>?_,q⟩
 ·have d:lo+((0:Nat):Int) * 1=lo:=by simp
  have h:(((hi - lo).toNat:Nat):Int) - ((0:Nat):Int)=Builtin.Range.rangeSize lo hi 1:=by rw[rangeSize_one];split <;> lia
  show IsRangeIter _ _ (lo+((0:Nat):Int) * 1) ((((hi - lo).toNat:Nat):Int) - ((0:Nat):Int)) 1;rw[d,h];exact Y3 _ rfl
 ·have e:b=(s.heap.push { cls:=.type "range",data:=.fields #[.int lo t,.int hi u,.int 1 v] }).objs.size:=by simpa using f
  subst e;exact a.tM (UD _) (a.hok.fresh (UD _))
def QU (ta:TA):TI:=λσ H R=>ta σ H λvs H1=>∃j:Int,vs=[.int j] /\ -(2 ^ 62)<=j/\j<2 ^ 62/\R (Itr 0 j.toNat) H1
theorem fq {a:Expr}{p pos:Pos} (n:Gl X "range") (g:X.mg "range" = none) (o:PA X [a] ta) (d:Zi [a] X.env=[(false,eval a X.env)]:=by rfl):PI X tg (.Call (.Name "range" p) [a] [] pos) (QU ta):=by
 intro b s k H R I h;refine Call_ (fm I n g boot_range (Ym (thn (o pos b s k H _ I h) λ_ _ ⟨_,_,f,m,c⟩=>?_) d rfl));obtain⟨j,e,c,l,q⟩:=c;subst e;cases m with
 | cons r i=>
  cases i;obtain⟨t,rfl⟩:=r;exact call_range_1 (IE f (by lia) (by lia) c l (by simpa using q))
def Sf (wi:TI) (g:TG) (tb:TS):TS:=λD σ H=>wi σ H λJ H1=>∃W:Nat->Nat->St->Hp->Prop,(∃m,W 0 m σ H1)/\∀i m σ H,W i m σ H ->
 (J.stop i H/\D.nx σ H)\/(J.go i H/\∃N:St->Hp->Prop,(∀σ' H',N σ' H'->∃m',m' < m/\W (i+1) m' σ' H')/\∀x H',J.yld i H x H'->g x σ H' λσ2 H2=>tb { D with nx:=N,ct:=N,bk:=D.nx } σ2 H2)
def uI (fp:Uz) (h:Heap):List (Za×Obj):=fp.filterMap λb=>(h.get? b).map λo=>(b,o)
theorem ku {o:Obj} (hb:b∈fp) (e:h.get? b=some o):(b,o)∈uI fp h:=Wc.mpr ⟨b,hb,by rw[e];rfl⟩
theorem ER {p:Za×Obj} (a:p∈uI fp h):p.1∈fp/\h.get? p.1=some p.2:=by
 obtain⟨b,d,e⟩:=Wc.mp a;cases q:h.get? b with
 | none=>rw[q]at e;cases e
 | some o=>
  rw[q]at e;have c:(b,o)=p:=Ye e;subst c;exact⟨d,q⟩
theorem Inv.pinned (I:Inv X pins σ H s) (i:∀b∈fp,cA X pins H b) (j:∀b∈fp,∃o,s.heap.get? b=some o/\∀v,o.data ≠ .cell v):Inv X (pins++uI fp s.heap) σ H s:=
 I.pZ λp f=>(UY.mp f).elim (λz=>I.pin p (U8 _ z)) λz=>by
  obtain⟨c,e⟩:=ER z;obtain⟨g,h,k,_⟩:=i p.1 c;obtain⟨o,a,d⟩:=j p.1 c;rw[e]at a;cases a;exact⟨e,g,h,k,d⟩
theorem Inv.i6 {pl:List (Za×Obj)} (I:Inv X (pins++pl) σ H s):Inv X pins σ H s:=I.pZ λp hp=>I.pin p (U8 _ (V3 _ hp))
theorem g9 {t:List Stmt}{wi:TI}{g:TG}{tb:TS}{pos:Pos} (C:PassesOwn (model X.prog X.w) X.A X.env X.xe) (hc:X.calm=true) (hi:PI X tg iter wi) (hg:PG X tg g) (j:PSs X t tb)
  (hs:∀x,foldedSetIterable iter X.env x=pure x:=by intro _;rfl):PS X (.For tg iter t [] pos) (Sf wi g tb):=by
 intro c s σ H D I h;refine wpAny_For (thn (hi c s σ H _ I h) λv _ h1=>thn h1 λ_ _ h2=>?_) hs;obtain⟨_,B,tn,J,H2,e,I2,T,Y,f2,W,⟨m0,w0⟩,K⟩:=h2;subst e;have S:∀{H':Hp},(∀b∈B,H' b=none)->∀b∈B,cA X c H' b:=λhn b j=>⟨hn b j,(f2 b j).2⟩;refine codeAny_forLoop_any (λn s'=>∃i σ' H',Inv X c σ' H' s'/\tn i s'.heap/\(∀b∈B,H' b=none)/\W i n σ' H') ?_ m0 ⟨0,σ,H2,I2,Y,λb j=>(f2 b j).1,w0⟩;rintro n Z ⟨i,q,O,I3,F,E,w3⟩;rcases K i n q O w3 with⟨L,qn⟩ | ⟨go,N,hN,G⟩
 ·refine wpAny_passesOwn C (thn (T.done X rfl rfl rfl hc i c Z q O X.xe I3 (S E) F L) λr s4 ⟨Q,I4⟩=>?_);subst Q;exact wpAny_execs_nil ⟨q,O,I4,qn⟩
 ·refine wpAny_passesOwn C (thn (T.item X rfl rfl rfl hc i c Z q O X.xe I3 (S E) F go) λr s4 ⟨u,Q,h4⟩=>?_);subst Q;refine wpAny_passesOwn C (thn h4 λ_ s5 ⟨x,H5,I5,r5,y5,z,V⟩=>?_);have R:=I5.pinned (S V) (T.obj _ _ z);refine wpAny_passesOwn C (thn (hg _ s5 q H5 x u _ R r5 (G x H5 y5)) λ_ s6 ⟨P,H6,I6,q6⟩=>?_);refine wpAny_passesOwn C (thn (j _ s6 P H6 _ I6 q6) λf U y=>?_);have p:∀{a:St}{k:Hp},Inv X (c++uI B s5.heap) a k U->N a k->∃m,m<n/\∃i σ' H',Inv X c σ' H' U/\tn i U.heap/\(∀b∈B,H' b=none)/\W i m σ' H':=λ{a k} l M=>by
   obtain⟨m',hm,w7⟩:=hN a k M;refine⟨m',hm,i+1,a,k,l.i6,T.keep _ _ _ z λb j o e=>(l.pin (b,o) (U8 _ (U8 _ (ku j e)))).1,λb j=>?_,w7⟩;obtain⟨o,e,d⟩:=T.obj _ _ z b j;exact(l.pin (b,o) (U8 _ (U8 _ (ku j e)))).2.1
  cases f with
  | next=>obtain⟨a,k,l,M⟩:=y;exact p l M
  | cont=>obtain⟨a,k,l,M⟩:=y;exact p l M
  | brk=>obtain⟨a,k,l,y⟩:=y;exact⟨a,k,l.i6,y⟩
  | ret v=>obtain⟨x7,a,k,l,r7,y⟩:=y;exact⟨x7,a,k,l.i6,r7,y⟩
theorem iM {g:TG}{tb:TS}{D:Ends} (b:Nat->St->Hp->Prop) (k:b 0 σ H) (j:∀i σ H,i<=xs.length->b i σ H->SqL K H a xs)
  (f:∀i x σ H,xs[i]? = some x->b i σ H->g x σ H λσ2 H2=>tb { D with nx:=b (i+1),ct:=b (i+1),bk:=D.nx } σ2 H2) (d:∀σ H,b xs.length σ H->D.nx σ H) :
  ∃W:Nat->Nat->St->Hp->Prop,(∃m,W 0 m σ H)/\∀i m σ H,W i m σ H ->
   ((Itl K a).stop i H/\D.nx σ H)\/((Itl K a).go i H/\∃N:St->Hp->Prop,(∀σ' H',N σ' H'->∃m',m' < m/\W (i+1) m' σ' H')/\∀x H',(Itl K a).yld i H x H'->g x σ H' λσ2 H2=>tb { D with nx:=N,ct:=N,bk:=D.nx } σ2 H2):=by
 refine⟨λi m σ H=>m=xs.length - i/\i<=xs.length/\b i σ H,⟨xs.length,by simp,UU _,k⟩,?_⟩;rintro i m σ H ⟨rfl,h,p⟩;have q:=j i σ H h p;by_cases c:i<xs.length
 ·refine .inr ⟨⟨xs,xs[i],q,by simp[c]⟩,b (i+1),λσ' H' p'=>⟨xs.length - (i+1),by lia,rfl,c,p'⟩,λx H' y=>?_⟩;obtain⟨e,y⟩:=y;subst e;exact f i x σ _ (y xs q) p
 ·have e:i=xs.length:=by lia
  subst e;exact .inl ⟨⟨xs,q,UD _⟩,d σ H p⟩
theorem rA {g:TG}{tb:TS}{D:Ends} (b:Nat->St->Hp->Prop) (f:b 0 σ H)
  (d:∀i σ H,i<n->b i σ H->g (.int (lo+i)) σ H λσ2 H2=>tb { D with nx:=b (i+1),ct:=b (i+1),bk:=D.nx } σ2 H2) (c:∀σ H,b n σ H->D.nx σ H) :
  ∃W:Nat->Nat->St->Hp->Prop,(∃m,W 0 m σ H)/\∀i m σ H,W i m σ H ->
   ((Itr lo n).stop i H/\D.nx σ H)\/((Itr lo n).go i H/\∃N:St->Hp->Prop,(∀σ' H',N σ' H'->∃m',m' < m/\W (i+1) m' σ' H')/\∀x H',(Itr lo n).yld i H x H'->g x σ H' λσ2 H2=>tb { D with nx:=N,ct:=N,bk:=D.nx } σ2 H2):=by
 refine⟨λi m σ H=>m=n - i/\i<=n/\b i σ H,⟨n,by simp,UU _,f⟩,?_⟩;rintro i m σ H ⟨rfl,_,p⟩;by_cases a:i<n
 ·refine .inr ⟨a,b (i+1),λσ' H' p'=>⟨n - (i+1),by lia,rfl,a,p'⟩,λx H' y=>?_⟩;obtain⟨e,y⟩:=y;subst e y;exact d i σ _ a p
 ·have e:i=n:=by lia
  subst e;exact .inl ⟨UD _,c σ H p⟩
abbrev R2:=V->V->Hp->VK->Prop
def OpR (X:Cx) (f:Xy->Xy->Sem Xy) (r:R2):Prop:=
 ∀(pins:List (Za×Obj)) (s:Xx) (σ:St) (H:Hp) (x y:V) (v u:Xy) (Q:VK),Inv X pins σ H s->RelV x v->RelV y u->r x y H Q ->
  Zh (model X.prog X.w) X.A (f v u) (EP X pins σ Q) X.xe s
def UnR (X:Cx) (f:Xy->Sem Xy) (r:V->Hp->VK->Prop):Prop:=
 ∀(pins:List (Za×Obj)) (s:Xx) (σ:St) (H:Hp) (x:V) (v:Xy) (Q:VK),Inv X pins σ H s->RelV x v->r x H Q ->
  Zh (model X.prog X.w) X.A (f v) (EP X pins σ Q) X.xe s
def jo (X:Cx) (f:Xy) (r:Uj->Hp->VK->Prop):Prop:=
 ∀(pins:List (Za×Obj)) (s:Xx) (σ:St) (H:Hp) (xs:Uj) (us:WF) (Q:VK),Inv X pins σ H s->aQ xs us->r xs H Q ->
  Zh (model X.prog X.w) X.A (call f us) (EP X pins σ Q) X.xe s
def SI (X:Cx) (r:V->Hp->(Bool->Hp->Prop)->Prop):Prop:=
 ∀(pins:List (Za×Obj)) (s:Xx) (σ:St) (H:Hp) (x:V) (v:Xy) (Q:Bool->Hp->Prop),Inv X pins σ H s->RelV x v->r x H Q ->
  Zh (model X.prog X.w) X.A (truthy v) (TP X pins σ Q) X.xe s
def tOp (r:R2) (ta tb:TE):TE:=λσ H Q=>ta σ H λx H1=>tb σ H1 λy H2=>r x y H2 Q
def tUn (r:V->Hp->VK->Prop) (ta:TE):TE:=λσ H Q=>ta σ H λx H1=>r x H1 Q
def rI (C:Int->Int->Prop) (g:Int->Int->V):R2:=λx y H Q=>∃i j,x = .int i/\y = .int j/\C i j/\Q (g i j) H
def rI0 (g:Int->Int->V):R2:=λx y H Q=>∃i j,x = .int i/\y = .int j/\Q (g i j) H
def rU (g:Int->V):V->Hp->VK->Prop:=λx H Q=>∃i,x = .int i/\Q (g i) H
section
variable {a b c:Expr}{ta tb:TE}
theorem Nx (m:PE X a ta) (i:PE X b tb) {R:V->V->Hp->Prop} (I:Inv X pins σ H s)
  (h:ta σ H λx H1=>tb σ H1 λy H2=>R x y H2) {Q:Xy->Xx->Prop}{f:Xy->Xy->Sem Xy}
  (j:∀v u s2 x y H2,Inv X pins σ H2 s2->RelV x v->RelV y u->R x y H2->Zh (model X.prog X.w) X.A (f v u) Q X.xe s2) :
  Zh (model X.prog X.w) X.A (eval a X.env) (λv s₁=>Zh (model X.prog X.w) X.A (eval b X.env) (λu s₂=>Zh (model X.prog X.w) X.A (f v u) Q X.xe s₂) X.xe s₁) X.xe s:=by
 refine thn (m pins s σ H _ I h) λv e ⟨x,H1,l,g,k⟩=>?_;refine thn (i pins e σ H1 _ l k) λu s2 ⟨y,H2,c,n,d⟩=>?_;exact j v u s2 x y H2 c g n d
theorem bU {op:Operator}{r:R2} (k:OpR X (binaryOp op) r) (m:PE X a ta) (f:PE X b tb):PE X (.BinOp a op b pos) (tOp r ta tb):=by
 intro c s j H Q I h;exact wpAny_BinOp (Nx m f I h λv u l x y d i g e q=>k c l j d x y v u Q i g e q)
theorem P9 {op:UnaryOp}{r:V->Hp->VK->Prop} (k:UnR X (unaryOp op) r) (j:PE X a ta):PE X (.UnaryOp op a pos) (tUn r ta):=by
 intro b s c H Q I h;exact UnaryOp_ (thn (j b s c H _ I h) λv e ⟨x,d,i,f,g⟩=>k b e c d x v Q i f g)
theorem opI {f:Xy->Xy->Sem Xy}{C:Int->Int->Prop}{g:Int->Int->Int}
  (a:∀(i j:Int) (t u:Tok) (s:Xx) (Q:Xy->Xx->Prop) (E:Xy->Xx->Prop),C i j->Q (.int (g i j) s.toks) { s with toks:=s.toks+1 }->Zh (model X.prog X.w) X.A (f (.int i t) (.int j u)) Q E s) :
  OpR X f (rI C λi j=>.int (g i j)):=by
 intro _ s _ H x y v u Q I c b h;obtain⟨i,j,rfl,rfl,d,q⟩:=h;obtain⟨t,rfl⟩:=c;obtain⟨e,rfl⟩:=b;exact a i j t e s _ _ d ⟨.int (g i j),H,I.tok _,⟨_,rfl⟩,q⟩
theorem PX {f:Xy->Xy->Sem Xy}{g:Int->Int->Int}
  (a:∀(i j:Int) (t u:Tok) (s:Xx) (Q:Xy->Xx->Prop) (E:Xy->Xx->Prop),Q (.int (g i j) s.toks) { s with toks:=s.toks+1 }->Zh (model X.prog X.w) X.A (f (.int i t) (.int j u)) Q E s) :
  OpR X f (rI0 λi j=>.int (g i j)):=by
 intro _ s _ H x y v u Q I c b h;obtain⟨i,j,rfl,rfl,q⟩:=h;obtain⟨t,rfl⟩:=c;obtain⟨d,rfl⟩:=b;exact a i j t d s _ _ ⟨.int (g i j),H,I.tok _,⟨_,rfl⟩,q⟩
theorem K3 {f:Xy->Xy->Sem Xy}{g:Int->Int->Bool}
  (a:∀(i j:Int) (t u:Tok) (s:Xx) (Q:Xy->Xx->Prop) (E:Xy->Xx->Prop),Q (.bool (g i j)) s->Zh (model X.prog X.w) X.A (f (.int i t) (.int j u)) Q E s) :
  OpR X f (rI0 λi j=>.bl (g i j)):=by
 intro _ s _ H x y v u Q I c b h;obtain⟨i,j,rfl,rfl,q⟩:=h;obtain⟨t,rfl⟩:=c;obtain⟨d,rfl⟩:=b;exact a i j t d s _ _ ⟨.bl (g i j),H,I,rfl,q⟩
def RO (i j:Int):Prop:=0<j/\j<1073741824
def Sx (i j:Int):Prop:=0<=j/\j<=1000000/\i.natAbs<2 ^ 64
def Nr (i j:Int):Prop:=(-(2 ^ 64)<i/\i<2 ^ 64)\/(-(2 ^ 64)<j/\j<2 ^ 64)
theorem Nr.ok {i j:Int} (h:Nr i j):IntMulOk i j:=by
 rcases h with⟨h1,h2⟩ | ⟨h1,h2⟩
 ·exact .of_left (intBits_le_64 h1 h2)
 ·exact .of_right (intBits_le_64 h1 h2)
theorem iP:OpR X (binaryOp .Add) (rI0 λi j=>.int (i+j)):=PX λ_ _ _ _ _ _ _ q=>add_int q
theorem G7:OpR X (binaryOp .Sub) (rI0 λi j=>.int (i - j)):=PX λ_ _ _ _ _ _ _ q=>sub_int q
theorem Cr:OpR X (binaryOp .Mult) (rI Nr λi j=>.int (i * j)):=opI λ_ _ _ _ _ _ _ hc q=>mul_int q hc.ok
theorem Eu:OpR X (binaryOp .FloorDiv) (rI RO λi j=>.int (i / j)):=opI λi j _ _ _ _ _ a q=>by
 have b:(0:Int)<j:=a.1;have c:j<1073741824:=a.2;exact floordiv_int (by lia) (by rw[Int.fdiv_eq_ediv_of_nonneg i (by lia)];exact q) (.inl (PyProof.noPylong_small (by lia)))
theorem qS:OpR X (binaryOp .Mod) (rI (λ_ j=>0<j) λi j=>.int (i % j)):=opI λi j _ _ _ _ _ a q=>by
 have b:(0:Int)<j:=a;exact mod_int' (by lia) (by rw[Int.fmod_eq_emod_of_nonneg i (by lia)];exact q)
theorem yK:OpR X (binaryOp .Pow) (rI Sx λi j=>.int (i ^ j.toNat)):=opI λ_ _ _ _ _ _ _ hc q=>pow_int_small hc.1 hc.2.1 hc.2.2 q
theorem unI {f:Xy->Sem Xy}{g:Int->Int}
  (a:∀(i:Int) (t:Tok) (s:Xx) (Q:Xy->Xx->Prop) (E:Xy->Xx->Prop),Q (.int (g i) s.toks) { s with toks:=s.toks+1 }->Zh (model X.prog X.w) X.A (f (.int i t)) Q E s) :
  UnR X f (rU λi=>.int (g i)):=by
 intro _ s _ H x v Q I b h;obtain⟨i,rfl,q⟩:=h;obtain⟨t,rfl⟩:=b;exact a i t s _ _ ⟨.int (g i),H,I.tok _,⟨_,rfl⟩,q⟩
theorem My:UnR X (unaryOp .USub) (rU λi=>.int (-i)):=unI λ_ _ _ _ _ q=>neg_int q
end
def Pd:V->V->Bool
 | .non,.non=>true | .non,.int _=>true | .int _,.non=>true | .non,.bl _=>true | .bl _,.non=>true | .non,.str _=>true | .str _,.non=>true
 | .int _,.int _=>true | .bl _,.bl _=>true | .str _,.str _=>true | .byt _,.byt _=>true
 | .int _,.str _=>true | .str _,.int _=>true | .bl _,.str _=>true | .str _,.bl _=>true
 | _,_=>false
def rEq:R2:=λx y H Q=>Pd x y=true/\Q (.bl (decide (x=y))) H
def rNe:R2:=λx y H Q=>Pd x y=true/\Q (.bl (!decide (x=y))) H
theorem Ej {i j:Int}:decide (V.int i=V.int j)=(i == j):=by
 rw[Va];simp
theorem G2 {i j:Bool}:decide (V.bl i=V.bl j)=(i == j):=by
 rw[Va];simp
theorem Er {i j:Str}:decide (V.str i=V.str j)=(i == j):=by
 rw[Va];simp
theorem Eb {i j:Array UInt8}:decide (V.byt i=V.byt j)=(i.toList == j.toList):=by
 rw[Va];cases i;cases j;simp
section
variable {a b c:Expr}{ta tb:TE}
theorem bF {Q:VK}{k k':Bool} (I:Inv X pins σ H s) (q:Q (.bl k) H) (e:k=k'):EP X pins σ Q (.bool k') s:=by
 subst e;exact⟨.bl k,H,I,rfl,q⟩
theorem fX:OpR X (compareOp .Eq) rEq:=by
 intro _ s _ H x y v u Q I d a h;obtain⟨c,q⟩:=h;cases x with
 | non=>
  cases d;cases y with
  | non=>cases a;exact PySem.EqNone.eq_none_none (bF I q (by simp))
  | bl j=>cases a;exact PySem.EqNone.eq_none_bool (bF I q (by simp))
  | int j=>obtain⟨b,rfl⟩:=a;exact PySem.EqNone.eq_none_int (bF I q (by simp))
  | str j=>obtain⟨b,rfl⟩:=a;exact PySem.EqNone.eq_none_str (bF I q (by simp))
  | _=>exact absurd (show false=true from c) UO
 | bl i=>
  cases d;cases y with
  | non=>cases a;exact PySem.EqNone.eq_bool_none (bF I q (by simp))
  | bl j=>cases a;exact eq_bool (bF I q G2)
  | str j=>obtain⟨b,rfl⟩:=a;exact PySem.EqMixed.eq_bool_str (bF I q (by simp))
  | _=>exact absurd (show false=true from c) UO
 | int i=>
  obtain⟨t,rfl⟩:=d;cases y with
  | non=>cases a;exact PySem.EqNone.eq_int_none (bF I q (by simp))
  | int j=>obtain⟨b,rfl⟩:=a;exact eq_int (bF I q Ej)
  | str j=>obtain⟨b,rfl⟩:=a;exact PySem.EqMixed.eq_int_str (bF I q (by simp))
  | _=>exact absurd (show false=true from c) UO
 | str i=>
  obtain⟨t,rfl⟩:=d;cases y with
  | non=>cases a;exact PySem.EqNone.eq_str_none (bF I q (by simp))
  | bl j=>cases a;exact PySem.EqMixed.eq_str_bool (bF I q (by simp))
  | int j=>obtain⟨b,rfl⟩:=a;exact PySem.EqMixed.eq_str_int (bF I q (by simp))
  | str j=>obtain⟨b,rfl⟩:=a;exact eq_str (bF I q Er)
  | _=>exact absurd (show false=true from c) UO
 | byt i=>
  obtain⟨t,rfl⟩:=d;cases y with
  | byt j=>obtain⟨b,rfl⟩:=a;exact W.eq_bytes (bF I q Eb)
  | _=>exact absurd (show false=true from c) UO
 | _=>cases y <;> exact absurd (show false=true from c) UO
theorem xa:OpR X (compareOp .NotEq) rNe:=by
 intro _ s _ H x y v u Q I d a h;obtain⟨c,q⟩:=h;cases x with
 | non=>
  cases d;cases y with
  | non=>cases a;exact PySem.EqNone.ne_none_none (bF I q (by simp))
  | bl j=>cases a;exact PySem.EqNone.ne_none_bool (bF I q (by simp))
  | int j=>obtain⟨b,rfl⟩:=a;exact PySem.EqNone.ne_none_int (bF I q (by simp))
  | str j=>obtain⟨b,rfl⟩:=a;exact PySem.EqNone.ne_none_str (bF I q (by simp))
  | _=>exact absurd (show false=true from c) UO
 | bl i=>
  cases d;cases y with
  | non=>cases a;exact PySem.EqNone.ne_bool_none (bF I q (by simp))
  | bl j=>cases a;exact ne_bool (bF I q (congrArg not G2))
  | str j=>obtain⟨b,rfl⟩:=a;exact PySem.EqMixed.ne_bool_str (bF I q (by simp))
  | _=>exact absurd (show false=true from c) UO
 | int i=>
  obtain⟨t,rfl⟩:=d;cases y with
  | non=>cases a;exact PySem.EqNone.ne_int_none (bF I q (by simp))
  | int j=>obtain⟨b,rfl⟩:=a;exact ne_int (bF I q (congrArg not Ej))
  | str j=>obtain⟨b,rfl⟩:=a;exact PySem.EqMixed.ne_int_str (bF I q (by simp))
  | _=>exact absurd (show false=true from c) UO
 | str i=>
  obtain⟨t,rfl⟩:=d;cases y with
  | non=>cases a;exact PySem.EqNone.ne_str_none (bF I q (by simp))
  | bl j=>cases a;exact PySem.EqMixed.ne_str_bool (bF I q (by simp))
  | int j=>obtain⟨b,rfl⟩:=a;exact PySem.EqMixed.ne_str_int (bF I q (by simp))
  | str j=>obtain⟨b,rfl⟩:=a;exact ne_str (bF I q (congrArg not Er))
  | _=>exact absurd (show false=true from c) UO
 | byt i=>
  obtain⟨t,rfl⟩:=d;cases y with
  | byt j=>obtain⟨b,rfl⟩:=a;exact W.ne_bytes (bF I q (congrArg not Eb))
  | _=>exact absurd (show false=true from c) UO
 | _=>cases y <;> exact absurd (show false=true from c) UO
theorem vJ:OpR X (compareOp .Lt) (rI0 λi j=>.bl (decide (i<j))):=K3 λ_ _ _ _ _ _ _ q=>lt_int q
theorem xh:OpR X (compareOp .LtE) (rI0 λi j=>.bl (decide (i<=j))):=K3 λ_ _ _ _ _ _ _ q=>le_int q
theorem Mt:OpR X (compareOp .Gt) (rI0 λi j=>.bl (decide (j<i))):=K3 λ_ _ _ _ _ _ _ q=>gt_int q
theorem DX:OpR X (compareOp .GtE) (rI0 λi j=>.bl (decide (j<=i))):=K3 λ_ _ _ _ _ _ _ q=>ge_int q
theorem Dh:OpR X (compareOp .Is) (λx y H Q=>y = .non/\Q (.bl (decide (x = .non))) H):=by
 intro _ s _ H x y v u Q I a b h;obtain⟨rfl,q⟩:=h;cases b;refine is_none_gen (bF I q ?_);cases x <;> first
  | (cases a;rfl)
  | (obtain⟨t,rfl⟩:=a;rfl)
theorem aR (b:Expr) {op:CmpOp} (h:op ≠ .In:=by decide) (h2:op ≠ .NotIn:=by decide):behindInMarks op b=false:=by
 have a:(op == CmpOp.In)=false:=by cases op <;> first | rfl | exact absurd rfl h
 have e2:(op == CmpOp.NotIn)=false:=by cases op <;> first | rfl | exact absurd rfl h2
 cases b <;> simp[behindInMarks,a,e2]
theorem cM {op:CmpOp}{r:R2} (l:OpR X (compareOp op) r) (n:PE X a ta) (f:PE X b tb) (i:behindInMarks op b=false):PE X (.Compare a [op] [b] pos) (tOp r ta tb):=by
 intro c s k H Q I h;exact wpAny_Compare1 (Nx n f I h λv u m x y d j g e q=>l c m k d x y v u Q j g e q) i
def wO (t:TE):TT:=λσ H Q=>t σ H λx H'=>∃k,x = .bl k/\Q k H'
theorem aO {op:CmpOp}{r:R2} (C:OpR X (compareOp op) r) (F:PE X a ta) (i:PE X b tb) (l:behindInMarks op b=false):PT X (.Compare a [op] [b] pos) (wO (tOp r ta tb)):=by
 intro d s f H Q I h;refine wpAny_isTrue_Compare1 (thn (F d s f H _ I h) λv p ⟨x,t,j,B,E⟩=>thn (i d p f t _ j E) λu D ⟨y,g,o,m,A⟩=>
  thn (C d D f g x y v u _ o B m A) λc _ ⟨z,q,w,n,k,e,G⟩=>?_) l
 subst e;cases n;exact wpAny_truthy_bool ⟨q,w,G⟩
def y9 (r r':R2) (ta tb tc:TE):TE:=λσ H Q=>ta σ H λx H1=>tb σ H1 λy H2=>r x y H2 λz H3=>∃k,z = .bl k /\
 (if k=true then tc σ H3 λw' H4=>r' y w' H4 Q else Q (.bl false) H3)
theorem Az {op g:CmpOp}{r l:R2} (S:OpR X (compareOp op) r) (j:OpR X (compareOp g) l) (W:PE X a ta) (t:PE X b tb) (M:PE X c tc)
  (A:lastMarks [op,g] [b,c]=false:=by with_unfolding_all rfl):PE X (.Compare a [op,g] [b,c] pos) (y9 r l ta tb tc):=by
 intro f s i H Q I h;refine Compare_chain (thn (W f s i H _ I h) λv F ⟨x,J,w,O,V⟩=>chain_link (thn (t f F i J _ w V) λu T ⟨y,q,C,m,N⟩=>
  thn (S f T i q x y v u _ C O m N) λd P ⟨z,n,o,B,k,e,p⟩=>?_)) A
 subst e;cases B;refine wpAny_truthy_bool ?_;cases k with
 | false=>exact ite_ff ⟨.bl false,n,o,rfl,p⟩
 | true=>exact ite_tt (chain_last (thn (M f P i n _ o p) λG D ⟨K,E,R,U,L⟩=>j f D i E y K u G Q R m U L))
theorem vA {op g:CmpOp}{r l:R2} (V:OpR X (compareOp op) r) (j:OpR X (compareOp g) l) (ha:PE X a ta) (t:PE X b tb) (P:PE X c tc)
  (A:lastMarks [op,g] [b,c]=false:=by with_unfolding_all rfl):PT X (.Compare a [op,g] [b,c] pos) (wO (y9 r l ta tb tc)):=by
 intro f s i H Q I h;refine isTrue_chain (thn (ha f s i H _ I h) λv G ⟨x,L,w,S,q1⟩=>test_link (thn (t f G i L _ w q1) λu Z ⟨y,q,C,m,R⟩=>
  thn (V f Z i q x y v u _ C S m R) λd T ⟨z,n,o,B,k,e,p⟩=>?_)) A
 subst e;cases B;refine wpAny_truthy_bool ?_;cases k with
 | false=>
  obtain⟨_,Y,O⟩:=p;cases Y;exact ite_ff ⟨n,o,O⟩
 | true=>
  refine ite_tt (test_last (thn (P f T i n _ o p) λJ D ⟨M,F,U,r4,N⟩=>thn (j f D i F y M u J _ U m r4 N) λ_ _ ⟨_,H5,W,K,_,e2,E⟩=>?_));subst e2;cases K;exact wpAny_truthy_bool ⟨H5,W,E⟩
def Qg (K:Xz) (x:V) (H:Hp) (k:Bool):Prop:=
 match x with
 | .non=>k=false
 | .bl b=>k=b
 | .int i=>k=(i != 0)
 | .str y=>y.length<=Zg/\k=((y.length:Int) != 0)
 | .byt y=>y.size<=Zg/\k=((y.size:Int) != 0)
 | .ref p=>(∃xs,SqL K H p xs/\k = !xs.isEmpty)\/(∃xs,SqT K H p xs/\k = !xs.isEmpty)\/∃kvs,H p=some (.dK kvs)/\k = !kvs.isEmpty
 | _=>False
theorem B7 {kvs:List (κ×V)}{vs:List (κ×Xy)} (r:KV kvs vs):(!vs.isEmpty) = !kvs.isEmpty:=by
 cases r <;> rfl
theorem uT {its:WF} (r:aQ xs its):(!its.toArray.isEmpty) = !xs.isEmpty:=by
 cases r <;> simp
theorem pe:(Zg:Nat)<2 ^ 63:=by rw[sizeLine_eq];decide
theorem NH:SI X (λx H Q=>∃k,Qg X.K x H k/\Q k H):=by
 intro _ s _ H x v Q I f h;obtain⟨k,e,q⟩:=h;have z:=pe;have u:Zg=16777216:=sizeLine_eq;cases x with
 | non=>
  cases f;have a:k=false:=e;subst a;exact truthy_none ⟨H,I,q⟩
 | bl b=>
  cases f;have a:k=b:=e;subst a;exact wpAny_truthy_bool ⟨H,I,q⟩
 | int i=>
  obtain⟨t,rfl⟩:=f;have a:k=(i != 0):=e;subst a;exact PySem.P.truthy_int ⟨H,I,q⟩
 | str y=>
  obtain⟨t,rfl⟩:=f;obtain⟨o,a⟩:y.length<=Zg/\k=((y.length:Int) != 0):=e;subst a;exact PySem.P.truthy_str (by lia) ⟨H,I.tok _,q⟩
 | byt y=>
  obtain⟨t,rfl⟩:=f;obtain⟨o,a⟩:y.size<=Zg/\k=((y.size:Int) != 0):=e;subst a;exact W.truthy_bytes (by lia) ⟨H,I.tok _,q⟩
 | ref p=>
  cases f;have a:(∃d,SqL X.K H p d/\k = !d.isEmpty)\/(∃d,SqT X.K H p d/\k = !d.isEmpty)\/∃kvs,H p=some (.dK kvs)/\k = !kvs.isEmpty:=e;rcases a with⟨d,g,a⟩ | ⟨d,g,a⟩ | ⟨kvs,g,a⟩
  ·subst a;obtain⟨l,r,j,n⟩:=I.list g;have c:=r.length;exact wpAny_truthy_list j.isList (by simp only[UN];lia) ⟨H,I.tok _,by rw[uT r];exact q⟩
  ·subst a;obtain⟨l,r,j,n⟩:=I.tuple g;have c:=r.length;exact truthy_tuple j (by simp only[UN];lia) ⟨H,I.tok _,by rw[uT r];exact q⟩
  ·subst a;obtain⟨n,hS,vs,r,m⟩:kvs.length<=Zg/\(p == sysModules)=false/\∃vs,KV kvs vs/\s.heap.DictOf (a9 X.prog X.w) p vs:=I.hok p _ g;have c:kvs.length=vs.length:=Paired.length r;exact wpAny_truthy_dict hS m (by lia) ⟨H,I.tok _,by rw[B7 r];exact q⟩
 | _=>exact(show False from e).elim
theorem vf (j:PE X a ta) (d:∀whole,isTrue a X.env whole=(do let v <-whole;standAt a.pos;holding [v] (truthy v))) :
  PT X a (λσ H Q=>ta σ H λx H'=>∃k,Qg X.K x H' k/\Q k H'):=by
 intro b s σ H Q I h;exact isTrue_plain (thn (j b s σ H _ I h) λv e ⟨x,c,i,f,g⟩=>NH b e σ c x v Q i f g) (d _)
theorem vals1 {x:V} (r:aQ [x] us):∃u,us=[u]/\RelV x u:=by
 cases r with
 | cons r1 r2=>cases r2;exact⟨_,rfl,r1⟩
theorem vals2 {x y:V} (r:aQ [x,y] us):∃u w',us=[u,w']/\RelV x u/\RelV y w':=by
 cases r with
 | cons r1 r2=>
  cases r2 with
  | cons r3 r4=>cases r4;exact⟨_,_,rfl,r1,r3⟩
theorem xW:jo X (.type "int") (λxs H Q=>(∃i,xs=[.int i]/\Q (.int i) H)\/∃k,xs=[.bl k]/\Q (.int (if k then 1 else 0)) H):=by
 intro _ s _ H xs _ Q I r h;rcases h with⟨i,rfl,q⟩ | ⟨k,rfl,q⟩
 ·obtain⟨u,rfl,t,rfl⟩:=vals1 r;exact call_int_int ⟨.int i,H,I,⟨_,rfl⟩,q⟩
 ·obtain⟨u,rfl,a⟩:=vals1 r;cases a;exact call_int_bool ⟨.int (if k then 1 else 0),H,I.tok _,⟨_,rfl⟩,q⟩
end
structure CV (h:Heap) (x dx C:Za) (mA:Str->Option Xy):Prop where
 obj:h.get? x=some (YK C dx)
 ns:h.Ns1 dx mA
 ne:dx≠x
theorem F1 (n:h.Ns1 dx mA):∃od,h.get? dx=some od/\∀name,W.lookIn name od=some (mA name):=by
 obtain⟨o,b,_,k,c,g,_,j⟩:=n;refine⟨o,k,λname=>?_⟩;have e:=j name;unfold nsFind findBy at e;rw[<-Array.find?_toList]at e;unfold W.lookIn;rw[c];dsimp only
 split
 ·rename_i y q;rw[q]at e;exact congrArg some e
 ·rename_i q;rw[q]at e;have a:b.toList.any (·.refKey)=false:=by
   rw[Wy];intro y i;obtain⟨z,t,f⟩:=g y (Array.mem_toList_iff.mp i);simp[DictEntry.refKey,f]
  have d:¬ b.toList.any (·.refKey)=true:=by rw[a];exact UO
  rw[Zo d];exact congrArg some e
theorem CV.look {x:Za} (I:CV h x dx C mA):∃od,W.InstAt h x (YK C dx) C (some od)/\∀name,W.lookIn name od=some (mA name):=
 let ⟨od,ho,hl⟩:=F1 I.ns
 ⟨od,⟨I.obj,rfl,rfl,ho⟩,hl⟩
section
variable {x:Za}{v:Xy}
theorem get_map {a:Bool} (X:K.In s.heap) (I:CV s.heap x dx C mA) (d:W.plainGet K C name=true) (c:W.hasDictIn K C=true)
  (g:Yp K (.ref C) name=some none) (f:mA name=some v) (b:W.handedIn v=true) (h:Q v { s with toks:=s.toks+1 }) :
  Zh (model prog w) A (getAttr (.ref x) name a) Q E s:=by
 obtain⟨_,J,e⟩:=I.look;exact W.get_value X J (W.plainGet_of d).1 (W.findObj_own c g rfl (by rw[e,f])) b h
theorem G0 {pl:Sem Bool}{Q:Xy×WF->Xx->Prop} (X:K.In s.heap) (I:CV s.heap x dx C mA) (a:W.plainGet K C name=true)
  (e:Yp K (.ref C) name=some (some (.ref f))) (b:W.isFn K (.ref f)=true) (d:mA name=none) (h:Q (.ref f,[.ref x]) s) :
  Zh (model prog w) A (getMethod (.ref x) name pl) Q E s:=by
 obtain⟨g,J,c⟩:=I.look;exact W.method_fn X J (W.plainGet_of a).1 (W.plainGet_of a).2 e (beq_iff_eq.mp b) (by show(W.lookIn name g).map (·.isSome)=some false;rw[c,d];rfl) h
theorem KY {Q:Unit->Xx->Prop} (X:K.In s.heap) (I:CV s.heap x dx C mA)
  (i:Yp K (.ref C) "__setattr__" = some (some (.builtin "object.__setattr__"))) (m:W.plainOver K C=true) (j:W.takerIn K C name=some none) (k:W.hasDictIn K C=true)
  (l:PySem.Within mA ns) (hsz:ns.length<=Zg)
  (h:∀h',CV h' x dx C (λy=>if y=name then some v else mA y)->YI dx s.heap h'->Q () { s with heap:=h',toks:=s.toks+2 }) :
  Zh (model prog w) A (setAttr (.ref x) name v) Q E s:=by
 obtain⟨_,J,_⟩:=I.look;refine W.set_plain X J i (W.osa_open (s:={ s with toks:=s.toks+1 }) (r:=none) X J m j λb=>?_);obtain⟨_,n,g⟩:=W.any_some k;have o:s.heap.get? x=some ⟨.ref C,some dx,.plain,#[]⟩:=I.obj;refine Xw (Xv (Xw (Xw (wpAny_loadPart o (Xw (W.Looks.here (s:={ s with toks:=s.toks+1 }) (W.looks_clsIn X n) ?_))))));rw[g];refine Xv (a:=some dx) (Xw (Xv (Xw ?_)));refine wpAny_nsSet1 (s:={ s with toks:=s.toks+1 }) I.ns λh' d c=>?_;obtain⟨oD,_,_,hoD,f,e⟩:=d.count (PySem.Within.cons name v l);refine Xw (wpAny_lookBehind hoD (by rw[f];exact pastItsLine_dict (UK e (by rw[U1];lia))) ?_);exact Xv (h _ ⟨(c.2 _ (YR I.ne)).trans I.obj,d,I.ne⟩ c)
theorem Ig {b:List (Str×Xy)} (X:K.In s.heap) (e:W.makesIn K C=true)
  (hi:Yp K (.ref C) "__init__" = some (some (.ref f))) (c:W.typeIn K (.ref f)=some (.type "function"))
  (h:codeAny (model prog w) (A.under (.builtin "type.__call__" ⟨.ref C::vs,b⟩)) (.call (.ref f) ⟨.ref (s.heap.objs.size+1)::vs,b⟩) (W.InitBack (s.heap.objs.size+1) R)
   { s with heap:=(s.heap.push Yz).push (YK C s.heap.objs.size) }) :
  codeAny (model prog w) A (.call (.ref C) ⟨vs,b⟩) R s:=by
 obtain⟨_,g,d,t,_⟩:=s;exact W.make_core (W.makes_of X e) (W.looks_findIn X hi) (λa=>W.bind_fn X a c) (.inl rfl) h
end
def n6 (f:Str) (v:V):List (Str×V)->List (Str×V)
 | []=>[(f,v)]
 | (g,x)::r=>if g=f then(g,v)::r else(g,x)::n6 f v r
theorem tm (f g:Str) (v:V):∀fs:List (Str×V),(n6 f v fs).lookup g=if g=f then some v else fs.lookup g
 | []=>by
  show YT g [(f,v)]=_;by_cases h:g=f
  ·have a:(g == f)=true:=beq_iff_eq.mpr h;simp only[YT,a,Zn h]
  ·have a:(g == f)=false:=beq_eq_false_iff_ne.mpr h;simp only[YT,a,Zo h]
 | (k,x)::r=>by
  have c:=tm f g v r;rw[show n6 f v ((k,x)::r)=(if k=f then(k,v)::r else(k,x)::n6 f v r)from rfl];by_cases b:k=f
  ·rw[Zn b];by_cases h:g=k
   ·have a:(g == k)=true:=beq_iff_eq.mpr h;simp only[YT,a,Zn (h.trans b)]
   ·have a:(g == k)=false:=beq_eq_false_iff_ne.mpr h;simp only[YT,a,Zo (λe:g=f=>h (e.trans b.symm))]
  ·rw[Zo b];by_cases h:g=k
   ·have a:(g == k)=true:=beq_iff_eq.mpr h;simp only[YT,a,Zo (λe:g=f=>b (h.symm.trans e))]
   ·have a:(g == k)=false:=beq_eq_false_iff_ne.mpr h;simp only[YT,a];exact c
theorem rJ (f:Str) (v:V):∀fs:List (Str×V),f∈(n6 f v fs).map (·.1)/\∀g,g∈fs.map (·.1)->g∈(n6 f v fs).map (·.1)
 | []=>⟨by simp[n6],λg h=>by simp at h⟩
 | (k,x)::r=>by
  obtain⟨c,b⟩:=rJ f v r;rw[show n6 f v ((k,x)::r)=(if k=f then(k,v)::r else(k,x)::n6 f v r)from rfl];by_cases a:k=f
  ·rw[Zn a];subst a;exact⟨by simp,λg h=>by simpa using h⟩
  ·rw[Zo a];refine⟨?_,λg h=>?_⟩
   ·rw[UW];exact UJ _ c
   ·rw[UW]at h ⊢;rcases UR.mp h with e | e
    ·exact UR.mpr (.inl e)
    ·exact UJ _ (b g e)
theorem sf (f:Str) (v:V):∀fs:List (Str×V),(n6 f v fs).length<=fs.length+1
 | []=>by simp[n6]
 | (k,x)::r=>by
  have b:=sf f v r;rw[show n6 f v ((k,x)::r)=(if k=f then(k,v)::r else(k,x)::n6 f v r)from rfl];by_cases a:k=f
  ·rw[Zn a,U1,U1];lia
  ·rw[Zo a,U1,U1];lia
theorem jZ.some_of {o:Option Xy} (r:jZ (some v) o):∃u,o=some u/\RelV v u:=by
 cases o with
 | none=>exact(show False from r).elim
 | some u=>exact⟨u,rfl,r⟩
theorem jZ.none_of {o:Option Xy} (r:jZ none o):o=none:=by
 cases o with
 | none=>rfl
 | some u=>exact(show False from r).elim
theorem Fz (r:RelV v u):W.handedIn u=true:=by
 cases v with
 | non=>cases(show u=Value.none from r);rfl
 | bl b=>cases(show u=Value.bool b from r);rfl
 | int i=>obtain⟨t,e⟩:=(show∃t,u=Value.int i t from r);cases e;rfl
 | str x=>obtain⟨t,e⟩:=(show∃t,u=Value.str x t from r);cases e;rfl
 | byt b=>obtain⟨t,e⟩:=(show∃t,u=Value.bytes b t from r);cases e;rfl
 | flt b=>obtain⟨t,e⟩:=(show∃t,u=Value.float b t from r);cases e;rfl
 | ref a=>cases(show u=Value.ref a from r);rfl
 | ty n=>cases(show u=Value.type n from r);rfl
section
variable {fs:List (Str×V)}
theorem tX (b:HOk P w H h) (e:H a=some (.ins C dx fs)):∃mA,CV h a dx C mA/\(∀f,jZ (fs.lookup f) (mA f))/\PySem.Within mA (fs.map (·.1))/\fs.length<=1000/\H dx=some (.own a):=by
 obtain⟨d,z,c,g,mA,n,r,q⟩:=(show cg P w H h a (.ins C dx fs)from b a _ e);exact⟨mA,⟨g,n,c⟩,r,q,z,d⟩
end
structure Cls (K:Xz) (C:Za):Prop where
 pg:W.plainGet K C Yh=true
 hd:W.hasDictIn K C=true
 po:W.plainOver K C=true
 sa:Yp K (.ref C) "__setattr__" = some (some (.builtin "object.__setattr__"))
theorem Cls.get (c:Cls K C) (f:Str):W.plainGet K C f=true:=c.pg
def b6 (K:Xz) (C:Za) (f:Str):Prop:=Yp K (.ref C) f=some none
theorem b6.OH {f:Str} (n:b6 K C f):W.takerIn K C f=some none:=by
 unfold W.takerIn;rw[show Yp K (.ref C) f=some none from n];rfl
structure Con (K:Xz) (C:Za) (f:Str) (v:V) (u:Xy):Prop where
 at_:Yp K (.ref C) f=some (some u)
 rel:RelV v u
 get:W.specialIn K u "__get__" = some none
 cp:W.copiedNames.contains f=false
structure lW (K:Xz) (C:Za) (m:Str) (f:Za):Prop where
 at_:Yp K (.ref C) m=some (some (.ref f))
 fn:W.isFn K (.ref f)=true
 kp:YF K (.ref f)=true
section
variable {fs:List (Str×V)}{f:Str}
theorem CZ {b:Bool} (I:Inv X pins σ H s) (e:H a=some (.ins C dx fs)) (c:Cls X.K C) (n:b6 X.K C f) (l:fs.lookup f=some v)
  (h:∀u s',Inv X pins σ H s'->RelV v u->Q u s'):Zh (model X.prog X.w) A (getAttr (.ref a) f b) Q E s:=by
 obtain⟨g,O,r,_,_,_⟩:=tX I.hok e;obtain⟨u,i,d⟩:=jZ.some_of (v:=v) (o:=g f) (by rw[<-l];exact r f);exact get_map I.kIn O (c.get f) c.hd n i (Fz d) (h u _ (I.tok _) d)
theorem vc {m:Str}{g:Za}{pl:Sem Bool}{Q:Xy×WF->Xx->Prop} (I:Inv X pins σ H s) (e:H a=some (.ins C dx fs)) (c:Cls X.K C) (k:lW X.K C m g) (l:fs.lookup m=none)
  (h:Q (.ref g,[.ref a]) s):Zh (model X.prog X.w) A (getMethod (.ref a) m pl) Q E s:=by
 obtain⟨d,O,r,_,_,_⟩:=tX I.hok e;have b:d m=none:=jZ.none_of (by rw[<-l];exact r m);exact G0 I.kIn O (c.get m) k.at_ k.fn b h
theorem CJ {y:V}{Q:Unit->Xx->Prop} (I:Inv X pins σ H s) (e:H a=some (.ins C dx fs)) (c:Cls X.K C) (n:b6 X.K C f) (F:fs.length<1000) (t:RelV y u)
  (h:∀s',Inv X pins σ (upd H a (.ins C dx (n6 f y fs))) s'->Q () s'):Zh (model X.prog X.w) A (setAttr (.ref a) f u) Q E s:=by
 obtain⟨i,O,r,j,_,k⟩:=tX I.hok e;have B:(fs.map (·.1)).length<=Zg:=by rw[UA,sizeLine_eq];lia
 refine KY I.kIn O c.sa c.po n.OH c.hd j B λm d v=>h _ ?_;have l:∃o,m.get? dx=some o:=let ⟨o,_,_,e',_⟩:=d.ns;⟨o,e'⟩;refine I.write (x:=a) (e:=dx) (by rw[e];exact True.intro) (.inr k) (λb q p z=>(v.2 b p).trans z) l ?_;refine⟨by rw[ap O.ne];exact k,?_,O.ne,d.obj,_,d.ns,λg=>?_,λg D=>?_⟩
 ·have:=sf f y fs;lia
 ·show jZ ((n6 f y fs).lookup g) (if g=f then some u else i g);rw[tm];by_cases q:g=f
  ·rw[Zn q,Zn q];exact t
  ·rw[Zo q,Zo q];exact r g
 ·by_cases q:g=f
  ·rw[q];exact(rJ f y fs).1
  ·refine(rJ f y fs).2 g (j g λz=>D ?_);show(if g=f then some u else i g)=none;rw[Zo q];exact z
theorem Inv.made (I:Inv X pins σ H s):Inv X pins σ (upd (upd H s.heap.objs.size (.own (s.heap.objs.size+1))) (s.heap.objs.size+1) (.ins C s.heap.objs.size []))
  { s with heap:=(s.heap.push Yz).push (YK C s.heap.objs.size) }:=by
 have d:(s.heap.push Yz).get? s.heap.objs.size=some Yz:=Y3 s.heap rfl;have j:((s.heap.push Yz).push (YK C s.heap.objs.size)).get? (s.heap.objs.size+1)=some (YK C s.heap.objs.size):=by
  have:=Y3 (s.heap.push Yz) (o:=YK C s.heap.objs.size) rfl
  rwa [YZ]at this
 have g:(s.heap.push Yz).Ns s.heap.objs.size (λ_=>none):=⟨Yz,#[],_,d,rfl,(λe i=>absurd i (by simp)),λ_=>rfl⟩;have h:=I.laid (a:=s.heap.objs.size) (o:=.own (s.heap.objs.size+1)) (h':=s.heap.push Yz) (t':=s.toks) (λb u q=>Xu _ q) (UD _) ⟨_,d⟩;refine h.laid (a:=s.heap.objs.size+1) (o:=.ins C s.heap.objs.size []) (t':=s.toks) (λb u q=>Xu _ q) (W4 (YZ _ _)) ?_;have c:s.heap.objs.size≠s.heap.objs.size+1:=U2 (Wl _);refine⟨by rw[ap c,ab],UU _,c,j,λ_=>none,(Heap.Ns1.of_empty g).at λo q=>Xu _ q,λ_=>True.intro,λy f=>absurd rfl f⟩
theorem Kt {f:Str} (a:attributeBase e f env (eval e env)=eval e env)
  (h:Zh (model prog w) A (eval e env) (λo s₁=>Zh (model prog w) A (getAttr o f true) Q E s₁) E s):Zh (model prog w) A (eval (.Attribute e f pos) env) Q E s:=
 Attribute_any_ h (by rw[arm_eval_Attribute,a])
end
section
variable {o:Expr}{f:Str}{ta:TE}
end
section
variable {c:Xy}{b:Bool}
inductive qN (K:Xz) (H:Hp):V->Xy->Prop where
 | non:qN K H .non (.type "NoneType")
 | bl (x:Bool):qN K H (.bl x) (.type "bool")
 | int (i:Int):qN K H (.int i) (.type "int")
 | str (x:Str):qN K H (.str x) (.type "str")
 | flt (x:UInt64):qN K H (.flt x) (.type "float")
 | lst {a:Za}{xs:Uj} (e:H a=some (.lst xs)):qN K H (.ref a) (.type "list")
 | frz {a:Za}{o:Obj}{xs:Uj} (e:H a=some (.frz o (.lst xs))):qN K H (.ref a) (.type "list")
 | tup {a:Za}{xs:Uj} (e:H a=some (.tup xs)):qN K H (.ref a) (.type "tuple")
 | dK {a:Za}{kvs:List (Key×V)} (e:H a=some (.dK kvs)):qN K H (.ref a) (.type "dict")
 | dT {a:Za}{kvs:List (List Key×V)} (e:H a=some (.dT kvs)):qN K H (.ref a) (.type "dict")
 | ins {a C dx:Za}{fs:List (Str×V)} (e:H a=some (.ins C dx fs)) (cl:Cls K C) (ha:Yp K (.ref C) "__class__" = some (some (.builtin "object.__class__")))
   (hn:W.specialIn K (.builtin "object.__class__") "__get__" = some (some (.builtin "getset_descriptor.__get__"))) (htk:W.takesIn K (.builtin "object.__class__")=some true)
   (hm:W.mroIn K C (.type "object")=some true):qN K H (.ref a) (.ref C)
theorem EI {x:V}{t:Xy} (I:Inv X pins σ H s) (d:RelV x u) (ty:qN X.K H x t) (e:W.kitOne X.K t c=some b) (h:∀tk,Q (.bool b) { s with toks:=tk }) :
  Zh (model X.prog X.w) A (call (.builtin "isinstance") [u,c]) Q E s:=by
 cases ty with
 | non=>cases(show u=Value.none from d);exact Ys W.kitx_none I.kIn True.intro e (λz=>nomatch z) h
 | bl y=>cases(show u=Value.bool y from d);exact Ys W.kitx_bool I.kIn True.intro e (λz=>nomatch z) h
 | int i=>obtain⟨t,q⟩:=(show∃t,u=Value.int i t from d);cases q;exact Ys W.kitx_int I.kIn True.intro e (λz=>nomatch z) h
 | str y=>obtain⟨t,q⟩:=(show∃t,u=Value.str y t from d);cases q;exact Ys W.kitx_str I.kIn True.intro e (λz=>nomatch z) h
 | flt y=>obtain⟨t,q⟩:=(show∃t,u=Value.float y t from d);cases q;exact Ys W.kitx_float I.kIn True.intro e (λz=>nomatch z) h
 | @lst a g ea=>
  cases(show u=Value.ref a from d);obtain⟨_,_,n,_,f⟩:=(show cg X.prog X.w H s.heap a (.lst g)from I.hok a _ ea);exact Ys W.kitx_list I.kIn ⟨_,f,rfl⟩ e (λz=>nomatch z) h
 | @frz a ob g ea=>
  cases(show u=Value.ref a from d);obtain⟨_,_,_,n,_,f⟩:=(show cg X.prog X.w H s.heap a (.frz ob (.lst g))from I.hok a _ ea);exact Ys W.kitx_list I.kIn ⟨_,f,rfl⟩ e (λz=>nomatch z) h
 | @tup a g ea=>
  cases(show u=Value.ref a from d);obtain⟨_,_,_,p⟩:=(show cg X.prog X.w H s.heap a (.tup g)from I.hok a _ ea);obtain⟨o,f,j,_⟩:=p;exact Ys W.kitx_tuple I.kIn ⟨o,f,j⟩ e (λz=>nomatch z) h
 | @dK a kvs ea=>
  cases(show u=Value.ref a from d);obtain⟨_,_,_,_,p⟩:=(show cg X.prog X.w H s.heap a (.dK kvs)from I.hok a _ ea);obtain⟨o,k,l,f,j,_⟩:=p;exact Ys W.kitx_dict I.kIn ⟨o,f,j.1⟩ e (λz=>nomatch z) h
 | @dT a kvs ea=>
  cases(show u=Value.ref a from d);obtain⟨_,_,g,_,o,k,l,f,j,_⟩:=(show cg X.prog X.w H s.heap a (.dT kvs)from I.hok a _ ea);exact Ys W.kitx_dict I.kIn ⟨o,f,j.1⟩ e (λz=>nomatch z) h
 | @ins a C dx fs ea cl ha hn htk hm=>
  cases(show u=Value.ref a from d);obtain⟨_,O,_⟩:=tX I.hok ea;obtain⟨_,J,_⟩:=O.look;exact Ys (W.kitx_own (cl.get _) cl.hd ha hn htk hm) I.kIn J e (λz=>nomatch z) h
end
structure bM (k:Nat) (A:Zc):Prop where
 hd:A.handled=none
 dp:A.depth+3 * k+5<recursionLimit
 un:A.units+16 * k+200<cLine
 gd:A.guards=some []
theorem bM.mono {k:Nat} (r:bM k A) (h:j<=k):bM j A:=⟨r.hd,by have:=r.dp;lia,by have:=r.un;lia,r.gd⟩
theorem bM.deeper {k:Nat} (r:bM (k+1) A) (env:Env):bM k (A.deeper env):=
 ⟨r.hd,by have:=r.dp;show A.depth+1+3 * k+5<_;lia,by have:=r.un;show A.units+3+16 * k+200<_;lia,r.gd⟩
theorem bM.in1 {k:Nat} (r:bM (k+1) A):bM k A.in1:=
 ⟨r.hd,by have:=r.dp;show A.depth+3 * k+5<_;lia,by have:=r.un;show A.units+1+16 * k+200<_;lia,r.gd⟩
theorem Cj {a:List (Str×Xy)}:(A.under (.builtin "type.__call__" ⟨.ref C::us,a⟩)).depth=A.depth+1:=by
 first | rfl | simp[Around.under,Code.weight,Code.isCreation,Code.isGuard,Code.isCaller,Code.frames,Code.isFrame,guardIds]
theorem BX {a:List (Str×Xy)}:(A.under (.builtin "type.__call__" ⟨.ref C::us,a⟩)).units=A.units+1:=by
 first | rfl | simp[Around.under,Code.cUnits,Code.frames,Code.isFrame]
theorem zH {a:List (Str×Xy)}:(A.under (.builtin "type.__call__" ⟨.ref C::us,a⟩)).guards=A.guards:=by
 have h:(Code.builtin "type.__call__" ⟨.ref C::us,a⟩).guards=[]:=by rfl
 simp only[Around.under,h];cases A.guards <;> rfl
theorem bM.make {k:Nat} (r:bM (k+1) A) (C:Za) (us:WF) (a:List (Str×Xy)):bM k (A.under (.builtin "type.__call__" ⟨.ref C::us,a⟩)):=
 ⟨r.hd,by have:=r.dp;rw[Cj];lia,by have:=r.un;rw[BX];lia,by rw[zH];exact r.gd⟩
theorem bM.depth {k:Nat} (r:bM k A):A.depth<recursionLimit:=by have:=r.dp;lia
theorem bM.units {k:Nat} (r:bM k A):A.units+64<cLine:=by have:=r.un;lia
def Jp:TA:=λ_ H Q=>Q [] H
def PD (ta:TE) (tr:TA):TA:=λσ H Q=>ta σ H λx H1=>tr σ H1 λxs H2=>Q (x::xs) H2
section
variable {es:List Expr}
theorem ae:PA X [] Jp:=λ_ _ _ _ H Q I h=>YU ⟨[],H,I,.nil,h⟩
theorem aa (r:PE X e te) (p:PA X es t) (f:Zi (e::es) X.env=(false,eval e X.env)::Zi es X.env:=by rfl):PA X (e::es) (PD te t):=by
 intro b a s c H Q I h;rw[f];show Zh _ _ (spliced ((false,eval e X.env)::backTo b (Zi es X.env))) _ _ s;refine YD (thn (r a s c H _ I h) λu l ⟨x,m,g,o,q⟩=>?_);exact thn (p b a l c m _ g q) λ_ _ ⟨k,d,j,i,n⟩=>⟨x::k,d,j,.cons o i,n⟩
def SO (t:TA):TE:=λσ H Q=>t σ H λxs H1=>xs.length<=Zg/\∀p,H1 p=none->Q (.ref p) (upd H1 p (.tup xs))
def Oo (t:TA):TE:=λσ H Q=>t σ H λxs H1=>xs.length<=Zg/\∀p,H1 p=none->Q (.ref p) (upd H1 p (.lst xs))
theorem bZ {x1} (h:PA X es t):PE X (.Tuple es x1 pos) (SO t):=by
 intro a s k H Q I l;refine wpAny_Tuple_spliced (thn (h pos a s k H _ I l) λj c ⟨i,f,d,r,z,q⟩=>⟨by rw[<-r.length];exact z,?_⟩);have g:f c.heap.objs.size=none:=d.hok.fresh (UD _);refine⟨.ref c.heap.objs.size,upd f c.heap.objs.size (.tup i),d.laid (t':=c.toks) (λb u e=>Xu _ e) (UD _) ?_,rfl,q _ g⟩;exact⟨z,j,r,⟨_,Y3 _ rfl,rfl,_,rfl⟩⟩
theorem bz (h:PA X es t):PE X (.List es pos) (Oo t):=by
 intro a s k H Q I l;refine wpAny_List_spliced (thn (h pos a s k H _ I l) λj c ⟨i,f,d,r,z,q⟩=>⟨by rw[<-r.length];exact z,?_⟩);have g:f c.heap.objs.size=none:=d.hok.fresh (UD _);refine⟨.ref c.heap.objs.size,upd f c.heap.objs.size (.lst i),d.laid (t':=c.toks) (λb u e=>Xu _ e) (UD _) ?_,rfl,q _ g⟩;exact⟨z,j,0,r,Y3 _ rfl⟩
end
abbrev Sp:=Uj->Hp->VK->XK->Prop
end L2
variable {sp:L2.Sp}
namespace L2
open PySem PySem.Spec PyProof.Rows
abbrev CXT:=List Env->Hp->Xx->XK->Xy->Xx->Prop
structure uM (P:Zd) (w:Ze) (K:Xz) (mg:Str->Option Xy) (base:Heap) (A:Zc) (outer:List Env) (s:Xx) (H:Hp):Prop where
 frames:A.frames=some outer
 mod:Mod K mg base
 bs:∀b o,base.get? b=some o->s.heap.get? b=some o/\H b=none
 bsz:base.objs.size<=s.heap.objs.size
 qF:s.heap.FunFrames base outer
 frf:∀b∈frs outer,H b=none
 hok:HOk P w H s.heap
 bare:AllBare s.gens
def CE (outer:List Env) (P:Zd) (w:Ze) (H:Hp) (s:Xx) (Q:VK) (u:Xy) (s':Xx):Prop:=
 ∃v H',s'.os=s.os/\AllBare s'.gens/\Un (frs outer) [] H H' s.heap s'.heap/\HOk P w H' s'.heap/\RelV v u/\Q v H'
def CR (CX:CXT) (outer:List Env) (P:Zd) (w:Ze) (H:Hp) (s:Xx) (Q:VK) (E:XK) (r:Result) (s':Xx):Prop:=
 match r with
 | .ok (.ret u)=>CE outer P w H s Q u s'
 | .ok _=>False
 | .error e=>CX outer H s E e s'
structure aB (P:Zd) (w:Ze) (K:Xz) (mg:Str->Option Xy) (base:Heap) (CX:CXT) (k:Nat) (f:Za) (fd:Zb) (ps:Uq) (sp:Sp):Prop where
 len:∀vs H Q E,sp vs H Q E->vs.length=ps.length
 run:∀(A:Zc) (outer:List Env) (s:Xx) (H:Hp) (args:Args) (us:WF) (vs:Uj) (Q:VK) (E:XK),bM k A->uM P w K mg base A outer s H->BindsTo s fd args (ps.zip us)->aQ vs us->sp vs H Q E ->
  codeAny (model P w) A (.call (.ref f) args) (CR CX outer P w H s Q E) s
theorem aB.mono {CX:CXT}{k:Nat} (F:aB P w K mg base CX j f fd ps sp) (h:j<=k) :
  aB P w K mg base CX k f fd ps sp:=⟨F.len,λA a s H b c d Q E e=>F.run A a s H b c d Q E (e.mono h)⟩
theorem MC {CX:CXT}{k:Nat} (F:aB P w K mg base CX j f fd ps sp) (h:j<=k:=by decide):aB P w K mg base CX k f fd ps sp:=F.mono h
theorem uM.make (e:uM P w K mg base A outer s H) (C:Za) (us:WF) (a:List (Str×Xy)) :
  uM P w K mg base (A.under (.builtin "type.__call__" ⟨.ref C::us,a⟩)) outer s H:=⟨by first | exact e.frames | (simpa[Around.under,Code.envs,Code.isFrame,pushEnvs]using e.frames),e.mod,e.bs,e.bsz,e.qF,e.frf,e.hok,e.bare⟩
theorem uM.in1 (e:uM P w K mg base A outer s H) :
  uM P w K mg base A.in1 outer s H:=⟨e.frames,e.mod,e.bs,e.bsz,e.qF,e.frf,e.hok,e.bare⟩
theorem Inv.Gq (I:Inv X pins σ H s):uM X.prog X.w X.K X.mg X.base X.A X.stack s H:=
 ⟨I.ok.frames,I.ok.mod,I.bs,UK I.ok.bsz I.sz,I.stack,I.DH,I.hok,I.bare⟩
theorem Inv.after {Q:VK} (I:Inv X pins σ H s) (h:CE X.stack X.prog X.w H s Q u s'):EP X pins σ Q u s':=by
 obtain⟨v,f,k,a,i,e,r,q⟩:=h;obtain⟨j,g,d,t,c⟩:=s';obtain rfl:c = s.os:=k;exact⟨v,f,I.call (h':=j) (g':=g) (d':=d) (t':=t) (ch:=[]) i e a (λb z=>absurd z (by simp)),r,q⟩
def OO (sp:Sp) (dvs:Uj) (E:XK) (t:TA):TE:=λσ H Q=>t σ H λvs H1=>sp (vs++dvs) H1 Q E
def LY (C:Za) (m:Str) (sp:Sp) (dvs:Uj) (E:XK) (ta:TE) (t:TA):TE:=λσ H Q=>ta σ H λx H1=>∃a dx fs,x = .ref a/\H1 a=some (.ins C dx fs)/\fs.lookup m=none /\
 t σ H1 λvs H2=>sp (x::(vs++dvs)) H2 Q E
def Mr (C:Za) (sp:Sp) (dvs:Uj) (E:XK) (t:TA):TE:=λσ H Q=>t σ H λvs H1=>∀x dx,H1 x=none->H1 dx=none->dx≠x ->
 sp (.ref x::(vs++dvs)) (upd (upd H1 dx (.own x)) x (.ins C dx [])) (λv H2=>v = .non/\Q (.ref x) H2) E
def Binds (K:Xz) (fd:Zb) (ps:Uq) (ds:WF):Prop:=
 ∀(s:Xx) (us:WF),K.In s.heap->(us++ds).length=ps.length->BindsTo s fd ⟨us,[]⟩ (ps.zip (us++ds))
theorem Binds.all (h:∀us:WF,us.length=ps.length->bindArgs fd ⟨us,[]⟩=pure (ps.zip us)):Binds K fd ps []:=λs us _ hl=>by
 rw[Vd]at hl ⊢;exact .of_eq (h us hl)
def my (CX:CXT) (X:Cx) (E:XK):Prop:=∀(pins:List (Za×Obj)) (σ:St) (H:Hp) (s:Xx) (e:Xy) (s':Xx),Inv X pins σ H s->CX X.stack H s E e s'->X.xe e s'
section
variable {CX:CXT}{k:Nat}{dvs:Uj}{ds:WF}{E:XK}{m:Str}{p:Pos}{o:Expr}{es:List Expr}{ta:TE}
theorem Cn {Q:VK}{vs:Uj} (F:aB X.prog X.w X.K X.mg X.base CX k f fd ps sp) (l:bM k X.A) (g:Binds X.K fd ps ds) (d:aQ dvs ds) (hx:my CX X E)
  (I:Inv X pins σ H s) (r:aQ vs us) (h:sp (vs++dvs) H Q E):Zh (model X.prog X.w) X.A (call (.ref f) us) (EP X pins σ Q) X.xe s:=by
 have b:aQ (vs++dvs) (us++ds):=r.append d;have c:(us++ds).length=ps.length:=by rw[<-b.length];exact F.len _ _ _ _ h
 refine wpAny_call (codeAny_mono (F.run X.A X.stack s H ⟨us,[]⟩ (us++ds) (vs++dvs) Q E l I.Gq (g s us I.kIn c) b h) λr j a=>?_);cases r with
 | error e=>exact hx pins σ H s e j I a
 | ok i=>
  cases i with
  | ret u=>exact I.after a
  | next=>exact False.elim a
  | brk=>exact False.elim a
  | cont=>exact False.elim a
theorem av (F:aB X.prog X.w X.K X.mg X.base CX k f fd ps sp) (o:bM k X.A) (u:Gl X x) (m:X.mg x=some (.ref f)) (i:YF X.K (.ref f)=true) (j:Binds X.K fd ps ds) (g:aQ dvs ds) (hx:my CX X E)
  (v:PA X (e::es) t) (b:(x == ("__debug__" : Str))=false:=by decide) (l:Zi (e::es) X.env=(false,eval e X.env)::Zi es X.env:=by rfl) (c:(backTo pos (Zi es X.env)).any (·.1)=false:=by rfl) :
  PE X (.Call (.Name x p) (e::es) [] pos) (OO sp dvs E t):=by
 intro a s n H Q I h;refine wpAny_Call_Name_kw (kC I u m ?_ b);refine W.callWith_K (h₀:=X.base) I.ok.mod.kin i (thn (v pos a s n H _ I h) λ_ _ ⟨_,_,d,r,q⟩=>⟨d.kIn,?_⟩) l c;exact Cn F o j g hx d r q
theorem d8 {pl:Sem Bool} (B:PE X o ta) (c:Cls X.K C) (j:lW X.K C m f) (F:aB X.prog X.w X.K X.mg X.base CX k f fd ps sp) (O:bM k X.A) (y:Binds X.K fd ps ds) (v:aQ dvs ds) (hx:my CX X E) (P:PA X (e::es) t)
  (d:Zi (e::es) X.env=(false,eval e X.env)::Zi es X.env:=by rfl) (g:(backTo pos (Zi es X.env)).any (·.1)=false:=by rfl)
  (z:eval (.Call (.Attribute o m apos) (e::es) [] pos) X.env=(do
   let ov <-eval o X.env
   standAt apos.atName
   let (f,first) <-holding [ov] (getMethod ov m pl)
   callWith pos f first (backTo pos (Zi (e::es) X.env)) (backToKw pos (keywordEach [] X.env))):=by rfl) :
  PE X (.Call (.Attribute o m apos) (e::es) [] pos) (LY C m sp dvs E ta t):=by
 intro b s p H Q I h;refine W.methodCall_KW (pl:=pl) (thn (B b s p H _ I h) λu G ⟨x,M,i,D,a,_,_,L,J,l,q⟩=>?_) z;subst L;obtain rfl:u=Value.ref a:=D;refine vc i J c j l ?_;refine W.callWith_K (first:=[.ref a]) (h₀:=X.base) I.ok.mod.kin j.kp (thn (P pos b G p M _ i q) λus _ ⟨vs,_,n,r,N⟩=>⟨n.kIn,?_⟩) d g;exact Cn (us:=.ref a::us) (vs:=.ref a::vs) F O y v hx n (.cons rfl r) N
theorem dY {pl:Sem Bool} (n:PE X o ta) (c:Cls X.K C) (e:lW X.K C m f) (F:aB X.prog X.w X.K X.mg X.base CX k f fd ps sp) (y:bM k X.A) (i:Binds X.K fd ps ds) (g:aQ dvs ds) (hx:my CX X E)
  (j:eval (.Call (.Attribute o m apos) [] [] pos) X.env=(do
   let ov <-eval o X.env
   standAt apos.atName
   let (f,first) <-holding [ov] (getMethod ov m pl)
   callWith pos f first (backTo pos (Zi [] X.env)) (backToKw pos (keywordEach [] X.env))):=by rfl) :
  PE X (.Call (.Attribute o m apos) [] [] pos) (LY C m sp dvs E ta Jp):=by
 intro b s v H Q I h;refine W.methodCall_KW (pl:=pl) (thn (n b s v H _ I h) λu _ ⟨x,_,d,p,a,_,_,t,r,l,q⟩=>?_) j;subst t;obtain rfl:u=Value.ref a:=p;refine vc d r c e l ?_;exact W.callWith_K0 (first:=[.ref a]) d.kIn e.kp (Cn (us:=[.ref a]) (vs:=[.ref a]) F y i g hx d (.cons rfl .nil) q)
structure Mk (K:Xz) (C f:Za):Prop where
 makes:W.makesIn K C=true
 init:Yp K (.ref C) "__init__" = some (some (.ref f))
 fn:W.isFn K (.ref f)=true
 kp:YF K (.ref C)=true
theorem Bm {Q:VK}{vs:Uj} (M:Mk X.K C f) (F:aB X.prog X.w X.K X.mg X.base CX k f fd ps sp) (q:bM (k+1) X.A) (i:Binds X.K fd ps ds) (g:aQ dvs ds)
  (hx:my CX X E) (I:Inv X pins σ H s) (r:aQ vs us)
  (h:∀x dx,H x=none->H dx=none->dx≠x->sp (.ref x::(vs++dvs)) (upd (upd H dx (.own x)) x (.ins C dx [])) (λv H2=>v = .non/\Q (.ref x) H2) E) :
  Zh (model X.prog X.w) X.A (call (.ref C) us) (EP X pins σ Q) X.xe s:=by
 have d:=h (s.heap.objs.size+1) s.heap.objs.size (I.hok.fresh (VX _)) (I.hok.fresh (UD _)) (U2 (Wl _));have b:=Inv.made (C:=C) I;have c:aQ (V.ref (s.heap.objs.size+1)::(vs++dvs)) (Value.ref (s.heap.objs.size+1)::(us++ds)):=.cons rfl (r.append g);have m:(Value.ref (s.heap.objs.size+1)::us++ds).length=ps.length:=by
  have e:=c.length;rw[F.len _ _ _ _ d]at e;exact e.symm
 refine wpAny_call (Ig (f:=f) I.kIn M.makes M.init (beq_iff_eq.mp M.fn) (codeAny_mono (F.run _ X.stack _ _ ⟨Value.ref (s.heap.objs.size+1)::us,[]⟩ (Value.ref (s.heap.objs.size+1)::(us++ds)) _ _ E (q.make C us [])
  (b.Gq.make C us []) (i _ (Value.ref (s.heap.objs.size+1)::us) b.kIn m) c d) λr y a=>?_))
 cases r with
 | error e=>exact hx pins σ _ _ e y b a
 | ok o=>
  cases o with
  | ret u=>
   obtain⟨v,l,p,j,n,t⟩:=b.after a;subst n;exact⟨j,⟨V.ref (s.heap.objs.size+1),l,p,rfl,t⟩⟩
  | next=>exact False.elim a
  | brk=>exact False.elim a
  | cont=>exact False.elim a
theorem zh (M:Mk X.K C f) (F:aB X.prog X.w X.K X.mg X.base CX k f fd ps sp) (n:bM (k+1) X.A) (o:Gl X x) (l:X.mg x=some (.ref C)) (i:Binds X.K fd ps ds) (g:aQ dvs ds) (hx:my CX X E)
  (u:PA X (e::es) t) (b:(x == ("__debug__" : Str))=false:=by decide) (j:Zi (e::es) X.env=(false,eval e X.env)::Zi es X.env:=by rfl) (c:(backTo pos (Zi es X.env)).any (·.1)=false:=by rfl) :
  PE X (.Call (.Name x p) (e::es) [] pos) (Mr C sp dvs E t):=by
 intro a s m H Q I h;refine wpAny_Call_Name_kw (kC I o l ?_ b);refine W.callWith_K (h₀:=X.base) I.ok.mod.kin M.kp (thn (u pos a s m H _ I h) λ_ _ ⟨_,_,d,r,q⟩=>⟨d.kIn,?_⟩) j c;exact Bm M F n i g hx d r q
theorem IY (M:Mk X.K C f) (F:aB X.prog X.w X.K X.mg X.base CX k f fd ps sp) (g:bM (k+1) X.A) (d:Gl X x) (e:X.mg x=some (.ref C)) (c:Binds X.K fd ps ds) (b:aQ dvs ds) (hx:my CX X E)
  (a:(x == ("__debug__" : Str))=false:=by decide):PE X (.Call (.Name x p) [] [] pos) (Mr C sp dvs E Jp):=by
 intro _ s _ H Q I h;refine wpAny_Call_Name_kw (kC I d e ?_ a);exact W.callWith_K0 I.kIn M.kp (Bm (us:=[]) M F g c b hx I .nil h)
end
section
variable {CX:CXT}{k:Nat}{ks:Uq}{E:XK}{m:Str}{p T5:Pos}{o:Expr}{es:List Expr}{kws:List Keyword}{ta:TE}{tk:TA}{nm:Option Str}
structure Se (K:Xz) (fd:Zb) (ps ks:Uq) (g:WF->WF->WF) (gV:Uj->Uj->Uj):Prop where
 to:∀(s:Xx) (us ws:WF),K.In s.heap->(g us ws).length=ps.length->BindsTo s fd ⟨us,ks.zip ws⟩ (ps.zip (g us ws))
 rel:∀{vs:Uj}{us:WF}{zs:Uj}{ws:WF},aQ vs us->aQ zs ws->aQ (gV vs zs) (g us ws)
variable {g:WF->WF->WF}{gV:Uj->Uj->Uj}
end
structure aC (N P:Uq) (sc:Scope):Prop where
 kind:sc.kind = .function
 co:sc.isCoroutine=false
 gen:sc.isGenerator=false
 nd:N.Nodup
 pre:N.take P.length=P
 par:∀x∈P,sc.names.lookup x=some .local\/sc.names.lookup x=some .cell
 MG:∀y∈sc.names,y.2 ≠ .free
theorem xb {a:Str->Option NameKind}{x:Str}:∀{binds:List (Str×Xy)}{m:Str->Option Xy},(∀v,(x,v)∉binds)->bindL a binds m x=m x
 | [],_,_=>rfl
 | (n,v)::r,m,h=>by
  unfold bindL;rw[xb λw b=>h w (UJ _ b)]
  split
  ·have:x≠n:=by rintro rfl;exact h v UM
   simp[this]
  ·rfl
theorem xC {a:Str->Option NameKind}{x:Str}:∀{binds:List (Str×Xy)}{m:Str->Option Xy},(∀v,(x,v)∉binds)->bindC a binds m x=m x
 | [],_,_=>rfl
 | (n,v)::r,m,h=>by
  unfold bindC;rw[xC λw b=>h w (UJ _ b)]
  split
  ·rfl
  ·have:x≠n:=by rintro rfl;exact h v UM
   simp[this]
theorem xg {a:Str->Option NameKind}{x:Str}{v:Xy}:∀{P:Uq}{vs:WF}{i:Nat}{m:Str->Option Xy},P.Nodup->P[i]? = some x->vs[i]? = some v->a x=some .local ->
  bindL a (P.zip vs) m x=some v
 | [],_,_,_,_,h,_,_=>by simp at h
 | _::_,[],_,_,_,_,h,_=>by simp at h
 | p::P,w::vs,0,m,nd,h1,h2,hk=>by
  simp at h1 h2;subst h1;subst h2;show bindL a ((p,w)::P.zip vs) m p=_;unfold bindL;rw[xb λv b=>(VG.mp nd).1 (WH b).1,Zn hk];simp
 | p::P,w::vs,i+1,m,nd,h1,h2,hk=>by
  show bindL a ((p,w)::P.zip vs) m x=_;unfold bindL;exact xg (i:=i) (VG.mp nd).2 (by simpa using h1) (by simpa using h2) hk
theorem xJ {a:Str->Option NameKind}{x:Str}{v:Xy}:∀{P:Uq}{vs:WF}{i:Nat}{m:Str->Option Xy},P.Nodup->P[i]? = some x->vs[i]? = some v->a x≠some .local ->
  bindC a (P.zip vs) m x=some v
 | [],_,_,_,_,h,_,_=>by simp at h
 | _::_,[],_,_,_,_,h,_=>by simp at h
 | p::P,w::vs,0,m,nd,h1,h2,hk=>by
  simp at h1 h2;subst h1;subst h2;show bindC a ((p,w)::P.zip vs) m p=_;unfold bindC;rw[xC λv b=>(VG.mp nd).1 (WH b).1,Zo hk];simp
 | p::P,w::vs,i+1,m,nd,h1,h2,hk=>by
  show bindC a ((p,w)::P.zip vs) m x=_;unfold bindC;exact xJ (i:=i) (VG.mp nd).2 (by simpa using h1) (by simpa using h2) hk
def start (N:Uq) (vs:Uj):St:=vs.map some++List.replicate (N.length - vs.length) none
def Af (CX:CXT) (P:Zd) (w:Ze) (K:Xz) (mg:Str->Option Xy) (base:Heap) (N:Uq) (qual:Str) (scope:Scope) (f:Za) (cd:Xy) (A:Zc) (outer:List Env) (s:Xx) (H:Hp) (E:XK):Cx where
 prog:=P
 w:=w
 K:=K
 mg:=mg
 base:=base
 A:=A.deeper (envOfC qual scope s.heap.objs.size f cd)
 N:=N
 s₀:=s
 H₀:=H
 env:=envOfC qual scope s.heap.objs.size f cd
 outer:=outer
 stack:=envOfC qual scope s.heap.objs.size f cd::outer
 ex:=[]
 calm:=true
 fn:=λ_=>true
 pn:=[]
 xe:=λe s'=>Zh (model P w) (A.deeper (envOfC qual scope s.heap.objs.size f cd)) (leaving (envOfC qual scope s.heap.objs.size f cd) e) (λ_ s''=>CX outer H s E e s'') (λe' s''=>CX outer H s E e' s'') s'
theorem A8 {a:Scope} (h:a.names.lookup x=some .cell):∃c,(cellsFrom n a.names []).lookup x=some c:=by
 have q:=W.cellsFrom_some a.names n [] (.inl h);exact Option.isSome_iff_exists.mp q
theorem E8 {CX:CXT}{s1:Xx}{E:XK}{vs:Uj}
  (S:aC N ps scope) (D:A.handled=none) (g:uM P w K mg base A outer s H) (J:vs.length=ps.length) (r:aQ vs us)
  (x:InCallC s s.heap.objs.size (bindL (envOfC qual scope s.heap.objs.size f cd).kindOf (ps.zip us) λ_=>none) (cellsFrom (s.heap.objs.size+1) scope.names []) (bindC (envOfC qual scope s.heap.objs.size f cd).kindOf (ps.zip us) λ_=>none) s1) :
  Inv (Af CX P w K mg base N qual scope f cd A outer s H E) [] (start N vs) H s1:=by
 have G:ps.length<=N.length:=by have:=congrArg YV S.pre;rw[UT]at this;lia
 obtain⟨t,_,rfl,B⟩:=x.done;have j:∀b:Za,b∉(Af CX P w K mg base N qual scope f cd A outer s H E).ex:=λb z=>absurd (show b∈([]:Uz)from z) (by simp);refine⟨⟨g.mod,S.kind,rfl,rfl,UD _,λy z c t d=>?_,λy l=>?_,λy c _ h=>?_,λ_=>D,Around.frames_deeper g.frames,.inr ⟨rfl,rfl⟩,λb z=>absurd z (j b),g.bs,g.bsz,λb _ _=>j b,λb z=>absurd z (j b),g.qF,g.frf⟩,
  rfl,g.bare,Un.kept B,⟨_,x.toInCall.ns,λi y v t d _=>?_⟩,λy c h=>⟨_,x.cell y c h⟩,g.hok.fresh (UD _),λy c h=>?_,λp m=>absurd (show p∈([]:List (Za×Obj))from m) (by simp),g.hok.kept B,?_⟩
 ·exact name_of_addr x.apart (Yq t) (Yq d)
 ·have l:scope.names.lookup y=some .cell\/scope.names.lookup y=some .free:=l;rcases l with l | l
  ·exact A8 l
  ·exact absurd rfl (S.MG _ (Yq l))
 ·exact V2 (x.above y c (Yq h))
 ·have hi:i<vs.length:=by
   unfold start at d;by_cases hi:i<vs.length
   ·exact hi
   ·rw[Vb (by simpa using hi)]at d;rw[W1]at d
    split at d <;> cases d
  have I:vs[i]? = some v:=by
   unfold start at d;rw[U6 (by simpa using hi),UI]at d;cases e:vs[i]? with
   | none=>rw[e]at d;cases d
   | some a=>rw[e]at d;cases d;rfl
  obtain⟨u,C,F⟩:=r.get I;have m:ps[i]? = some y:=by
   rw[<-S.pre,List.getElem?_take_of_lt (by lia)];exact t
  have o:ps.Nodup:=by rw[<-S.pre];exact S.nd.sublist (WU _ _)
  refine⟨u,F,?_⟩;rcases S.par y (UC m)with k | k
  ·exact .inl ⟨k,xg o m C k⟩
  ·obtain⟨c,e⟩:=A8 (n:=s.heap.objs.size+1) k;refine .inr ⟨.inl k,c,e,?_⟩;have q:=x.cell y c e;rw[xJ o m C (by show scope.names.lookup y≠_;rw[k];decide)]at q;exact q
 ·exact g.hok.fresh (V2 (x.above y c (Yq h)))
 ·unfold start;show _=N.length;rw[UH,UA,WA];lia
theorem JH {CX:CXT}{k:Nat}{c:Arguments}{d:List Stmt}{M kV l L a oc:Xy}{G U:Option Za}
  {C:Array (Option Xy)}{N ps:Uq}{sp:Sp} (Z:K.lookup f=some ⟨oc,U,.func (YC name qual c d scope M kV l L G a O),C⟩) (B:YP K a qual=true) (S:aC N ps scope)
  (m:∀vs H Q E,sp vs H Q E->vs.length=ps.length)
  (R:∀(A:Zc) (outer:List Env) (s:Xx) (H:Hp) (vs:Uj) (Q:VK) (E:XK),bM k (A.deeper (envOfC qual scope s.heap.objs.size f a))->sp vs H Q E ->
   ∃t,PSs (Af CX P w K mg base N qual scope f a A outer s H E) d t/\t { nx:=λ_ H'=>Q .non H',rt:=Q } (start N vs) H) :
  aB P w K mg base CX (k+1) f (YC name qual c d scope M kV l L G a O) ps sp:=by
 refine⟨m,λA outer s H _ us vs Q E D i T r j=>?_⟩;have hl:=m _ _ _ _ j;have F:K.In s.heap:=i.mod.kin.keeps λb o e=>(i.bs b o e).1;have lim:s.heap.NoLimit:=i.mod.nolimit.keeps λb o e=>(i.bs b o e).1;have QI:∀y∈ps.zip us,scope.names.lookup y.1=some .local\/(scope.names.lookup y.1=some .cell/\((cellsFrom (s.heap.objs.size+1) scope.names []).lookup y.1).isSome=true):=λ⟨n,v⟩ hy=>by
  rcases S.par n (WH hy).1 with q | q
  ·exact .inl q
  ·exact .inr ⟨q,W.cellsFrom_some _ _ _ (.inl q)⟩
 refine codeAny_call_function D.depth (F _ _ Z) rfl S.co S.gen rfl (W.codeRec_of F B) (T _ _ _ _ ?_);refine wpAny_newFunctionEnv_cells S.kind QI λ_ Y s1 x=>?_;subst Y;refine⟨lim.keeps x.toInCall.keep,codeAny_func ?_⟩;obtain⟨t,X,hq⟩:=R A outer s H vs Q E (D.deeper _) j;have I:Inv (Af CX P w K mg base N qual scope f a A outer s H E) [] (start N vs) H s1:=E8 S D.hd i hl r x;refine Xs (X [] s1 (start N vs) H _ I hq) (λfl s' h=>?_) λe s' h=>h;have p:∀{g:St}{H':Hp}{v:V}{u:Xy},Inv (Af CX P w K mg base N qual scope f a A outer s H E) [] g H' s'->RelV v u->Q v H'->CE outer P w H s Q u s':=
  λ{g H' v u} J z q=>⟨v,H',J.os,J.bare,J.base,J.hok,z,q⟩
 cases fl with
 | ret u=>
  obtain⟨v,g,H',J,z,q⟩:=h;exact p J z q
 | next=>
  obtain⟨g,H',J,q⟩:=h;exact p (v:=V.non) (u:=Value.none) J rfl q
 | brk=>
  obtain⟨_,_,_,q⟩:=h;exact False.elim q
 | cont=>
  obtain⟨_,_,_,q⟩:=h;exact False.elim q
section
variable {p:Pos}{es:List Expr}{id T:String}{r:Uj->Hp->VK->Prop}
def tCB (r:Uj->Hp->VK->Prop) (t:TA):TE:=λσ H Q=>t σ H λvs H1=>r vs H1 Q
theorem aP (n:jo X (.builtin id) r) (w:Gl X x) (j:X.mg x=none) (g:bootBuiltins x=some (.builtin id)) (y:PA X (e::es) t) (q:x ≠ "__name__" :=by decide) (b:(x == ("__debug__" : Str))=false:=by decide)
  (f:Zi (e::es) X.env=(false,eval e X.env)::Zi es X.env:=by rfl) (c:(backTo pos (Zi es X.env)).any (·.1)=false:=by rfl):PE X (.Call (.Name x p) (e::es) [] pos) (tCB r t):=by
 intro a s d H Q I h;refine wpAny_Call_Name_kw (fm I w j g ?_ q b);exact PyProof.Rows.callWith_builtin1 (thn (y pos a s d H _ I h) λm k ⟨u,l,i,o,v⟩=>n a k d l u m Q i o v) f c
theorem iE (n:jo X (.type T) r) (w:Gl X x) (j:X.mg x=none) (g:bootBuiltins x=some (.type T)) (y:PA X (e::es) t) (q:x ≠ "__name__" :=by decide) (b:(x == ("__debug__" : Str))=false:=by decide)
  (f:Zi (e::es) X.env=(false,eval e X.env)::Zi es X.env:=by rfl) (c:(backTo pos (Zi es X.env)).any (·.1)=false:=by rfl):PE X (.Call (.Name x p) (e::es) [] pos) (tCB r t):=by
 intro a s d H Q I h;refine wpAny_Call_Name_kw (fm I w j g ?_ q b);exact Ym (thn (y pos a s d H _ I h) λm k ⟨u,l,i,o,v⟩=>n a k d l u m Q i o v) f c
end
end L2
variable {J:L2.It}{wi:L2.TI}{st:List (L2.Key×L2.Uj)}{kvs:List (L2.Key×L2.V)}{ks:List L2.Key}
namespace HT
open PySem PyProof.Rows
theorem G6 (A:Zc) (s:Xx) (a:Int) (t:Tok) (c:Int) (u:Tok) (prog:Zd) (w:Ze) (E:Xy->Xx->Prop) (Q:Xy->Xx->Prop) (h:Q (.bool (decide (a<c))) s) :
  Zh (model prog w) A (richCompare .Lt (.int a t) (.int c u)) Q E s:=
 (PyProof.Rows.lt_int h:Zh (model prog w) A (compareOp .Lt (.int a t) (.int c u)) Q E s)
section
open PySem.SeqAt
open PySem.AutoSeq1 (wpAny_loadPart')
open PySem.MeetsSeq PySem.MeetsSeq2 PySem.MeetsSeq3
end
def sIx (n d:Nat):Option Int->Nat
 | none=>d
 | some v=>if v<0 then(v+(n:Int)).toNat else min v.toNat n
theorem Jo (n d:Nat):sIx n d none=d:=rfl
theorem Ep (n d k:Nat):sIx n d (some (k:Int))=min k n:=by
 show(if (k:Int)<0 then((k:Int)+(n:Int)).toNat else min (k:Int).toNat n)=min k n;rw[Zo (by lia),VF]
end HT
namespace L2
open PySem PySem.Spec PyProof.Rows
abbrev TO:=St->Hp->(Option Int->Hp->Prop)->Prop
def PO (X:Cx) (e:Option Expr) (t:TO):Prop:=
 ∀(pins:List (Za×Obj)) (s:Xx) (σ:St) (H:Hp) (Q:Option Int->Hp->Prop),Inv X pins σ H s->t σ H Q ->
  Zh (model X.prog X.w) X.A (evalPart e X.env) (λu s'=>∃o H',Inv X pins σ H' s'/\IsPart u o/\Q o H') X.xe s
def LK:TO:=λ_ H Q=>Q none H
def P8 (t:TE):TO:=λσ H Q=>t σ H λx H1=>∃i,x = .int i/\Q (some i) H1
section
variable {lo hi:Option Expr}{tl th:TO}
theorem p5:PO X none LK:=by
 intro pins s σ H Q I h;rw[evalPart_none];exact Xv ⟨none,H,I,.none,h⟩
theorem lu (h:PE X e te):PO X (some e) (P8 te):=by
 intro a s c H Q I f;rw[evalPart_some];refine thn (h a s c H _ I f) λu _ ⟨x,b,j,d,g⟩=>?_;obtain⟨i,rfl,q⟩:=g;obtain⟨t,rfl⟩:=d;exact⟨some i,b,j,.int i t,q⟩
def SlR (X:Cx) (r:V->Option Int->Option Int->Hp->VK->Prop):Prop:=
 ∀(pins:List (Za×Obj)) (s:Xx) (σ:St) (H:Hp) (x:V) (v vl vu:Xy) (lo hi:Option Int) (sl:Za) (Q:VK),Inv X pins σ H s->RelV x v->s.heap.IsSliceOf sl vl vu .none->IsPart vl lo->IsPart vu hi->r x lo hi H Q ->
  ∃T id,typeLookup (.type T) "__getitem__" = pure (some (.builtin id))/\s.TypeIs v T/\Zh (model X.prog X.w) X.A (getItem v (.ref sl)) (EP X pins σ Q) X.xe s
def tSl (r:V->Option Int->Option Int->Hp->VK->Prop) (te:TE) (tl th:TO):TE:=λσ H Q=>te σ H λx H1=>tl σ H1 λl H2=>th σ H2 λu H3=>r x l u H3 Q
theorem kc {r:V->Option Int->Option Int->Hp->VK->Prop} (G:SlR X r) (n:PE X e te) (y:PO X lo tl) (J:PO X hi th):PE X (.Subscript e (.Slice lo hi none p2) pos) (tSl r te tl th):=by
 intro a s d H Q I h;refine Subscript_ (thn (n a s d H _ I h) λv t ⟨x,z,o,E,L⟩=>?_);refine wpAny_Slice (thn (y a t d z _ o L) λg K ⟨l,j,p,k,C⟩=>thn (J a K d j _ p C) λf c ⟨u,i,B,D,N⟩=>?_);rw[evalPart_none];refine Xv ?_;have F:Inv X a d i { c with heap:=c.heap.push { cls:=.type "slice",data:=.fields #[g,f,.none] } }:=B.kept (t':=c.toks) λb _ q=>Xu _ q;obtain⟨T,_,hT,m,M⟩:=G a { c with heap:=c.heap.push { cls:=.type "slice",data:=.fields #[g,f,.none] } } d i x v g f l u c.heap.objs.size Q F E (Heap.IsSliceOf.new ..) k D N;show Zh (model X.prog X.w) X.A (subscriptTail e (.Slice lo hi none p2) v (.ref c.heap.objs.size)) (EP X a d Q) X.xe { c with heap:=c.heap.push { cls:=.type "slice",data:=.fields #[g,f,.none] } };exact tail_any (ops:=[.ref c.heap.objs.size,v]) m hT M (by with_unfolding_all rfl)
def g8 (xs:Uj) (lo hi:Option Int):Uj:=(xs.drop (HT.sIx xs.length 0 lo)).take (HT.sIx xs.length xs.length hi - HT.sIx xs.length 0 lo)
theorem sN (xs:Uj) (lo hi:Option Int):(g8 xs lo hi).length<=xs.length:=by
 unfold g8;rw[UT,VY];lia
end
def ixN (n:Nat) (i:Int):Option Nat:=if 0<=i then(if i<n then some i.toNat else none)else if -(n:Int)<=i then some (i+n).toNat else none
def atI {α:Type} (xs:List α) (i:Int):Option α:=(ixN xs.length i).bind λj=>xs[j]?
theorem DS {i:Int} (h:ixN n i=some j):seqIndex? i n=some j/\j<n /\ -(n:Int)<=i/\i<n:=by
 unfold ixN at h;by_cases b:0<=i
 ·rw[Zn b]at h;by_cases a:i<n
  ·rw[Zn a]at h;have e:i.toNat=j:=Ye h;exact⟨by rw[seqIndex_of b a,e],by lia,by lia,a⟩
  ·rw[Zo a]at h;cases h
 ·rw[Zo b]at h;by_cases a : -(n:Int)<=i
  ·rw[Zn a]at h;have e:(i+n).toNat=j:=Ye h;exact⟨by rw[seqIndex_neg (by lia) a,e],by lia,a,by lia⟩
  ·rw[Zo a]at h;cases h
theorem yD {xs:List α}{i:Int}{v:α} (h:atI xs i=some v):∃j,seqIndex? i xs.length=some j/\xs[j]? = some v/\j<xs.length /\ -(xs.length:Int)<=i/\i<xs.length:=by
 unfold atI at h;cases e:ixN xs.length i with
 | none=>rw[e]at h;cases h
 | some j=>
  rw[e]at h;obtain⟨a,c,d,b⟩:=DS e;exact⟨j,a,h,c,d,b⟩
theorem dE {xs:List α}{v:α} (h:xs[j]? = some v):atI xs (j:Int)=some v:=by
 have a:j<xs.length:=(VA.mp h).1;have e:ixN xs.length (j:Int)=some j:=by
  unfold ixN;rw[Zn (by lia),Zn (by lia)];simp
 unfold atI;rw[e];exact h
def JW (b:Expr):Prop:=∀o i,subscripted b false o i=operate [o,i] (getItem o i)
def IxR (X:Cx) (r:R2):Prop:=
 ∀(value slice:Expr) (pins:List (Za×Obj)) (s:Xx) (σ:St) (H:Hp) (x y:V) (v u:Xy) (Q:VK),Inv X pins σ H s->RelV x v->RelV y u->r x y H Q ->
  subscripted slice false v u=operate [v,u] (getItem v u)->Zh (model X.prog X.w) X.A (subscriptTail value slice v u) (EP X pins σ Q) X.xe s
def MtR (X:Cx) (id:String) (r:V->Uj->Hp->VK->Prop):Prop:=
 ∀(pins:List (Za×Obj)) (s:Xx) (σ:St) (H:Hp) (x:V) (xs:Uj) (v:Xy) (us:WF) (Q:VK),Inv X pins σ H s->RelV x v->aQ xs us->r x xs H Q ->
  Zh (model X.prog X.w) X.A (call (.builtin id) (v::us)) (EP X pins σ Q) X.xe s
section
variable {a b:Expr}{ta tb:TE}
theorem bj {r:R2} (l:IxR X r) (n:PE X a ta) (f:PE X b tb) (g:JW b):PE X (.Subscript a b pos) (tOp r ta tb):=by
 intro c s k H Q I h;exact Subscript_ (Nx n f I h λv u m x y d j i e q=>l a b c m k d x y v u Q j i e q (g _ _))
def ff (K:Xz):R2:=λx y H Q=>∃p xs i v,x = .ref p/\y = .int i/\SqL K H p xs/\atI xs i=some v/\Q v H
def lY (K:Xz):R2:=λx y H Q=>∃p xs i v,x = .ref p/\y = .int i/\SqT K H p xs/\atI xs i=some v/\Q v H
def S4:R2:=λx y H Q=>∃z i c,x = .str z/\y = .int i/\z.length<=Zg/\atI z.cps.toList i=some c/\Q (.str ⟨#[c]⟩) H
theorem bi:IxR X (ff X.K):=by
 intro _ _ a s l H x y v u Q I D A h k;obtain⟨p,_,i,z,rfl,rfl,G,C,q⟩:=h;cases D;obtain⟨t,rfl⟩:=A;obtain⟨g,r,e,_⟩:=I.list G;obtain⟨j,c,B,_,o,F⟩:=yD C;obtain⟨w,n,d⟩:=r.get B;have E:=r.length;have L:=pe;have b:EP X a l Q w s:=⟨z,H,I,d,q⟩;by_cases m:0<=i
 ·have f:i.toNat=j:=by
   rw[seqIndex_of m F]at c;exact Ye c
  exact item_listR e.isList m (by lia) (by rw[f];simpa using n) b k
 ·have f:(i+(g.toArray.size:Int)).toNat=j:=by
   rw[seqIndex_neg (by lia) o]at c;rw[UN,<-E];exact Ye c
  exact subscriptTail_builtinR (x:=w) e.isList.typeIs slot_list_getitem.lookup
   (wpAny_getItem_list_neg (Q:=λr J=>r=w/\EP X a l Q r J) e.isList (by lia) (by rw[UN] <;> lia) (by lia) (by rw[f];simpa using n) ⟨rfl,b⟩) k
theorem d5:IxR X (lY X.K):=by
 intro _ _ a s e H x y v u Q I m f h g;obtain⟨p,_,i,z,rfl,rfl,B,l,q⟩:=h;cases m;obtain⟨t,rfl⟩:=f;obtain⟨_,r,d,_⟩:=I.tuple B;obtain⟨j,o,k,_,_,_⟩:=yD l;obtain⟨w,A,b⟩:=r.get k;have n:=r.length;have D:=pe;have c:EP X a e Q w s:=⟨z,H,I,b,q⟩;exact subscriptTail_builtinR (x:=w) d.typeIs slot_tuple_getitem.lookup
  (getItem_tuple (j:=j) (Q:=λr C=>r=w/\EP X a e Q r C) d (by lia) (by lia) (by rw[UN,<-n];exact o) (by simpa using A) ⟨rfl,c⟩) g
theorem MZ:IxR X S4:=by
 intro _ _ _ s _ H x y v u Q I k d h e;obtain⟨z,i,c,rfl,rfl,_,g,q⟩:=h;obtain⟨t,rfl⟩:=k;obtain⟨_,rfl⟩:=d;obtain⟨j,a,f,_,b,m⟩:=yD g;have l:z.cps.toList.length=z.length:=by simp[YX]
 rw[l]at a b m;have p:=pe;exact tail_any (typeIs_str s z t) slot_str_getitem.lookup (getItem_str (c:=c) (by
  have n:decide (i < -(2 ^ 63:Int))=false:=Zl (by lia);have o:decide (i ≥ 2 ^ 63)=false:=Zl (by lia);rw[n,o,Bool.or_false]) (by rw[a];simpa using f) ⟨.str ⟨#[c]⟩,H,I.tok _,⟨_,rfl⟩,q⟩) e
theorem Du (its:WF) (n j:Nat) (u:Xy):Y8 (·.setIfInBounds j u) { cls:=.type "list",data:=.seq its.toArray n }={ cls:=.type "list",data:=.seq (its.set j u).toArray n }:=by
 simp[Y8]
theorem Inv.lst {p:Za} (I:Inv X pins σ H s) (h:H p=some (.lst xs)) :
  ∃(its:WF) (n:Nat),aQ xs its/\s.heap.get? p=some { cls:=.type "list",data:=.seq its.toArray n }/\xs.length<=Zg:=by
 obtain⟨z,its,n,r,e⟩:=I.hok p _ h;exact⟨its,n,r,e,z⟩
theorem Inv.ML {p:Za}{ys:Uj}{its lV:WF}{n n':Nat}{f:Obj->Obj} (I:Inv X pins σ H s) (h:H p=some (.lst xs))
  (d:s.heap.get? p=some { cls:=.type "list",data:=.seq its.toArray n }) (a:f { cls:=.type "list",data:=.seq its.toArray n }={ cls:=.type "list",data:=.seq lV.toArray n' }) (r:aQ ys lV) (hz:ys.length<=Zg) (t:Nat) :
  Inv X pins σ (upd H p (.lst ys)) { s with heap:=s.heap.update p f,toks:=t }:=by
 have e:(s.heap.update p f).get? p=some { cls:=.type "list",data:=.seq lV.toArray n' }:=by
  rw[Heap.get?_update_self f d (by rw[a] <;> rfl),a]
 refine I.write (x:=p) (e:=p) (by rw[h];trivial) (.inl rfl) (λb u c q=>(Yu _ _ (YR c)).trans q) ⟨_,e⟩ ?_;exact⟨hz,lV,n',r,e⟩
def Qx:V->V->V->Hp->(Hp->Prop)->Prop:=λo i v H Q=>∃p xs k j,o = .ref p/\i = .int k/\H p=some (.lst xs)/\ixN xs.length k=some j/\Q (upd H p (.lst (xs.set j v)))
theorem set_list:PP X Qx:=by
 intro a s D H o i v _ _ u Q I E B y h;obtain⟨p,z,k,j,rfl,rfl,m,C,q⟩:=h;cases E;obtain⟨t,rfl⟩:=B;obtain⟨b,n,r,f,A⟩:=I.lst m;obtain⟨c,_,w,g⟩:=DS C;have e:=r.length;have F:=pe;have l:Inv X a D (upd H p (.lst (z.set j v))) { s with heap:=s.heap.update p (Y8 (·.setIfInBounds j u)) }:=
  I.ML m f (Du b n j u) (r.set y j) (by rw[List.length_set];exact A) s.toks
 by_cases x:0<=k
 ·have d:k.toNat=j:=by
   rw[seqIndex_of x g]at c;exact Ye c
  exact W.ki_setAt f x (by lia) (by rw[UN,<-e];exact g) (by rw[d];exact⟨_,l,q⟩)
 ·have d:(k+(b.toArray.size:Int)).toNat=j:=by
   rw[seqIndex_neg (by lia) w]at c;rw[UN,<-e];exact Ye c
  exact W.ki_setBack f (by lia) (by rw[UN,<-e];exact w) (by lia) (by rw[d];exact⟨_,l,q⟩)
theorem yg (lo hi:Option Int) (n:Nat):(sliceBounds lo hi none n).1=((HT.sIx n 0 lo:Nat):Int)/\(sliceBounds lo hi none n).2.1=((HT.sIx n n hi:Nat):Int)/\(sliceBounds lo hi none n).2.2=1:=by
 refine⟨?_,?_,rfl⟩
 ·cases lo with
  | none=>simp[sliceBounds,HT.sIx]
  | some i=>
   simp only[sliceBounds,HT.sIx,Option.getD_none,show(1:Int) > 0 by decide,if_true];by_cases h:i<0
   ·simp only[h,if_true] <;> lia
   ·simp only[h,if_false] <;> lia
 ·cases hi with
  | none=>simp[sliceBounds,HT.sIx]
  | some i=>
   simp only[sliceBounds,HT.sIx,Option.getD_none,show(1:Int) > 0 by decide,if_true];by_cases h:i<0
   ·simp only[h,if_true] <;> lia
   ·simp only[h,if_false] <;> lia
theorem wJ (its:WF) (lo hi:Option Int):slicePick its.toArray lo hi none=((its.drop (HT.sIx its.length 0 lo)).take (HT.sIx its.length its.length hi - HT.sIx its.length 0 lo)).toArray:=by
 obtain⟨b,a,c⟩:=yg lo hi its.toArray.size;unfold slicePick;rw[b,a,c];simp only[sliceRange_one,pick_run,UN] <;> rfl
def Hc (K:Xz):V->Option Int->Option Int->Hp->VK->Prop:=λx lo hi H Q=>∃a xs,x = .ref a/\SqL K H a xs/\∀p,H p=none->Q (.ref p) (upd H p (.lst (g8 xs lo hi)))
theorem tW:SlR X (Hc X.K):=by
 intro _ s _ H x v _ _ e f _ Q I k j i n h;obtain⟨a,c,rfl,m,q⟩:=h;cases k;obtain⟨_,r,g,l⟩:=I.list m;have d:=r.length;refine⟨"list",_,slot_list_getitem.lookup,g.isList.typeIs,?_⟩;refine wpAny_getItem_list_slice g.isList j i n .none (by simp) ?_ (by rw[UN] <;> lia);rw[wJ,<-d];refine⟨.ref s.heap.objs.size,_,I.laid (t':=s.toks) (o:=.lst (g8 c e f)) (λb _ q=>Xu _ q) (UD _) ?_,rfl,q _ (I.hok.fresh (UD _))⟩;exact⟨UK (sN c e f) l,_,0,(r.drop (HT.sIx c.length 0 e)).take (HT.sIx c.length c.length f - HT.sIx c.length 0 e),Y3 _ rfl⟩
def iU:V->Bool
 | .non=>true
 | .bl _=>true
 | .int _=>true
 | .str _=>true
 | _=>false
def eqV:V->V->Bool
 | .non,.non=>true
 | .bl a,.bl b=>a == b
 | .bl a,.int b=>(if a then 1 else 0) == b
 | .int a,.bl b=>a == (if b then 1 else 0)
 | .int a,.int b=>a == b
 | .str a,.str b=>a == b
 | _,_=>false
theorem Jx {y x:V}{v:Xy} (f:RelV y u) (c:RelV x v) (g:iU y=true) (e:iU x=true):SeqAt.EqAt A s u v (eqV y x):=by
 cases y with
 | non=>
  cases f;cases x with
  | non=>cases c;exact SeqAt.EqAt.same _
  | bl b=>cases c;exact SeqAt.EqAt.none_bool b
  | int b=>obtain⟨t,rfl⟩:=c;exact SeqAt.EqAt.none_int b t
  | str b=>obtain⟨t,rfl⟩:=c;exact SeqAt.EqAt.none_str b t
  | _=>exact absurd (show false=true from e) UO
 | bl a=>
  cases f;cases x with
  | non=>cases c;exact SeqAt.EqAt.bool_none a
  | bl b=>cases c;exact SeqAt.EqAt.bool_bool a b
  | int b=>obtain⟨t,rfl⟩:=c;exact SeqAt.EqAt.bool_int a b t
  | str b=>obtain⟨t,rfl⟩:=c;exact SeqAt.EqAt.bool_str a b t
  | _=>exact absurd (show false=true from e) UO
 | int a=>
  obtain⟨d,rfl⟩:=f;cases x with
  | non=>cases c;exact SeqAt.EqAt.int_none a d
  | bl b=>cases c;exact SeqAt.EqAt.int_bool a d b
  | int b=>obtain⟨t,rfl⟩:=c;exact SeqAt.EqAt.int_int a d b t
  | str b=>obtain⟨t,rfl⟩:=c;exact SeqAt.EqAt.int_str a d b t
  | _=>exact absurd (show false=true from e) UO
 | str a=>
  obtain⟨d,rfl⟩:=f;cases x with
  | non=>cases c;exact SeqAt.EqAt.str_none a d
  | bl b=>cases c;exact SeqAt.EqAt.str_bool a d b
  | int b=>obtain⟨t,rfl⟩:=c;exact SeqAt.EqAt.str_int a d b t
  | str b=>obtain⟨t,rfl⟩:=c;exact SeqAt.EqAt.str_str a d b t
  | _=>exact absurd (show false=true from e) UO
 | _=>exact absurd (show false=true from g) UO
def eqU (x:V) (u:Xy):Bool:=match u with
 | .none=>eqV .non x
 | .bool b=>eqV (.bl b) x
 | .int i _=>eqV (.int i) x
 | .str z _=>eqV (.str z) x
 | _=>false
theorem B8 {x y:V} (r:RelV y u) (f:iU y=true):eqU x u=eqV y x:=by
 cases y with
 | non=>cases r;rfl
 | bl b=>cases r;rfl
 | int i=>obtain⟨t,rfl⟩:=r;rfl
 | str z=>obtain⟨t,rfl⟩:=r;rfl
 | _=>exact absurd (show false=true from f) UO
theorem zu {x:V}:∀{xs:Uj}{us:WF},aQ xs us->xs.all iU=true->us.any (eqU x)=xs.any λy=>eqV y x
 | _,_,.nil,_=>rfl
 | y::xs,u::us,.cons r t,f=>by
  rw[Wp,Vm]at f;rw[Vt,Vt,B8 r f.1,zu t f.2]
theorem pX {A:Zc}{s:Xx}{x:V}{v:Xy} (c:RelV x v) (b:iU x=true):∀{xs:Uj}{us:WF},aQ xs us->xs.all iU=true->∀u∈us,SeqAt.EqAt A s u v (eqU x u)
 | _,_,.nil,_=>λu a=>by cases a
 | y::xs,u::us,.cons r t,f=>λd a=>by
  rw[Wp,Vm]at f;rcases UR.mp a with rfl | a
  ·rw[B8 r f.1];exact Jx r c f.1 b
  ·exact pX c b t f.2 d a
def inV (x:V) (xs:Uj):Bool:=xs.any λy=>eqV y x
def rIn (K:Xz) (neg:Bool):R2:=λx y H Q=>∃p xs,y = .ref p/\(SqL K H p xs\/SqT K H p xs)/\iU x=true/\xs.all iU=true/\Q (.bl (if neg then !inV x xs else inV x xs)) H
theorem xK:OpR X (compareOp .In) (rIn X.K false):=by
 intro _ s _ H x y v u Q I f i h;obtain⟨p,_,rfl,b,g,c,q⟩:=h;cases i;rcases b with b | b
 ·obtain⟨a,r,d,j⟩:=I.list b;refine SeqAt.in_listAt (eqU x) d.isList (λw e=>pX f g r c w (by simpa using e)) ⟨.bl _,H,I,rfl,?_⟩;rw[show a.toArray.any (eqU x)=a.any (eqU x)by simp,zu r c];exact q
 ·obtain⟨a,r,d,j⟩:=I.tuple b;refine SeqAt.in_tupleAt (eqU x) d (λw e=>pX f g r c w (by simpa using e)) ⟨.bl _,H,I,rfl,?_⟩;rw[show a.toArray.any (eqU x)=a.any (eqU x)by simp,zu r c];exact q
theorem x9:jo X (.builtin "len") (λxs H Q=>∃p ys,xs=[.ref p]/\(SqL X.K H p ys\/SqT X.K H p ys)/\Q (.int ys.length) H):=by
 intro _ s _ H xs _ Q I r h;obtain⟨p,ys,rfl,b,q⟩:=h;obtain⟨u,rfl,f⟩:=vals1 r;cases f;have i:=pe;rcases b with b | b
 ·obtain⟨e,c,d,g⟩:=I.list b;have a:=c.length;exact Calls.call_len_list d.isList (by simp only[UN] <;> lia) ⟨.int ys.length,H,I.tok _,⟨s.toks+1,by rw[UN,a]⟩,q⟩
 ·obtain⟨e,c,d,g⟩:=I.tuple b;have a:=c.length;exact len_tuple d (by simp only[UN] <;> lia) ⟨.int ys.length,H,I.tok _,⟨s.toks+1,by rw[UN,a]⟩,q⟩
theorem qc:jo X (.builtin "len") (λxs H Q=>∃z,xs=[.str z]/\z.length<=Zg/\Q (.int z.length) H):=by
 intro _ s _ H xs _ Q I r h;obtain⟨z,rfl,_,q⟩:=h;obtain⟨u,rfl,t,rfl⟩:=vals1 r;have a:=pe;exact len_str (by lia) ⟨.int z.length,H,I.tok _,⟨_,rfl⟩,q⟩
theorem yN:jo X (.type "list") (λxs H Q=>∃p ys,xs=[.ref p]/\(SqL X.K H p ys\/SqT X.K H p ys)/\∀l,H l=none->Q (.ref l) (upd H l (.lst ys))):=by
 intro g s z H xs _ Q I r h;obtain⟨p,ys,rfl,j,q⟩:=h;obtain⟨u,rfl,y⟩:=vals1 r;cases y;have k:∀(a:WF),aQ ys a->ys.length<=Zg->∀(h':Heap) (c':Nat),(∀b o',s.heap.get? b=some o'->h'.get? b=some o') ->
   h'.get? s.heap.objs.size=some { cls:=.type "list",dict:=none,data:=.seq a.toArray c',slots:=#[] }->EP X g z Q (.ref s.heap.objs.size) { s with heap:=h' }:=λa c f h' c' d e=>
  ⟨.ref s.heap.objs.size,_,I.laid (t':=s.toks) d (UD _) (show cg X.prog X.w _ h' _ (.lst ys)from⟨f,a,c',c,e⟩),rfl,q _ (I.hok.fresh (UD _))⟩
 rcases j with j | j
 ·obtain⟨a,c,t,f⟩:=I.list j;have i:=c.length;obtain⟨o,x,v,n,m⟩:=t.isList;exact call_list_seq p (.inl rfl) x v m (λh' c' d e=>k a c f h' c' d e) (by simp only[UN] <;> lia)
 ·obtain⟨a,c,t,f⟩:=I.tuple j;have i:=c.length;obtain⟨o,x,v,n,m⟩:=t;exact call_list_seq p (.inr rfl) x v m (λh' c' d e=>k a c f h' c' d e) (by simp only[UN] <;> lia)
theorem wu:jo X (.type "tuple") (λxs H Q=>∃p ys,xs=[.ref p]/\((SqL X.K H p ys/\∀l,H l=none->Q (.ref l) (upd H l (.tup ys)))\/(SqT X.K H p ys/\Q (.ref p) H))):=by
 intro a s m H xs _ Q I r h;obtain⟨p,ys,rfl,h⟩:=h;obtain⟨u,rfl,v⟩:=vals1 r;cases v;rcases h with⟨i,q⟩ | ⟨i,q⟩
 ·obtain⟨c,f,g,k⟩:=I.list i;have n:=f.length;refine call_tuple_list g.isList (λd t=>?_) (by simp only[UN] <;> lia);have j:Inv X a m H { s with heap:=d }:=I.kept (t':=s.toks) t;have x:Inv X a m (upd H d.objs.size (.tup ys)) { s with heap:=d.push { cls:=.type "tuple",data:=.seq c.toArray } }:=
   j.laid (t':=s.toks) (λb o e=>Xu _ e) (UD _) (show cg X.prog X.w _ _ _ (.tup ys)from⟨k,c,f,IsTup.new _ _⟩)
  exact⟨.ref d.objs.size,_,x,rfl,q _ (j.hok.fresh (UD _))⟩
 ·obtain⟨c,f,g,k⟩:=I.tuple i;exact call_tuple_same g ⟨.ref p,H,I,rfl,q⟩
def tyV (K:Xz) (T:String) (x:V) (H:Hp):Prop:=match x with
 | .str _=>T = "str"
 | .int _=>T = "int"
 | .ref p=>(T = "list" /\ ∃xs,SqL K H p xs)\/(T = "tuple" /\ ∃o,K.lookup p=some o/\o.cls = .type "tuple" /\ o.dict=none) \/
   (T = "dict" /\ ((∃kvs,H p=some (.dK kvs))\/∃kvs,H p=some (.dT kvs)))\/(T = "set" /\ ∃S n,H p=some (.set S n))
 | _=>False
theorem Ga {T:String}{x:V}{v:Xy} (I:Inv X pins σ H s) (r:RelV x v) (ty:tyV X.K T x H) :
  s.TypeIs v T/\∀a,v = .ref a->∃ob,s.heap.get? a=some ob/\ob.dict=none:=by
 cases x with
 | str z=>
  obtain⟨t,rfl⟩:=r;cases(show T = "str" from ty);exact⟨typeIs_str s z t,λ_ e=>nomatch e⟩
 | int i=>
  obtain⟨t,rfl⟩:=r;cases(show T = "int" from ty);exact⟨typeIs_int s i t,λ_ e=>nomatch e⟩
 | ref p=>
  cases r;rcases ty with⟨rfl,_,l⟩ | ⟨rfl,o,b,k,f⟩ | ⟨rfl,b⟩ | ⟨rfl,S,n,b⟩
  ·obtain⟨_,_,j,_⟩:=I.list l;refine⟨j.isList.typeIs,λa e=>?_⟩;cases e;obtain⟨o,n,e,c,f,_⟩:=j;exact⟨o,e,f⟩
  ·refine⟨⟨o,I.kIn p o b,k⟩,λa e=>?_⟩;cases e;exact⟨o,I.kIn _ o b,f⟩
  ·have z:∃o,s.heap.get? p=some o/\o.ExactDict:=by
    rcases b with⟨g,b⟩ | ⟨g,b⟩
    ·obtain⟨_,_,_,_,o,_,_,e,d,_⟩:=I.hok p _ b;exact⟨o,e,d⟩
    ·obtain⟨_,_,_,_,o,_,_,e,d,_⟩:=I.hok p _ b;exact⟨o,e,d⟩
   obtain⟨o,e,d⟩:=z;refine⟨⟨o,e,d.1⟩,λa h=>?_⟩;cases h;exact⟨o,e,d.2.1⟩
  ·obtain⟨o,_,_,_,e,d,_⟩:=I.hok p _ b;refine⟨⟨o,e,d.1⟩,λa h=>?_⟩;cases h;exact⟨o,e,d.2.1⟩
 | _=>exact False.elim ty
def Tj (K:Xz) (T:String) (r:V->Uj->Hp->VK->Prop) (to:TE):TE:=λσ H Q=>to σ H λx H1=>tyV K T x H1/\r x [] H1 Q
def tBM (K:Xz) (T:String) (r:V->Uj->Hp->VK->Prop) (to:TE) (t:TA):TE:=λσ H Q=>to σ H λx H1=>tyV K T x H1/\t σ H1 λxs H2=>r x xs H2 Q
variable {o:Expr}{es:List Expr}{to:TE}{T id:String}
theorem Jj (pa:PlainAttrs T) (slot:Slot T name id) (b:typeOf (.builtin id)=pure (.type "method_descriptor")) (g:MtR X id r) (p:PE X o to)
  (n:attributeBase o name X.env (eval o X.env)=eval o X.env:=by rfl) (m:(apos.endLine == dD.line)=true:=by rfl):PE X (.Call (.Attribute o name apos) [] [] dD) (Tj X.K T r to):=by
 intro a s d H Q I h;refine wpAny_Call_method0_late n m (thn (p a s d H _ I h) λv j ⟨x,k,c,e,i,q⟩=>?_);obtain⟨l,f⟩:=Ga c e i;exact⟨T,id,pa,slot,b,l,f,YM rfl (PySem.evalArgs_none (g a j d k x [] v [] Q c e .nil q))⟩
theorem ee (pa:PlainAttrs T) (slot:Slot T name id) (c:typeOf (.builtin id)=pure (.type "method_descriptor")) (k:MtR X id r) (B:PE X o to) (J:PA X (e::es) t)
  (A:attributeBase o name X.env (eval o X.env)=eval o X.env:=by rfl)
  (E:((backTo dD (Zi (e::es) X.env)).all (λx=>!x.1) && (backToKw dD (keywordEach [] X.env)).all (λx=>x.1.isSome)
   && decide ((e::es).length+([]:List Keyword).length+(if ([]:List Keyword).isEmpty then 0 else 1)<30))=true:=by rfl)
  (z:(apos.endLine == dD.line)=true:=by rfl) (j:Zi (e::es) X.env=(false,eval e X.env)::Zi es X.env:=by rfl) (C:(backTo dD (Zi es X.env)).any (·.1)=false:=by rfl) :
  PE X (.Call (.Attribute o name apos) (e::es) [] dD) (tBM X.K T r to t):=by
 intro a s b H Q I h;refine wpAny_Call_method_late A E z rfl (thn (B a s b H _ I h) λv p ⟨x,q,d,f,n,G⟩=>?_);obtain⟨u,i⟩:=Ga d f n;refine⟨T,id,pa,slot,c,u,i,?_⟩;have hA:=J dD a p b q _ d G;rw[j]at hA ⊢;refine YM (by show(false || (backTo dD (Zi es X.env)).any (·.1))=false;rw[C] <;> rfl) (Calls.evalArgs_plain ?_)
 exact thn hA λw F ⟨D,g,m,l,y⟩=>k a F b g x D v w Q m f l y
end
def MtM (X:Cx) (id:String) (r:V->Uj->Hp->VK->Prop):Prop:=
 ∀(pins:List (Za×Obj)) (s:Xx) (σ:St) (H:Hp) (x:V) (xs:Uj) (v:Xy) (us:WF) (Q:VK),Inv X pins σ H s->RelV x v->aQ xs us->r x xs H Q ->
  Zh (model X.prog X.w) X.A (call (.builtin id) (v::us)) (EP X pins σ Q) X.xe s
theorem aQ.one:∀{x:V}{us:WF},aQ [x] us->∃u,us=[u]/\RelV x u
 | _,_,.cons r .nil=>⟨_,rfl,r⟩
section
variable {l:Za}{zs:Uj}
theorem Inv.zX {its lV:WF}{n:Nat}{f:Uy->Uy}{t':Nat} (I:Inv X pins σ H s) (hH:H l=some (.lst xs))
  (e:s.heap.get? l=some { cls:=.type "list",data:=.seq its.toArray n }) (d:f its.toArray=lV.toArray) (c:aQ ys lV) (hz:ys.length<=Zg) :
  Inv X pins σ (upd H l (.lst ys)) { s with heap:=s.heap.update l (Y8 f),toks:=t' }:=by
 have q:=PySem.IsL.update e f;rw[d]at q;refine I.write (x:=l) (e:=l) (by rw[hH];exact trivial) (.inl rfl) (λ_ u b a=>(Yu s.heap (Y8 f) (YR b)).trans a) ⟨_,q⟩ ?_;exact⟨hz,lV,_,c,q⟩
theorem Inv.Sn {its:WF}{t':Nat} (I:Inv X pins σ H s) (a:aQ ys its) (hz:ys.length<=Zg) :
  Inv X pins σ (upd H s.heap.objs.size (.lst ys)) { s with heap:=s.heap.push { cls:=.type "list",data:=.seq its.toArray },toks:=t' }:=
 I.laid (λ_ _ q=>Xu _ q) (UD _) ⟨hz,its,0,a,Y3 _ rfl⟩
theorem Inv.fresh (I:Inv X pins σ H s):H s.heap.objs.size=none:=I.hok.fresh (UD _)
theorem Inv.A2 (I:Inv X pins σ H s) (hH:H l=some (.lst xs)):xs.length<=Zg/\∃(its:WF) (n:Nat),aQ xs its/\xs.length=its.length/\s.heap.get? l=some { cls:=.type "list",data:=.seq its.toArray n }:=by
 obtain⟨z,its,n,r,e⟩:=I.hok l _ hH;exact⟨z,its,n,r,r.length,e⟩
theorem Iw (h:n<=Zg):Builtin.List.listTooLong n=false:=by
 unfold Builtin.List.listTooLong;exact Zl (by lia)
end
def KP:V->Uj->Hp->VK->Prop:=λx vs H Q=>∃l xs y,x = .ref l/\vs=[y]/\H l=some (.lst xs)/\xs.length<Zg/\Q .non (upd H l (.lst (xs++[y])))
theorem cR:MtM X "list.append" KP:=by
 intro _ s _ H x _ v _ Q I b c h;obtain⟨l,_,y,rfl,rfl,hH,_,q⟩:=h;cases b;obtain⟨u,rfl,d⟩:=c.one;obtain⟨z,a,n,r,_,e⟩:=I.A2 hH;refine call_meets F.slot_list_append ⟨_,e,rfl⟩ F.entry_list_append (F.args_list_append_2 _ _) (PySem.list_append l a.toArray n u (by rw[UN];lia)) ⟨e,?_⟩;refine⟨.non,_,I.zX (lV:=a++[u]) hH e (by simp) (r.append (.cons d .nil)) ?_,rfl,q⟩;rw[UH,UQ];lia
def K6:V->Uj->Hp->VK->Prop:=λx vs H Q=>∃l b xs zs,x = .ref l/\vs=[.ref b]/\H l=some (.lst xs)/\H b=some (.lst zs)/\xs.length+zs.length<=Zg/\Q .non (upd H l (.lst (xs++zs)))
theorem xw:MtM X "list.extend" K6:=by
 intro _ s _ H x _ v _ Q I g j h;obtain⟨l,b,_,_,rfl,rfl,hH,m,_,q⟩:=h;cases g;obtain⟨u,rfl,o⟩:=j.one;cases o;obtain⟨z,a,n,r,_,e⟩:=I.A2 hH;obtain⟨_,c,k,i,_,p⟩:=I.A2 m;have d:a.toArray.size+c.toArray.size<=Zg:=by rw[UN,UN];lia
 have f:¬ (!a.toArray.isEmpty && Builtin.List.listTooLong (a.toArray.size+c.toArray.size))=true:=by
  rw[Iw d,Wz];exact UO
 refine call_meets F.slot_list_extend ⟨_,e,rfl⟩ F.entry_list_extend (F.args_list_extend_2 _ _)
  (AutoSeq1.list_extend_list_list_0 l a.toArray n b c.toArray k f (by rw[UN];lia) (by lia)) ⟨e,p,?_⟩
 refine⟨.non,_,I.zX (lV:=a++c) hH e (by simp) (r.append i) ?_,rfl,q⟩;rw[UH];lia
end L2
namespace Att
open PySem PySem.W PySem.Calls PyProof.Rows
theorem tE {P:Params}:∀(ns:List Int) (vs:WF),WellAll P h vs (ns.map WData.int)->IntsAre vs ns:=by
 intro ns
 induction ns with
 | nil=>
  intro vs w;rw[VQ]at w;cases w;exact .nil
 | cons n ns c=>
  intro vs w;rw[UW]at w;cases w with
  | cons a b=>
   cases a;exact .cons _ _ (c _ b)
theorem FH {l:OpenLaw} (v:l.most=some n) {P:Params}{args:List WData}{b:WF}
  (k:l.row.toRowW.claim.pre args=true) (g:WellAll P h b args) :
  ∃a vs ns,b=[Value.ref a]/\args=[WData.list (ns.map WData.int)]/\h.get? a=some { cls:=.type "list",data:=.seq vs.toArray }/\IntsAre vs ns/\ns.length<=n:=by
 have i:WShape.hasAll [] args [.list .int]=true:=(pre_splitW k).1;have j:l.pre.holds [] { args:=args }=true:=(pre_splitW k).2;obtain⟨d,r,rfl,p,m⟩:=hasAllW_cons i;obtain rfl:=hasAllW_nil m;obtain⟨_,rfl,o⟩:=hasW_list p;obtain⟨ns,rfl⟩:=items_int o;have c:ns.length<=n:=by
  unfold OpenLaw.pre at j;have e:(WTm.not (.lt (.lit (.int (n:Int))) (.len (.arg 0)))).holds [] { args:=[.list (ns.map .int)] }=true:=by
   have e:=(holds_andW j).1;rw[v]at e;exact e
  have f:=condW_of e (w_not (w_lt w_lit (w_len_list (w_arg rfl))));rw[UA]at f;refine Nat.le_of_not_lt λq=>?_;have s:(n:Int)<((ns.length:Nat):Int):=by lia
  first
   | (rw[Zk s]at f;exact absurd f (by decide))
   | (simp at f;lia)
 cases g with
 | cons w1 w2=>
  cases w2;cases w1 with
  | list t u=>exact⟨_,_,ns,rfl,rfl,t,tE ns _ u,c⟩
theorem EL (l:OpenLaw) (args:List WData):l.row.toRowW.claim.post args (.bool true) args=true:=
 postW_of (r:=l.row.toRowW) (X:=(true == true))
  (show WShape.has [] (.bool true) .bool=true by first | rfl | decide | simp[WShape.has,WShape.arms,WShape.armsAll])
  (show(WTm.eq .res (.lit (.bool true))).value [] { args:=args,res:=some (.bool true),after:=args }=some (.bool (true == true))from w_eq_bool (w_res rfl) w_lit) rfl
theorem BB {l:OpenLaw}{q:Zd}{loose:Uq}{m:(Str->Option Xy)->Heap->Prop}{j:Ze->Heap->Prop}{d:DefRec}
  (C:l.most=some n) (e:d.params.defaults=[])
  (b:∀(w:Ze) (s₀ s₁:Xx) (mg mb:Str->Option Xy) (fa:Za) (o:Obj) (pm cd doc:Xy) (a:Za) (vs:WF) (ns:List Int),
   Ground q loose [] m w s₀ mg mb s₁.heap->j w s₁.heap ->
   s₁.heap.get? fa=some o->o.data = .func (docDef d.name d.params d.body d.scope pm cd doc)->s₁.heap.CodeRec cd d.name->mg d.name=some (.ref fa) ->
   s₁.heap.get? a=some { cls:=.type "list",data:=.seq vs.toArray }->IntsAre vs ns->ns.length<=n->s₁.gens = #[] ->
   codeAny (model l.prog w) callerA (.call (.ref fa) ⟨[.ref a],[]⟩) (λr s'=>r = .ok (.ret (.bool true))/\OldK s₁.heap s'.heap/\s'.os=s₁.os/\AllBare s'.gens) s₁) :
  WalkO q loose m j l.row.toRowW d [] (λf vs=>PySem.call f vs):=by
 intro w s₀ s₁ mg mb G Y fa o pm cd doc B kV z p h k i E _ _ _ D _ _ g _;obtain rfl:B = .none:=Dflts.none k e;obtain rfl:kV = .none:=Dflts.noKw k;obtain⟨a,vs,ns,rfl,rfl,s,t,c⟩:=FH C D g;refine enter_call (codeAny_mono (b w s₀ s₁ mg mb fa o pm cd doc a vs ns G Y z (fd_plain p) h i s t c E) λr s' A=>?_);obtain⟨rfl,v,y,u⟩:=A;exact⟨.inl ⟨.bool true,.bool true,[],rfl,λ_=>rfl,.bool true,EL l _,λ_=>⟨List.Pairwise.nil,λ_ x=>(nomatch x)⟩⟩,v,y,u⟩
section
variable {K:Frag}
end
end Att
namespace L2
open PySem PySem.Spec PyProof.Rows
theorem xP:∀{vs:WF}{ns:List Int},IntsAre vs ns->aQ (ns.map V.int) vs
 | _,_,.nil=>.nil
 | _,_,.cons n t h=>.cons ⟨t,rfl⟩ (xP h)
abbrev CX0:CXT:=λ_ _ _ _ _ _=>False
abbrev E0:XK:=λ_ _ _=>False
theorem aA:my CX0 X E0:=λ_ _ _ _ _ _ _ h=>h.elim
structure Fun (K:Xz) (x qual:Str) (st:Stmt) (f:Za) (fd:Zb):Prop where
 ex:∃(oc:Xy) (od:Option Za) (kV doc pm:Xy) (an:Option Za) (cdv ct:Xy) (osl:Array (Option Xy)),
  fd=YC x qual (cO st) (bY st) (ag st) .none kV doc pm an cdv ct/\K.lookup f=some ⟨oc,od,.func fd,osl⟩/\YP K cdv qual=true
 kp:YF K (.ref f)=true
theorem Fun.ok {st:Stmt}{k:Nat} (F:Fun K x qual st f fd) (S:aC N ps (ag st)) (c:∀vs H Q E,sp vs H Q E->vs.length=ps.length)
  (d:∀(cdv:Xy) (A:Zc) (outer:List Env) (s:Xx) (H:Hp) (vs:Uj) (Q:VK) (E:XK),bM k (A.deeper (envOfC qual (ag st) s.heap.objs.size f cdv))->sp vs H Q E ->
   ∃t,PSs (Af CX0 P w K mg base N qual (ag st) f cdv A outer s H E).nox (bY st) t/\t { nx:=λ_ H'=>Q .non H',rt:=Q } (start N vs) H):aB P w K mg base CX0 (k+1) f fd ps sp:=by
 obtain⟨_,_,kV,_,_,_,cdv,_,_,rfl,e,b⟩:=F.ex;refine JH e b S c λA outer s H vs Q E g a=>?_;obtain⟨t,h,q⟩:=d cdv A outer s H vs Q E g a;exact⟨t,h.nox,q⟩
theorem Fun.binds {st:Stmt} (F:Fun K x qual st f fd)
  (h:∀(kV doc pm:Xy) (an:Option Za) (cdv ct:Xy) (us:WF),us.length=ps.length->bindArgs (YC x qual (cO st) (bY st) (ag st) .none kV doc pm an cdv ct) ⟨us,[]⟩=pure (ps.zip us)):Binds K fd ps []:=by
 obtain⟨_,_,kV,doc,pm,an,cdv,ct,_,rfl,_,_⟩:=F.ex;exact .all (h kV doc pm an cdv ct)
theorem Je {st:Stmt}{i:Xy}{j e:Option Za}{d:Array (Option Xy)}{kV b g a h:Xy} (l:K.lookup f=some ⟨i,j,.func (YC x qual (cO st) (bY st) (ag st) .none kV b g e a h),d⟩)
  (c:YP K a qual=true) (k:YF K (.ref f)=true):Fun K x qual st f (YC x qual (cO st) (bY st) (ag st) .none kV b g e a h):=⟨⟨i,j,kV,b,g,e,a,h,d,rfl,l,c⟩,k⟩
theorem Jf {k:Nat} (hr:bM k A):A.units+1<cLine:=Wb (Nat.add_le_add_left (by decide:1<=64) _) hr.units
theorem pv (i:Nat) {pos:Pos} (d:X.N[i]? = some x:=by rfl) (b:Vis X.env.scope x:=by first | exact Or.inl rfl | exact Or.inr (Or.inl rfl) | exact Or.inr (Or.inr rfl)) (c:(x == ("__debug__" : Str))=false:=by decide)
  (a:(x == ("__classdict__" : Str))=false:=by decide):PE X (.Name x pos) (rD i):=MQ d b c a
theorem br {A B:Prop} (h:B):if false=true then A else B:=by
 rw[Zo UO];exact h
theorem cq {A B:Prop} (h:A):if true=true then A else B:=by
 rw[Zn rfl];exact h
theorem uX {c A B:Prop} [Decidable c] (h1:c->A) (h2:¬ c->B):if c then A else B:=by
 by_cases h:c
 ·rw[Zn h];exact h1 h
 ·rw[Zo h];exact h2 h
def af (H H':Hp):Prop:=∀b o,H b=some o->H' b=some o
theorem af.refl (H:Hp):af H H:=λ_ _ h=>h
theorem af.trans (a:af H H1) (b:af H1 H2):af H H2:=λc o h=>b c o (a c o h)
theorem af.free (e:af H H') {l:Za} (h:H' l=Option.none):H l=Option.none:=by
 cases q:H l with
 | none=>rfl
 | some o=>
  rw[e l o q]at h;cases h
theorem af.seq (e:af H H') (h:SqL K H a xs):SqL K H' a xs:=by
 rcases h with(h | ⟨o,h⟩) | h
 ·exact .inl (.inl (e _ _ h))
 ·exact .inl (.inr ⟨o,e _ _ h⟩)
 ·exact .inr h
section
variable [DecidableEq κ]
def fB (kvs:List (κ×V)) (k:κ):Option V:=(kvs.find? λkv=>decide (kv.1=k)).map (·.2)
def putK (kvs:List (κ×V)) (k:κ) (v:V):List (κ×V):=
 if (kvs.any λkv=>decide (kv.1=k))=true then kvs.map (λkv=>if kv.1=k then(kv.1,v)else kv)else kvs++[(k,v)]
theorem j3 {p:κ×V}{r:List (κ×V)}{k:κ} (e:p.1=k):fB (p::r) k=some p.2:=by simp[fB,Vw,e]
theorem pN {p:κ×V}{r:List (κ×V)}{k:κ} (e:¬ p.1=k):fB (p::r) k=fB r k:=by simp[fB,Vw,e]
theorem A5 (k:κ):∀kvs:List (κ×V),(kvs.any λkv=>decide (kv.1=k))=(fB kvs k).isSome
 | []=>rfl
 | p::r=>by
  rw[Vt];by_cases e:p.1=k
  ·simp only[j3 e,Zk e,Bool.true_or,Option.isSome_some]
  ·rw[pN e,Zl e,Bool.false_or];exact A5 k r
theorem mL (kvs:List (κ×V)) (k:κ) (v:V):(putK kvs k v).length<=kvs.length+1:=by
 unfold putK
 split
 ·rw[UA];lia
 ·rw[UH,U1,VH];lia
theorem jZ.E6 {o:Option V}{u:Option Xy} (r:jZ o u):o.isSome=u.isSome:=by
 cases o with
 | none=>cases u with
  | none=>rfl
  | some _=>exact(show False from r).elim
 | some _=>cases u with
  | none=>exact(show False from r).elim
  | some _=>rfl
theorem jZ.getD {o:Option V}{u:Option Xy}{d:V}{d':Xy} (r:jZ o u) (a:RelV d d'):RelV (o.getD d) (u.getD d'):=by
 cases o with
 | none=>cases u with
  | none=>exact a
  | some _=>exact(show False from r).elim
 | some _=>cases u with
  | none=>exact(show False from r).elim
  | some _=>exact r
theorem KV.val {kvs:List (κ×V)}{vs:List (κ×Xy)} (r:KV kvs vs) (k:κ):jZ (fB kvs k) (valueAt vs k):=by
 unfold KV at r
 induction r with
 | nil=>exact True.intro
 | @cons p q ps qs h t ih=>
  obtain⟨c,d⟩:=h;by_cases e:p.1=k
  ·have a:q.1=k:=c.symm.trans e;have b:valueAt (q::qs) k=some q.2:=by simp[valueAt,Vw,a]
   rw[j3 e,b];exact d
  ·have a:¬ q.1=k:=λz=>e (c.trans z);have b:valueAt (q::qs) k=valueAt qs k:=by simp[valueAt,Vw,a]
   rw[pN e,b];exact ih
theorem KV.any {kvs:List (κ×V)}{vs:List (κ×Xy)} (r:KV kvs vs) (k:κ):(kvs.any λkv=>decide (kv.1=k))=vs.any λkv=>decide (kv.1=k):=by
 unfold KV at r
 induction r with
 | nil=>rfl
 | cons h t a=>rw[Vt,Vt,a,h.1]
theorem KV.Nv {kvs:List (κ×V)}{vs:List (κ×Xy)} (r:KV kvs vs) (k:κ) {y:V} (b:RelV y u) :
  KV (kvs.map λkv=>if kv.1=k then(kv.1,y)else kv) (vs.map λkv=>if kv.1=k then(kv.1,u)else kv):=by
 unfold KV at r ⊢
 induction r with
 | nil=>exact .nil
 | @cons p q ps qs h t ih=>
  rw[UW,UW];refine .cons ?_ ih;obtain⟨a,c⟩:=h;by_cases e:p.1=k
  ·rw[Zn e,Zn (a.symm.trans e)];exact⟨a,b⟩
  ·rw[Zo e,Zo (λz=>e (a.trans z))];exact⟨a,c⟩
theorem KV.put {kvs:List (κ×V)}{vs:List (κ×Xy)} (r:KV kvs vs) (k:κ) {y:V} (a:RelV y u):KV (putK kvs k y) (stored vs k u):=by
 unfold putK stored;rw[r.any k];by_cases e:(vs.any λb=>decide (b.1=k))=true
 ·rw[Zn e,Zn e];exact r.Nv k a
 ·rw[Zo e,Zo e];exact Paired.snoc r ⟨rfl,a⟩
theorem KV.length {kvs:List (κ×V)}{vs:List (κ×Xy)} (r:KV kvs vs):kvs.length=vs.length:=Paired.length r
end
theorem A7 {k:Key} (r:RelV (kV k) u):(a9 P w).is k u=true:=by
 cases k with
 | inl i=>obtain⟨t,e⟩:=(show∃t,u=Value.int i t from r);subst e;exact Ah P w i t
 | inr x=>obtain⟨t,e⟩:=(show∃t,u=Value.str x t from r);subst e;exact jy P w x t
theorem xS {P:Zd}{w:Ze}:∀{ks:List Key}{us:WF},aQ (ks.map kV) us->ItemsAre (a9 P w) ks us
 | [],_,r=>by rw[VQ]at r;cases r;exact .nil
 | k::ks,_,r=>by
  rw[UW]at r;cases r with
  | cons h t=>exact .cons (A7 h) (xS t)
abbrev KT (H:Hp):List (List Key×V)->List (List Key×Za×Xy)->Prop:=Paired λp q=>p.1=q.1/\H q.2.1=some (.tup (p.1.map kV))/\RelV p.2 q.2.2
theorem KT.val {kvs:List (List Key×V)}{xs:List (List Key×Za×Xy)} (r:KT H kvs xs) (k:List Key):jZ (fB kvs k) ((atKey xs k).map (·.2)):=by
 induction r with
 | nil=>exact True.intro
 | @cons p q ps qs h t ih=>
  obtain⟨c,_,d⟩:=h;by_cases e:p.1=k
  ·have a:q.1=k:=c.symm.trans e;have b:atKey (q::qs) k=some q.2:=by simp[atKey,Vw,a]
   rw[j3 e,b];exact d
  ·have a:¬ q.1=k:=λz=>e (c.trans z);have b:atKey (q::qs) k=atKey qs k:=by simp[atKey,Vw,a]
   rw[pN e,b];exact ih
theorem KT.Nv {kvs:List (List Key×V)}{xs:List (List Key×Za×Xy)} (r:KT H kvs xs) (k:List Key) {y:V} (c:RelV y u) :
  KT H (kvs.map λkv=>if kv.1=k then(kv.1,y)else kv) (xs.map (putAt k u)):=by
 induction r with
 | nil=>exact .nil
 | @cons p q ps qs h t ih=>
  rw[UW,UW];refine .cons ?_ ih;obtain⟨a,b,d⟩:=h;unfold putAt;by_cases e:p.1=k
  ·rw[Zn e,Zn (a.symm.trans e)];exact⟨a,b,c⟩
  ·rw[Zo e,Zo (λz=>e (a.trans z))];exact⟨a,b,d⟩
theorem KT.put {kvs:List (List Key×V)}{xs:List (List Key×Za×Xy)} (r:KT H kvs xs) (k:List Key) {y:V} (d:H b=some (.tup (k.map kV))) (a:RelV y u) :
  KT H (putK kvs k y) (storedH xs k b u):=by
 have e:(kvs.any λc=>decide (c.1=k))=(atKey xs k).isSome:=by
  rw[A5,(r.val k).E6,Option.isSome_map]
 unfold putK storedH;rw[e];by_cases q:(atKey xs k).isSome=true
 ·rw[Zn q,Zn q];exact r.Nv k a
 ·rw[Zo q,Zo q];exact Paired.snoc r ⟨rfl,d,a⟩
theorem KT.keeps {kvs:List (List Key×V)}{xs:List (List Key×Za×Xy)} (r:KT H kvs xs) (a:∀b ys,H b=some (.tup ys)->H' b=some (.tup ys)):KT H' kvs xs:=
 Paired.Np r λ_ _ z=>⟨z.1,a _ _ z.2.1,z.2.2⟩
theorem Ml {u:HO} (ok:HOk P w H h) (e:Rd H a u):cg P w H h a u:=e.ok ok
theorem uL (ok:HOk P w H h) (e:Rd H a (.dK kvs)):kvs.length<=Zg/\(a == sysModules)=false/\∃vs,KV kvs vs/\h.DictOf (a9 P w) a vs:=
 show cg P w H h a (.dK kvs)from Ml ok e
theorem Mj (ok:HOk P w H h) (e:H a=some (.dK kvs)):kvs.length<=Zg/\(a == sysModules)=false/\∃vs,KV kvs vs/\h.DictOf (a9 P w) a vs:=uL ok (.inl e)
theorem yM (d:HOk P w H h) (e:H a=some (.tup (ks.map kV))):(tupleKind (a9 P w)).is h ks a:=by
 obtain⟨_,b,r,o,c,f,n,g⟩:=(show cg P w H h a (.tup (ks.map kV))from d a _ e);exact⟨o,b.toArray,n,c,f,g,by simpa using xS r⟩
theorem Bb {kvs:List (List Key×V)} (d:HOk P w H h) (e:Rd H a (.dT kvs)):kvs.length<=Zg/\(a == sysModules)=false /\
  ∃xs,KT H kvs xs/\h.DictOfH (tupleKind (a9 P w)) a xs:=by
 obtain⟨z,y,xs,r,o,j,k,n,g,i,f,s⟩:=(show cg P w H h a (.dT kvs)from Ml d e);refine⟨z,y,xs,r,o,j,k,n,g,i,f,λx b=>?_,s⟩;have c:∀{l:List (List Key×V)}{m:List (List Key×Za×Xy)},KT H l m->∀x∈m,(tupleKind (a9 P w)).is h x.1 x.2.1:=by
  intro l m q
  induction q with
  | nil=>intro x b;exact nomatch b
  | @cons p q ps qs hq t ih=>
   intro x b;rcases UR.mp b with e | b
   ·subst e;exact yM d (by rw[<-hq.1];exact hq.2.1)
   ·exact ih x b
 exact c r x b
theorem Q3 {kvs:List (List Key×V)} (ok:HOk P w H h) (e:H a=some (.dT kvs)):kvs.length<=Zg/\(a == sysModules)=false /\
  ∃xs,KT H kvs xs/\h.DictOfH (tupleKind (a9 P w)) a xs:=Bb ok (.inl e)
def zq (H:Hp) (a:Za) (y:V) (r:Option V):Prop:=
 (∃kvs k,Rd H a (.dK kvs)/\y=kV k/\r=fB kvs k)\/∃kvs k b,Rd H a (.dT kvs)/\y = .ref b/\H b=some (.tup (k.map kV))/\r=fB kvs k
def GR (H:Hp) (a:Za) (y v:V) (H':Hp):Prop:=
 (∃kvs k,H a=some (.dK kvs)/\y=kV k/\kvs.length<Zg/\H' = upd H a (.dK (putK kvs k v))) \/
 ∃kvs k b,H a=some (.dT kvs)/\y = .ref b/\H b=some (.tup (k.map kV))/\kvs.length<Zg/\H' = upd H a (.dT (putK kvs k v))
theorem zq.k {k:Key} (e:H a=some (.dK kvs)):zq H a (kV k) (fB kvs k):=.inl ⟨kvs,k,.inl e,rfl,rfl⟩
theorem GR.k {k:Key} (e:H a=some (.dK kvs)) (hl:kvs.length<Zg):GR H a (kV k) v (upd H a (.dK (putK kvs k v))):=.inl ⟨kvs,k,e,rfl,hl,rfl⟩
section
variable {y:V}{r:Xy}{o:Option V}
theorem Inv.big (I:Inv X pins σ H s):sysModules<s.heap.objs.size:=by
 have h:mainGlobals<s.heap.objs.size:=(I.mod.glob.keeps I.bk).lt;exact Wk (by decide) h
theorem EA (D:A.units+1<cLine) (I:Inv X pins σ H s) (g:zq H a y (some v)) (q:RelV y u) (h:∀w' s',Inv X pins σ H s'->RelV v w'->Q w' s') :
  Zh (model X.prog X.w) A (getItem (.ref a) u) Q E s:=by
 rcases g with⟨i,k,e,n,l⟩ | ⟨i,k,b,e,n,t,l⟩
 ·subst n;obtain⟨z,r,C,d,j⟩:=uL I.hok e;obtain⟨w',f,c⟩:=jZ.some_of (v:=v) (o:=valueAt C k) (by rw[l];exact d.val k);exact wpAny_getItem_of (A7 q) j.mapOf f (h w' _ (I.tok _) c)
 ·subst n;cases(show u=Value.ref b from q);obtain⟨z,r,B,d,j⟩:=Bb I.hok e;obtain⟨w',f,c⟩:=jZ.some_of (v:=v) (o:=(atKey B k).map (·.2)) (by rw[l];exact d.val k)
  obtain⟨p,x,m⟩:=Option.map_eq_some_iff.mp f;refine wpAny_getItem_heap (tupleKind_room_in1 D) (yM I.hok t) j x ?_;rw[m];exact h w' _ (I.tok _) c
theorem ym {t':Nat}{c:HO} (I:Inv X pins σ H s) (mu:Mut (H a)) (g:YI a s.heap h') (h:∃q,h'.get? a=some q) (d:cg X.prog X.w (upd H a c) h' a c) :
  Inv X pins σ (upd H a c) { s with heap:=h',toks:=t' }:=
 I.write (x:=a) (e:=a) mu (.inl rfl) (λb q f z=>(g.2 b f).trans z) h d
theorem IV {vs:List (Key×Xy)} (z:kvs.length<=Zg) (c:(a == sysModules)=false) (b:KV kvs vs) (d:h'.DictOf (a9 P w) a vs) :
  cg P w H' h' a (.dK kvs):=⟨z,c,vs,b,d⟩
theorem Fh {Q:Unit->Xx->Prop} (S:A.units+1<cLine) (I:Inv X pins σ H s) (g:GR H a y v H') (F:RelV y u) (G:RelV v r) (h:∀s',Inv X pins σ H' s'->Q () s') :
  Zh (model X.prog X.w) A (setItem (.ref a) u r) Q E s:=by
 rcases g with⟨f,k,e,x,l,n⟩ | ⟨f,k,b,e,x,B,l,n⟩
 ·subst x n;obtain⟨z,j,R,d,t⟩:=Mj I.hok e;have o:R.length<=Zg:=by rw[<-d.length];exact z
  have p:(putK f k v).length<=Zg:=by have:=mL f k v;lia
  refine wpAny_setItem_pairs (hsz:=o) (A7 F) t λD i m=>h _ ?_;have L:∃q,D.get? a=some q:=let ⟨q,_,_,hq,_⟩:=i;⟨q,hq⟩;exact ym I (by rw[e];exact True.intro) m L (IV p j (d.put k G) i)
 ·subst x n;cases(show u=Value.ref b from F);obtain⟨z,j,M,d,t⟩:=Q3 I.hok e;have o:M.length<=Zg:=by rw[<-Paired.length d];exact z
  have p:(putK f k v).length<=Zg:=by have:=mL f k v;lia
  refine wpAny_setItem_heap (hsz:=o) (tupleKind_room_in1 S) (yM I.hok B) t λD i m=>h _ ?_;obtain⟨q,O,P,hq,K,N,J,_,T⟩:=i;refine ym I (by rw[e];exact True.intro) m ⟨q,hq⟩ ⟨p,j,_,(d.put k B G).keeps λc _ C=>?_,q,O,P,hq,K,N,J,T⟩;rw[ap (QV C e (λz=>nomatch z))]
  exact C
end
section
variable {k:Key}
end
def O0 (i:Expr):Prop:=∀ov iv,subscripted i false ov iv=operate [ov,iv] (getItem ov iv)
theorem LJ {a:Expr}{T id:String}
  (j:typeLookup (.type T) "__getitem__" = pure (some (.builtin id))) (g:O0 a)
  (h:Zh (model prog w) A (eval value env) (λo s₁=>Zh (model prog w) A (eval a env) (λi s₂=>s₂.TypeIs o T/\Zh (model prog w) A (getItem o i) Q E s₂) E s₁) E s) :
  Zh (model prog w) A (eval (.Subscript value a pos) env) Q E s:=by
 refine Subscript_ (Xs h (λo s₁ e=>Xs e (λi s₂ b=>?_) λ_ _ x=>x) λ_ _ x=>x);obtain⟨hT,b⟩:=b;unfold subscriptTail;refine Xw ?_;rw[getitemInPython_of_ne hT.not_modules];refine Xw (wpAny_specialOf hT j ?_);have d:Zh (model prog w) A (subscripted a false o i) (λr c=>Zh (model prog w) A (letTemporaryGo value o r >>= λ_=>pure r) Q E c) E s₂:=by
  rw[g o i];exact wpAny_operating (Xs b (λr c f=>Xw (wpAny_letTemporaryGo (Xv f))) λ_ _ x=>x)
 first
  | exact Xv (Xw d)
  | exact Xw (Xv (Xw d))
  | exact Xw d
theorem Br {y:V}{o:Option V} (I:Inv X pins σ H s) (g:zq H a y o):s.TypeIs (.ref a) "dict" :=by
 rcases g with⟨c,k,e,_,_⟩ | ⟨c,k,b,e,_,_,_⟩
 ·obtain⟨_,_,_,_,d⟩:=uL I.hok e;exact d.typeIs
 ·obtain⟨_,_,_,_,d⟩:=Bb I.hok e;exact d.typeIs
def Pq (td ty:TE):TE:=λσ H Q=>td σ H λx H1=>ty σ H1 λy H2=>∃a v,x = .ref a/\zq H2 a y (some v)/\Q v H2
def PQ (td ty tv:TE):TS:=λD σ H=>tv σ H λv H1=>td σ H1 λx H2=>ty σ H2 λy H3=>∃a H4,x = .ref a/\GR H3 a y v H4/\D.nx σ H4
section
variable {o i:Expr}
theorem JU (z:X.A.units+1<cLine) (w:PE X o td) (hi:PE X i ty) (k:O0 i):PE X (.Subscript o i pos) (Pq td ty):=by
 intro b s e H Q I h;refine LJ PySem.F.slot_dict_getitem.lookup k (thn (w b s e H _ I h) λu n ⟨x,q,l,m,B⟩=>thn (hi b n e q _ l B) λ_ _ ⟨y,f,d,j,a,v,p,g,t⟩=>?_);subst p;obtain rfl:u=Value.ref a:=m;exact⟨Br d g,EA z d g j λ_ _ r c=>⟨v,f,r,c,t⟩⟩
theorem Kk (F:X.A.units+1<cLine) (E:PE X o td) (hi:PE X i ty) (k:PE X value tv) (f:swapsWith value (some (.Subscript o i pos')) pos.line X.env=pure false) :
  PS X (.Assign [.Subscript o i pos'] value pos) (PQ td ty tv):=by
 intro b s c H D I h;refine wpAny_Assign_Subscript (thn (k b s c H _ I h) λr q ⟨v,w,j,m,J⟩=>thn (E b q c w _ j J) λu G ⟨x,d,n,l,B⟩=>thn (hi b G c d _ n B) λ_ _ ⟨y,_,z,e,a,p,t,g,K⟩=>?_) f;subst t;obtain rfl:u=Value.ref a:=l;exact Fh F z g e m λ_ C=>⟨c,p,C,K⟩
end
theorem JF (h:Heap) (a:sysModules<h.objs.size):cg P w H (h.push { cls:=.type "dict",data:=.dict #[] }) h.objs.size (.dK []):=
 ⟨UU _,beq_eq_false_iff_ne.mpr (YR (U2 a)),[],.nil,Heap.DictOf.new h⟩
def MA:TE:=λ_ H Q=>∀p,H p=none->Q (.ref p) (upd H p (.dK []))
theorem Bo:PE X (.Dict [] [] pos) MA:=λ_ s _ H Q I h=>
 wpAny_Dict_empty ⟨.ref s.heap.objs.size,_,I.laid (a:=s.heap.objs.size) (o:=.dK []) (t':=s.toks) (λ_ _ q=>Xu _ q) (UD _) (JF s.heap I.big),rfl,h _ (I.hok.fresh (UD _))⟩
structure M1 (X:Cx) (o:Expr) (m:Str) (apos:Pos) (e:Expr) (dD:Pos):Prop where
 base:attributeBase o m X.env (eval o X.env)=eval o X.env
 few:((backTo dD (Zi [e] X.env)).all (λx=>!x.1) && (backToKw dD (keywordEach [] X.env)).all (λx=>x.1.isSome)
  && decide (([e]:List Expr).length+([]:List Keyword).length+(if ([]:List Keyword).isEmpty then 0 else 1)<30))=true
 line:(apos.endLine == dD.line)=true
 HJ:backTo dD (Zi [e] X.env)=[(false,eval e X.env)]
structure M2 (X:Cx) (o:Expr) (m:Str) (apos:Pos) (e f:Expr) (dD:Pos):Prop where
 base:attributeBase o m X.env (eval o X.env)=eval o X.env
 few:((backTo dD (Zi [e,f] X.env)).all (λx=>!x.1) && (backToKw dD (keywordEach [] X.env)).all (λx=>x.1.isSome)
  && decide (([e,f]:List Expr).length+([]:List Keyword).length+(if ([]:List Keyword).isEmpty then 0 else 1)<30))=true
 line:(apos.endLine == dD.line)=true
 HJ:backTo dD (Zi [e,f] X.env)=[(false,eval e X.env),(false,eval f X.env)]
def IsD (H:Hp) (a:Za):Prop:=(∃kvs,Rd H a (.dK kvs))\/∃kvs,Rd H a (.dT kvs)
theorem Dg (I:Inv X pins σ H s) (d:IsD H a) :
  s.TypeIs (.ref a) "dict" /\ (∀b,Value.ref a = .ref b->∃ob,s.heap.get? b=some ob/\ob.dict=none)/\(a == sysModules)=false:=by
 rcases d with⟨f,e⟩ | ⟨f,e⟩
 ·obtain⟨_,g,_,_,c⟩:=uL I.hok e;refine⟨c.typeIs,λb q=>?_,g⟩;cases q;obtain⟨ob,_,_,h,i,_⟩:=c;exact⟨ob,h,i.2.1⟩
 ·obtain⟨_,g,_,_,c⟩:=Bb I.hok e;refine⟨c.typeIs,λb q=>?_,g⟩;cases q;obtain⟨ob,_,_,h,i,_⟩:=c;exact⟨ob,h,i.2.1⟩
section
variable {y d:V}{r:Xy}{o:Option V}
theorem Oh (v:A.units+1<cLine) (I:Inv X pins σ H s) (g:zq H a y o) (p:RelV y u) (n:RelV d r) (h:∀w' s',Inv X pins σ H s'->RelV (o.getD d) w'->Q w' s') :
  Zh (model X.prog X.w) A (call (.builtin "dict.get") [.ref a,u,r]) Q E s:=by
 rcases g with⟨i,k,e,m,l⟩ | ⟨i,k,b,e,m,q,l⟩
 ·subst m;obtain⟨z,j,_,c,f⟩:=uL I.hok e;refine call_meetsIn PySem.F.slot_dict_get f.typeIs PySem.F.entry_dict_get (PySem.F.args_dict_get_3 _ _ _) (meets_dict_get_default (a9 X.prog X.w) a (A7 p) j r) ⟨_,f.mapOf,h _ _ (I.tok _) ?_⟩;rw[l];exact(c.val k).getD n
 ·subst m;cases(show u=Value.ref b from p);obtain⟨z,j,t,c,f⟩:=Bb I.hok e;refine call_meetsIn PySem.F.slot_dict_get f.typeIs PySem.F.entry_dict_get (PySem.F.args_dict_get_3 _ _ _) (meetsH_dict_get_default (tupleKind (a9 X.prog X.w)) a b j r) ⟨tupleKind_room_in1 v,k,t,yM I.hok q,f,h _ _ (I.tok _) ?_⟩;rw[l];exact(c.val k).getD n
end
def N3 (td ty tx:TE):TE:=λσ H Q=>td σ H λx H1=>∃a,x = .ref a/\IsD H1 a/\ty σ H1 λy H2=>tx σ H2 λz H3=>∃o,zq H3 a y o/\Q (o.getD z) H3
section
variable {o f:Expr}
theorem Ic (M:X.A.units+1<cLine) (K:PE X o td) (n:PE X e ty) (q:PE X f tx) (m:M2 X o "get" apos e f dD):PE X (.Call (.Attribute o "get" apos) [e,f] [] dD) (N3 td ty tx):=by
 intro b s i H Q I h;refine wpAny_Call_method m.base m.few m.line PySem.F.plainAttrs_dict PySem.F.slot_dict_get PySem.F.type_dict_get (thn (K b s i H _ I h) λu w ⟨x,D,j,p,a,B,d,O⟩=>?_);subst B;obtain rfl:u=Value.ref a:=p;obtain⟨v,t,_⟩:=Dg j d;refine⟨v,t,?_⟩;rw[m.HJ];refine YM rfl (Calls.evalArgs_plain (YD (thn (n b w i D _ j O) λ_ N ⟨y,k,r,l,G⟩=>
  YD (thn (q b N i k _ r G) λ_ _ ⟨z,C,E,L,_,g,P⟩=>YU ?_))))
 exact Oh M E g l L λ_ _ J c=>⟨_,C,J,c,P⟩
end
section
variable {y:V}
end
def gQ (cells:List (Str×Za)):List (Str×NameKind)->List (Str×Za)->List (Str×Za)
 | [],acc=>acc
 | (n,k)::r,acc=>gQ cells r (if (k == NameKind.free)=true then(match cells.lookup n with | some c=>(n,c)::acc | none=>acc)else acc)
theorem hJ {env:Env}:∀(names:List (Str×NameKind)) (acc:List (Str×Za)),(∀y∈names,y.2 = .free->∃c,env.cells.lookup y.1=some c) ->
  (forIn (m:=Sem) names acc λ(x:Str×NameKind) r=>(match x with | (name,kind)=>if (kind == NameKind.free)=true then(do let a <-cellOf env name;pure (ForInStep.yield ((name,a)::r)))else pure (ForInStep.yield r)))=pure (gQ env.cells names acc)
 | [],acc,_=>rfl
 | (n,k)::r,acc,h=>by
  rw[Ws];unfold gQ;by_cases d:(k == NameKind.free)=true
  ·obtain⟨c,e⟩:=h (n,k) UM (by simpa using d);simp only[d,if_true];have g:cellOf env n=pure c:=by unfold cellOf;rw[show env.cells.lookup n=some c from e]
   rw[g,show env.cells.lookup n=some c from e];simp only[pure_bind];exact hJ r _ λy b=>h y (UJ _ b)
  ·have f:(k == NameKind.free)=false:=by simpa using d
   simp only[f,Ve,if_false,pure_bind];exact hJ r _ λy b=>h y (UJ _ b)
theorem vh (h:∀y∈scope.names,y.2 = .free->∃c,env.cells.lookup y.1=some c):closureFor scope env=pure (gQ env.cells scope.names []):=by
 have e:=hJ (env:=env) scope.names [] h;unfold closureFor;simp only[bind_pure];exact e
theorem qy {a:List (Str×Za)}{x:Str}{c:Za}:∀(names:List (Str×NameKind)) (acc:List (Str×Za)),(∀y d,acc.lookup y=some d->a.lookup y=some d)->(gQ a names acc).lookup x=some c->a.lookup x=some c
 | [],acc,ha,h=>ha _ _ h
 | (n,k)::r,acc,ha,h=>by
  unfold gQ at h;refine qy r _ (λy d b=>?_) h
  split at b
  ·split at b
   ·rename_i c' e';rw[Vx]at b;cases hb:y == n with
    | true=>rw[hb]at b;cases b;rw[beq_iff_eq.mp hb];exact e'
    | false=>rw[hb]at b;exact ha _ _ b
   ·exact ha _ _ b
  ·exact ha _ _ b
theorem j5 {n:Str}{acc:List (Str×Za)} (h:∃d,acc.lookup x=some d):∃d,((n,c)::acc).lookup x=some d:=by
 rw[Vx];cases x == n with
 | true=>exact⟨_,rfl⟩
 | false=>exact h
theorem pL {a:List (Str×Za)}{x:Str}:∀(names:List (Str×NameKind)) (acc:List (Str×Za)),((∃d,acc.lookup x=some d)\/((x,NameKind.free)∈names/\∃d,a.lookup x=some d))->∃d,(gQ a names acc).lookup x=some d
 | [],acc,h=>by
  rcases h with h | ⟨h,_⟩
  ·exact h
  ·cases h
 | (n,k)::r,acc,h=>by
  unfold gQ;refine pL r _ ?_;rcases h with h | ⟨h,d,b⟩
  ·refine .inl ?_
   split
   ·split
    ·exact j5 h
    ·exact h
   ·exact h
  ·rcases UR.mp h with e | h
   ·cases e;refine .inl ?_;rw[Zn (by decide),b];exact⟨d,by rw[Vx];simp⟩
   ·exact .inr ⟨h,d,b⟩
theorem du:∀(names:List (Str×NameKind)) (n:Nat) (acc:List (Str×Za)),cellsFrom n names acc=cellsFrom n names []++acc
 | [],n,acc=>rfl
 | (x,k)::r,n,acc=>by
  unfold cellsFrom
  split
  ·rw[du r _ ((x,n)::acc),du r _ [(x,n)]];simp
  ·exact du r n acc
theorem pj {x:Str}{c:Za}:∀{l l':List (Str×Za)},(l++l').lookup x=some c->l.lookup x=some c\/l'.lookup x=some c
 | [],_,h=>.inr h
 | (n,d)::r,l',h=>by
  rw[W2,Vx]at h;rw[Vx];cases hb:x == n with
  | true=>rw[hb]at h;exact .inl h
  | false=>rw[hb]at h;exact pj h
theorem bL {x:Str}:∀(names:List (Str×NameKind)) (n:Nat) (acc:List (Str×Za)),((∃d,acc.lookup x=some d)\/(x,NameKind.cell)∈names)->∃d,(cellsFrom n names acc).lookup x=some d
 | [],n,acc,h=>by
  rcases h with h | h
  ·exact h
  ·cases h
 | (y,k)::r,n,acc,h=>
  by
  unfold cellsFrom;rcases h with h | h
  ·split
   ·exact bL r _ _ (.inl (j5 h))
   ·exact bL r _ _ (.inl h)
  ·rcases UR.mp h with e | h
   ·cases e;rw[Zn (by decide)];exact bL r _ _ (.inl ⟨n,by rw[Vx];simp⟩)
   ·split
    ·exact bL r _ _ (.inr h)
    ·exact bL r _ _ (.inr h)
def JZ (scope:Scope) (C:Za) (env:Env):Env:=
 { scope:=relabel scope env,locals:=C,globals:=env.globals,cells:=cellsFrom (C+1) scope.names (gQ env.cells scope.names []),qual:=env.qual,func:=none,code:=env.code,frame:=env.frame,builtins:=env.builtins }
theorem rO {k:NameKind} (h:(relabel scope env).names.lookup x=some k):∃k',(x,k')∈scope.names/\(k' = k\/(k' = .free/\k = .cell/\env.kindOf x=some .cell)):=by
 have b:=UE.mp (mem_of_lookup h);obtain⟨⟨n,q⟩,a,e⟩:=b;dsimp only at e
 split at e
 ·rename_i hc;injection e with e1 e2;subst e1;refine⟨q,a,.inr ?_⟩;simp only[Vm,beq_iff_eq]at hc;exact⟨hc.1.1,e2.symm,hc.2⟩
 ·injection e with e1 e2;subst e1;exact⟨q,a,.inl e2⟩
def gb (X:Cx) (scope:Scope) (N':Uq) (s:Xx) (H:Hp) (fp:Uz):Cx where
 prog:=X.prog
 w:=X.w
 K:=X.K
 mg:=X.mg
 base:=X.base
 A:=X.A
 N:=N'
 s₀:=s
 H₀:=H
 env:=JZ scope s.heap.objs.size X.env
 outer:=X.stack
 stack:=X.stack
 ex:=fp
 calm:=X.calm
 fn:=λx=>decide ((x,NameKind.cell)∈scope.names/\(x,NameKind.free)∉scope.names)
 pn:=[]
 xe:=λ_ _=>False
def sub (n:Nat) (fi:List Nat) (σ:St):St:=List.replicate n none++fi.map λk=>(σ[k]?).join
theorem sub_len (n:Nat) (fi:List Nat) (σ:St):(sub n fi σ).length=n+fi.length:=by simp[sub]
structure mh (X:Cx) (scope:Scope) (N':Uq) (n:Nat) (fi:List Nat):Prop where
 kind:scope.kind = .function
 names:∀y∈scope.names,y.2 = .local->scope.names.lookup y.1=some .local
 free:∀y∈scope.names,y.2 = .free->X.env.kindOf y.1=some .cell\/X.env.kindOf y.1=some .free
 len:N'.length=n+fi.length
 at':∀(j:Nat) (k:Nat),fi[j]? = some k->∃x,N'[n+j]? = some x/\X.N[k]? = some x/\scope.names.lookup x=some .free/\(x,NameKind.cell)∉scope.names
theorem Ke {M:Model}{A:Zc}{E:Xy->Xx->Prop}{globals:Za}{j:List (Str×Za)}{qual:Str}{env:Env}{Q:Env->Xx->Prop}
  (h:∀h',h'.Ns s.heap.objs.size (λ_=>none)->(∀b o,s.heap.get? b=some o->h'.get? b=some o)->CellsOk h' (s.heap.objs.size+1) (cellsFrom (s.heap.objs.size+1) scope.names []) ->
   Q { scope,locals:=s.heap.objs.size,globals,cells:=cellsFrom (s.heap.objs.size+1) scope.names j,qual,func:=none,code:=env.code,frame:=env.frame,builtins:=env.builtins } { s with heap:=h' }) :
  Zh M A (newFunctionEnv scope globals j [] qual none .none (some env)) Q E s:=by
 have c:(s.heap.push { cls:=.type "dict",data:=.dict #[] }).objs.size=s.heap.objs.size+1:=YZ ..;have a:∀b o,s.heap.get? b=some o->(s.heap.push { cls:=.type "dict",data:=.dict #[] }).get? b=some o:=λb o e=>Xu _ e;have d:=Heap.Ns.new s.heap (.type "dict");simp only[newFunctionEnv,if_true,Option.isSome_some];refine Xw (wpAny_alloc ?_);generalize s.heap.push { cls:=.type "dict",data:=.dict #[] }=h1 at c a d;have k:CellsOk h1 (s.heap.objs.size+1) []:=⟨(λ_ _ z=>by cases z),List.Pairwise.nil⟩;have f:=cellsFrom_ok scope.names h1 _ [] k (W4 c.symm);have g:=pushCells_keeps scope.names h1;rw[c]at f;refine Xw (wpAny_layCells _ (λ_ i _=>?_) scope.names j { s with heap:=h1 } _ (Xw (Xv (Xv ?_))))
 ·cases e:i == NameKind.cell <;> simp[e]
 ·show Q { scope,locals:=s.heap.objs.size,globals,cells:=cellsFrom h1.objs.size scope.names j,qual,func:=none,code:=env.code,frame:=env.frame,builtins:=env.builtins } _;rw[c];exact h _ (d.keeps g) (λb o e=>g b o (a b o e)) f
theorem mh.Ma (S:mh X scope N' n fi) (ok:X.Ok):∀y∈scope.names,y.2 = .free->∃c,X.env.cells.lookup y.1=some c:=λy hy hk=>ok.has _ (S.free y hy hk)
theorem j9 (h:(JZ scope C X.env).cells.lookup x=some c):(cellsFrom (C+1) scope.names []).lookup x=some c\/X.env.cells.lookup x=some c:=by
 have a:(cellsFrom (C+1) scope.names (gQ X.env.cells scope.names [])).lookup x=some c:=h;rw[du]at a;rcases pj a with z | z
 ·exact .inl z
 ·exact .inr (qy _ _ (λ_ _ q=>by cases q) z)
theorem cellsFrom_names {x:Str}{c:Za}:∀(names:List (Str×NameKind)) (k:Nat) (acc:List (Str×Za)),(x,c)∈cellsFrom k names acc->(x,NameKind.cell)∈names\/(x,c)∈acc
 | [],_,_,h=>.inr h
 | (y,q)::r,k,acc,h=>by
  unfold cellsFrom at h
  split at h
  ·rename_i hq;have a:q = .cell:=by simpa using hq
   subst a;rcases cellsFrom_names r _ _ h with z | z
   ·exact .inl (UJ _ z)
   ·rcases UR.mp z with e | z
    ·cases e;exact .inl UM
    ·exact .inr z
  ·rcases cellsFrom_names r _ _ h with z | z
   ·exact .inl (UJ _ z)
   ·exact .inr z
theorem Fo (I:Inv X pins σ H s) (S:mh X scope N' n fi) (K:∀b∈fp,cA X pins H b) (ho:∀b∈fp,∃o,s.heap.get? b=some o)
  (T:h'.Ns s.heap.objs.size (λ_=>none)) (t:∀b o,s.heap.get? b=some o->h'.get? b=some o) (hc:CellsOk h' (s.heap.objs.size+1) (cellsFrom (s.heap.objs.size+1) scope.names [])) :
  Inv (gb X scope N' s H fp) [] (sub n fi σ) H { s with heap:=h' }:=by
 have D:∀{b:Za}{o:Obj},s.heap.get? b=some o->b<s.heap.objs.size:=λe=>Y2 e;have DE:∀{x:Str}{c:Za},X.env.cells.lookup x=some c->c<s.heap.objs.size:=λ{x c} e=>by
  obtain⟨v,q⟩:=I.cell x c e;exact q.lt
 have A:∀{x:Str}{c:Za},(cellsFrom (s.heap.objs.size+1) scope.names []).lookup x=some c->h'.IsCell c none/\s.heap.objs.size+1<=c:=λ{x c} e=>hc.empty x c (Yq e);refine⟨⟨I.ok.mod,S.kind,I.ok.glob,I.ok.blt,UD _,λx y c j f=>?_,λx F=>?_,λx c F h=>?_,I.ok.hd,I.ok.frames,.inl rfl,λb a=>?_,λb o e=>?_,?_,λb o e a=>?_,λb a hz=>?_,I.stack,I.DH⟩,
  rfl,I.bare,Un.kept t,⟨_,T,λi x v j f R=>?_⟩,λx c h=>?_,I.hok.fresh (UD _),λx c h=>?_,λp hp=>absurd (show p∈([]:List (Za×Obj))from hp) (by simp),I.hok.kept t,?_⟩
 ·rcases j9 j with z1 | z1 <;> rcases j9 f with z2 | z2
  ·exact name_of_addr hc.apart (Yq z1) (Yq z2)
  ·exact absurd (Wk (DE z2) (A z1).2) (Vv _)
  ·exact absurd (Wk (DE z1) (A z2).2) (Vv _)
  ·exact I.ok.inj x y c z1 z2
 ·have F:(relabel scope X.env).names.lookup x=some .cell\/(relabel scope X.env).names.lookup x=some .free:=F;have go:∀k,(relabel scope X.env).names.lookup x=some k->(k = .cell\/k = .free)->∃c,(cellsFrom (s.heap.objs.size+1) scope.names (gQ X.env.cells scope.names [])).lookup x=some c:=λk e t=>by
   obtain⟨C,w,N⟩:=rO e;have:C = .cell\/C = .free:=by
    rcases N with z | z
    ·rw[z];exact t
    ·exact .inr z.1
   rcases this with z | z
   ·exact bL _ _ _ (.inr (z ▸ w))
   ·exact bL _ _ _ (.inl (pL _ _ (.inr ⟨z ▸ w,S.Ma I.ok (x,C) w z⟩)))
  rcases F with z | z
  ·exact go _ z (.inl rfl)
  ·exact go _ z (.inr rfl)
 ·have hx':(x,NameKind.cell)∈scope.names/\(x,NameKind.free)∉scope.names:=Zm F;have j:(cellsFrom (s.heap.objs.size+1) scope.names (gQ X.env.cells scope.names [])).lookup x=some c:=h;rw[du]at j;obtain⟨d,B⟩:=bL (x:=x) scope.names (s.heap.objs.size+1) [] (.inr hx'.1);have M:(cellsFrom (s.heap.objs.size+1) scope.names []++gQ X.env.cells scope.names []).lookup x=some d:=by
   have O:∀(l L:List (Str×Za)),l.lookup x=some d->(l++L).lookup x=some d:=by
    intro l
    induction l with
    | nil=>intro L q;cases q
    | cons p r V=>
     obtain⟨n,q⟩:=p;intro L e;rw[W2,Vx];rw[Vx]at e;cases a:x == n with
     | true=>rw[a]at e;exact e
     | false=>rw[a]at e;exact V L e
   exact O _ _ B
  rw[j]at M;cases M;exact V2 (A B).2
 ·refine⟨?_,λx c e z=>?_⟩
  ·obtain⟨o,e⟩:=ho b a;exact U2 (D e)
  ·obtain⟨o,eo⟩:=ho b a;rcases j9 e with q | q
   ·have j:=(A q).2;have f:=D eo;rw[z]at j;exact Vv _ (Wk f j)
   ·exact(K b a).2.2.2.2.1 x c q z
 ·exact I.bs b o e
 ·exact UK I.ok.bsz I.sz
 ·rcases(K b a).2.2.2.1 with z | z
  ·exact I.ok.G4 b o e z
  ·exact absurd (U7 (Y2 (I.ok.bs b o e).1) z) (Vv _)
 ·rcases UR.mp (I.Ca b hz)with z | z
  ·exact(K b a).2.1 z
  ·exact(K b a).2.2.1 z
 ·have hi:n<=i:=by
   by_cases hi:n<=i
   ·exact hi
   ·unfold sub at f;rw[U6 (by simp;lia),W1]at f
    split at f <;> cases f
  have g:(fi.map λk=>(σ[k]?).join)[i - n]? = some (some v):=by
   unfold sub at f;rw[Vb (by simpa using hi)]at f;simpa using f
  rw[UI]at g;cases ek:fi[i - n]? with
  | none=>rw[ek]at g;cases g
  | some k=>
   rw[ek]at g;have J:(σ[k]?).join=some v:=Ye g;have W:σ[k]? = some (some v):=by
    cases q:σ[k]? with
    | none=>rw[q]at J;cases J
    | some _=>rw[q]at J;exact congrArg some J
   obtain⟨x',e1,M,m,e4⟩:=S.at' (i - n) k ek;have Y:N'[i]? = some x':=by rw[<-e1];congr 1;lia
   have E:N'[i]? = some x:=j;rw[Y]at E;cases E;have w:(x,NameKind.free)∈scope.names:=by
    generalize scope.names=l at m
    induction l with
    | nil=>cases m
    | cons p r V=>
     obtain⟨n',q⟩:=p;rw[Vx]at m;cases a:x == n' with
     | true=>rw[a]at m;cases m;rw[beq_iff_eq.mp a];exact UM
     | false=>rw[a]at m;exact UJ _ (V m)
   have kx:=S.free _ w rfl;have P:Vis X.env.scope x:=kx.elim (λz=>.inr (.inl z)) λz=>.inr (.inr z);obtain⟨_,_,Q⟩:=I.loc;obtain⟨u,ru,O⟩:=Q k x v M W P;refine⟨u,ru,.inr ⟨?_,?_⟩⟩
   ·have R:Vis (relabel scope X.env) x:=R;rcases R with z | z | z
    ·obtain⟨C,U,Z⟩:=rO z;rcases Z with q | q
     ·exfalso;have:=S.names (x,C) U (by rw[q]);rw[show scope.names.lookup x=some .free from m]at this;cases this
     ·cases q.2.1
    ·exact .inl z
    ·exact .inr z
   ·rcases O with⟨kl,_⟩ | ⟨_,c,ec,xo⟩
    ·rcases kx with z | z <;> (rw[show X.env.kindOf x=_ from kl]at z;cases z)
    ·refine⟨c,?_,xo.keeps t⟩;show(cellsFrom (s.heap.objs.size+1) scope.names (gQ X.env.cells scope.names [])).lookup x=some c;obtain⟨d,B⟩:=bL (x:=x) scope.names (s.heap.objs.size+1) (gQ X.env.cells scope.names []) (.inl (pL _ _ (.inr ⟨w,c,ec⟩)));rw[B];have G:=B;rw[du]at G;rcases pj G with z | z
     ·rcases cellsFrom_names _ _ _ (Yq z)with q | q
      ·exact absurd q e4
      ·cases q
     ·have:=qy _ _ (λ_ _ q=>by cases q) z;rw[ec]at this;exact this.symm
 ·rcases j9 h with z | z
  ·exact⟨none,(A z).1⟩
  ·obtain⟨v,q⟩:=I.cell x c z;exact⟨v,q.keeps t⟩
 ·rcases j9 h with z | z
  ·exact I.hok.fresh (V2 (A z).2)
  ·exact I.lT x c z
 ·show(sub n fi σ).length=N'.length;rw[sub_len,S.len]
def Fx (X:Cx) (ifs:List Expr) (t:TT):Prop:=
 ∀(pins:List (Za×Obj)) (s:Xx) (σ:St) (H:Hp) (Q:Bool->Hp->Prop),Inv X pins σ H s->t σ H Q ->
  Zh (model X.prog X.w) X.A (forIn ifs true λc r=>if r=true then do let ok <-isTrue c X.env (eval c X.env);pure (ForInStep.yield ok)else pure (ForInStep.yield r)) (TP X pins σ Q) X.xe s
def Nd:TT:=λ_ H Q=>Q true H
theorem aV:Fx X [] Nd:=λ_ _ _ H _ I h=>wpAny_tests_nil ⟨H,I,h⟩
theorem dS {c:Expr}{t:TT} (h:PT X c t):Fx X [c] t:=λpins s σ H Q I q=>wpAny_tests_one (h pins s σ H Q I q)
def pG (g:TG) (tt:TT) (te:TE) (J:It) (D:Za) (Q:VK) (σ:St) (H:Hp):Prop:=
 ∃W:Nat->Nat->St->Hp->Prop,(∃m,W 0 m σ H)/\∀i m σ H,W i m σ H ->
  (J.stop i H/\Q (.ref D) H)\/(J.go i H/\∃N:St->Hp->Prop,(∀σ' H',N σ' H'->∃m',m' < m/\W (i+1) m' σ' H') /\
   ∀x H',J.yld i H x H'->g x σ H' λσ2 H2=>tt σ2 H2 λb H3=>if b=true then te σ2 H3 λv H4=>∃xs,H4 D=some (.lst xs)/\xs.length<Zg/\N σ2 (upd H4 D (.lst (xs++[v])))else N σ2 H3)
def AU (wi:TI) (g:TG) (tt:TT) (te:TE) (n:Nat) (fi:List Nat):TE:=λσ H Q=>
 wi σ H λJ H1=>∀D,H1 D=none->pG g tt te J D Q (sub n fi σ) (upd H1 D (.lst []))
theorem FD {Y:Cx}{g:TG}{E:Nat->Heap->Prop}{S:VK} (hc:Y.calm=true) (j:∀e s,¬ Y.xe e s)
  (hg:PG Y tg g) (hi:Fx Y ifs tt) (he:PE Y elt te) (T:Turn Y.prog Y.w Y.K tg J fp it E) (I:Inv Y [] σ H s) (st:E 0 s.heap) (Q:∀b∈fp,cA Y [] H b) (hw:pG g tt te J D S σ H) :
  codeAny (model Y.prog Y.w) Y.A (.compLoop (.ListComp elt [⟨tg,iter,ifs,0⟩] scope pos) 0 (.ref it) (.ref D) Y.env) (λr s'=>r = .ok .next/\∃σ' H',Inv Y [] σ' H' s'/\S (.ref D) H') s:=by
 obtain⟨W,⟨m0,w0⟩,B⟩:=hw;have O:∀{H':Hp},(∀b∈fp,H' b=none)->∀b∈fp,cA Y [] H' b:=λhn b f=>⟨hn b f,(Q b f).2⟩;refine codeAny_loop rfl (λn s'=>∃i σ' H',Inv Y [] σ' H' s'/\E i s'.heap/\(∀b∈fp,H' b=none)/\W i n σ' H') ?_ m0 ⟨0,σ,H,I,st,λb f=>(Q b f).1,w0⟩;rintro n G ⟨i,c,F,R,v,t,w3⟩;show Zh _ Y.A ((compTurn (.ListComp elt [⟨tg,iter,ifs,0⟩] scope pos) 0 (.ref it) (.ref D) Y.env).onRaise (λx=>do noteFrame x Y.env;theTreesLotGoes x)) _ _ G;refine wpAny_noted ?_;rw[compTurn_list]
 (refine Xw (wpAny_standAt (Xw ?_)))
 rcases B i n c F w3 with⟨C,qn⟩ | ⟨go,N,hN,y⟩
 ·refine thn (T.done Y rfl rfl rfl hc i [] G c F _ R (O t) v C) λr s4 ⟨L,I4⟩=>?_;subst L;exact Xv ⟨rfl,c,F,I4,qn⟩
 ·refine thn (T.item Y rfl rfl rfl hc i [] G c F _ R (O t) v go) λr s4 ⟨u,L,h4⟩=>?_;subst L;refine Xw (thn h4 λ_ Z ⟨x,V,I5,r5,y5,l,P⟩=>?_);have M:=I5.pinned (O P) (T.obj _ _ l);have Io:∀{a:St}{k:Hp}{q:Xx},Inv Y ([]++uI fp Z.heap) a k q->N a k->∃m,m<n/\∃i σ' H',Inv Y [] σ' H' q/\E i q.heap/\(∀b∈fp,H' b=none)/\W i m σ' H':=λ{a k q} p n7=>by
   obtain⟨m',hm,w7⟩:=hN a k n7;refine⟨m',hm,i+1,a,k,p.i6,T.keep _ _ _ l λb f o e=>(p.pin (b,o) (U8 _ (U8 _ (ku f e)))).1,λb f=>?_,w7⟩;obtain⟨o,e,d⟩:=T.obj _ _ l b f;exact(p.pin (b,o) (U8 _ (U8 _ (ku f e)))).2.1
  refine Xw (Xs (hg _ Z c V x u _ M r5 (y x V y5)) (λ_ s6 ⟨h,H6,I6,q6⟩=>?_) λe s' z=>(j e s' z).elim);refine Xw (Xs (hi _ s6 h H6 _ I6 q6) (λok q ⟨k,p,q7⟩=>?_) λe s' z=>(j e s' z).elim);cases ok with
  | false=>
   exact Xv ⟨rfl,Io p q7⟩
  | true=>
   refine Xw (Xw (Xs (he _ q h k _ p q7) (λu8 s8 ⟨v8,H8,I8,r8,xs,e8,z8,n8⟩=>?_) λe s' z=>(j e s' z).elim));refine Xw (Xs (cR (X:=Y) _ s8 h H8 (.ref D) [v8] (.ref D) [u8] (λ_ U=>N h U) I8 rfl (.cons r8 .nil) ⟨D,xs,v8,rfl,rfl,e8,z8,n8⟩) (λ_ _ h9=>?_) λe s' z=>(j e s' z).elim);obtain⟨_,U,I9,_,n9⟩:=h9;exact Xv (Xv ⟨rfl,Io I9 n9⟩)
theorem Inv.letGo (I:Inv X pins σ H s) (f:YI C s.heap h') (a:H C=none) (g:X.s₀.heap.objs.size<=C) (hL:C≠X.env.locals)
  (h2:∀x c,X.env.cells.lookup x=some c->c≠C) (h:∀p∈X.pn++pins,p.1≠C):Inv X pins σ H { s with heap:=h' }:=
 I.turned (t':=s.toks) (λb o d e=>f.extBut b o d e) a hL (.inr g) h2 h
theorem xG {g:TG}{use:Option (Xy->Sem Unit)}{Qr:VK}{RP:Pos}
  (Bf:X.calm=true) (S:mh X scope N' n fi) (L:∀R,wi σ H R->Zh (model X.prog X.w) X.A (eval iter X.env) (λv s1=>Zh (model X.prog X.w) X.A (pyIter v) (PIE X pins σ tg R) X.xe s1) X.xe s)
  (hg:∀s H fp,PG (gb X scope N' s H fp) tg g) (hi:∀s H fp,Fx (gb X scope N' s H fp) ifs tt) (he:∀s H fp,PE (gb X scope N' s H fp) elt te)
  (I:Inv X pins σ H s) (hw:AU wi g tt te n fi σ H Qr) (hs:∀x,foldedSetIterable iter X.env x=pure x)
  (y:∀(D C:Za) (s':Xx) (H':Hp) (m:Str->Option Xy),Inv X pins σ H' s'->s'.heap.Ns C m->H' C=none->X.s₀.heap.objs.size<=C->C≠X.env.locals->(∀x c,X.env.cells.lookup x=some c->c≠C)->(∀p∈X.pn++pins,p.1≠C)->Qr (.ref D) H' ->
   compPost (model X.prog X.w) X.A X.xe use Q (.ref D) C (.ok .next) s') :
  Zh (model X.prog X.w) X.A (comprehension (.ListComp elt [⟨tg,iter,ifs,0⟩] scope pos) scope X.env RP (newList []) false (eval iter X.env) use) Q X.xe s:=by
 refine wpAny_comprehension_free (use:=use) (g:=⟨tg,iter,ifs,0⟩) (gs:=[]) rfl hs (vh (S.Ma I.ok)) S.kind S.names ?_;refine thn (L _ hw) λv s1 h1=>thn h1 λ_ s2 h2=>?_;obtain⟨it,fp,tn,J,d,e,M,T,t,i,V⟩:=h2;subst e;refine wpAny_newList ?_ (UU _);have Z:d s2.heap.objs.size=none:=M.hok.fresh (UD _);have j:Inv X pins σ (upd d s2.heap.objs.size (.lst [])) { s2 with heap:=s2.heap.push { cls:=.type "list",data:=.seq ([]:WF).toArray } }:=
  M.laid (t':=s2.toks) (λb u e=>Xu _ e) (UD _) ⟨UU _,[],0,.nil,Y3 _ rfl⟩
 have O:=V _ Z;have l:Un (frs X.stack) fp d (upd d s2.heap.objs.size (.lst [])) s2.heap (s2.heap.push { cls:=.type "list",data:=.seq ([]:WF).toArray }):=
  Un.laid (λb u e=>Xu _ e) (UD _) Z
 generalize hs3:({ s2 with heap:=s2.heap.push { cls:=.type "list",data:=.seq ([]:WF).toArray } }:Xx)=s3 at j ⊢;have f:s3.heap=s2.heap.push { cls:=.type "list",data:=.seq ([]:WF).toArray }:=by rw[<-hs3]
 have K:s3.os=s2.os:=by rw[<-hs3]
 have a0:s3.heap.objs.size=s2.heap.objs.size+1:=by rw[f,YZ]
 rw[<-f]at l;have U:∀b,b≠s2.heap.objs.size->upd d s2.heap.objs.size (.lst []) b=d b:=λb a=>ap a;generalize upd d s2.heap.objs.size (.lst [])=H3 at *;have Mw:∀b∈fp,∃o,s2.heap.get? b=some o:=λb a=>let ⟨o,e,_⟩:=T.obj _ _ t b a;⟨o,e⟩;have E:∀b u,s2.heap.get? b=some u->s3.heap.get? b=some u:=λb u e=>by rw[f];exact Xu _ e
 have OR:∀b∈fp,cA X pins H3 b:=λb a=>by
  obtain⟨o,e⟩:=Mw b a;exact⟨(U b (U2 (Y2 e))).trans (i b a).1,(i b a).2⟩
 refine Ke λh4 P hk hc=>?_;show codeAny _ _ (.compStart _ 0 _ _ (JZ scope s3.heap.objs.size X.env)) _ _;have G:=Fo j S OR (λb a=>let ⟨o,e⟩:=Mw b a;⟨o,E b o e⟩) P hk hc;have W:∀b∈fp,cA (gb X scope N' s3 H3 fp) [] H3 b:=λb a=>⟨(OR b a).1,(G.ok.exf b a).1,G.ok.Hy b a,.inl a,(G.ok.exf b a).2,λp N=>absurd (show p∈([]:List (Za×Obj))from N) (by simp)⟩;have B:tn 0 h4:=T.keep _ _ _ t λb a o e=>hk b o (E b o e);have k:=FD (Y:=gb X scope N' s3 H3 fp) (elt:=elt) (tg:=tg) (iter:=iter) (ifs:=ifs) (scope:=scope) (pos:=pos) Bf (λ_ _ z=>z) (hg s3 H3 fp) (hi s3 H3 fp) (he s3 H3 fp) T G B W O;have F:codeAny (model X.prog X.w) X.A (.compLoop (.ListComp elt [⟨tg,iter,ifs,0⟩] scope pos) 0 (.ref it) (.ref s2.heap.objs.size) (JZ scope s3.heap.objs.size X.env)) (compPost (model X.prog X.w) X.A X.xe use Q (.ref s2.heap.objs.size) s3.heap.objs.size) { s3 with heap:=h4 }:=by
  refine codeAny_mono k λr s' ⟨hr,_,H',h,q5⟩=>?_;subst hr;have u5:Un (frs X.stack) fp H3 H' s3.heap s'.heap:=h.base;have I5:Inv X pins σ H' s':=M.QN (ch:=fp) (h.os.trans K) (l.trans u5) h.hok h.bare λb a=>⟨(i b a).2.2.2.1,(i b a).2.1,(i b a).2.2.2.2.1,(i b a).2.2.2.2.2⟩;obtain⟨m,hm,_⟩:=h.loc;refine y _ _ s' H' m I5 hm h.free j.sz (Wj j.lt) (λx c e=>?_) (λp N=>?_) q5
  ·obtain⟨v,q⟩:=j.cell x c e;exact U2 q.lt
  ·exact U2 (Y2 (j.pin p N).1)
 exact codeAny_compStart_list F (T.self _ 0 _ _ _ B F)
theorem aY {g:TG} (p:X.calm=true) (S:mh X scope N' n fi) (b:PI X tg iter wi)
  (u:∀s H fp,PG (gb X scope N' s H fp) tg g) (hi:∀s H fp,Fx (gb X scope N' s H fp) ifs tt) (f:∀s H fp,PE (gb X scope N' s H fp) elt te)
  (e:∀x,foldedSetIterable iter X.env x=pure x:=by intro _;rfl):PE X (.ListComp elt [⟨tg,iter,ifs,0⟩] scope pos) (AU wi g tt te n fi):=by
 intro a s r H Q I h;rw[eval_ListComp];refine xG (use:=none) p S (λR z=>b a s r H R I z) u hi f I h e λD C _ k m i j t l hL d o q=>⟨m,j,λ_ c=>?_⟩;exact⟨.ref D,k,i.letGo c t l hL d o,rfl,q⟩
theorem kY {g:TG}{p:Pos} (y:X.N.Nodup) (k:X.N[i]? = some x) (hx:Loc X.env.scope x) (L:X.calm=true) (S:mh X scope N' n fi) (e:PI X tg iter wi)
  (P:∀s H fp,PG (gb X scope N' s H fp) tg g) (hi:∀s H fp,Fx (gb X scope N' s H fp) ifs tt) (u:∀s H fp,PE (gb X scope N' s H fp) elt te)
  (f:swapsWith (.ListComp elt [⟨tg,iter,ifs,0⟩] scope pos) (some (.Name x pos')) p.line X.env=pure true:=by rfl)
  (t:∀x,foldedSetIterable iter X.env x=pure x:=by intro _;rfl) (E:X.fn x=true\/X.env.scope.names.lookup x=some .local:=by first | exact .inl rfl | exact .inr rfl | assumption) :
  PS X (.Assign [.Name x pos'] (.ListComp elt [⟨tg,iter,ifs,0⟩] scope pos) p) (Ol (AU wi g tt te n fi) (aZ i)):=by
 intro b s M H D I h
 (rw[exec_Assign_Name_used _ _ _ _ f])
 (refine Xw (wpAny_standAt (Xw ?_)))
 show Zh _ X.A (do let _ <-comprehension (.ListComp elt [⟨tg,iter,ifs,0⟩] scope pos) scope X.env _ (newList []) false (eval iter X.env) (some (assign (.Name x pos') X.env))) _ _ s;refine Xw (thn (xG (use:=some (assign (.Name x pos') X.env)) (Q:=λ_ c=>SP X b D .next c) L S (λR z=>e b s M H R I z) P hi u I h t λr C c G m w B O J hL o K q=>?_) λ_ c q=>Xv (Xv q));show Zh _ _ (assign (.Name x pos') X.env (.ref r)) _ _ c;refine wpAny_assign_Name (xR (v:=.ref r) w y k hx rfl (λ_ F ⟨a,d,T⟩=>?_) E);have j:C≠a:=by
  rcases T with z | z
  ·rw[z];exact hL
  ·exact(o x a z).symm
 exact⟨m,B.sameBut d j,λ_ l=>⟨_,G,F.letGo l O J hL o K,q⟩⟩
theorem Inv.dG {t':Nat} (I:Inv X pins σ H s) (d:∀b∈wr,cA X pins H b) (k:∀b o,b∉wr->s.heap.get? b=some o->h'.get? b=some o) :
  Inv X pins σ H { s with heap:=h',toks:=t' }:=by
 have f:∀b u,H b=some u->b∉wr:=λb u e z=>by rw[(d b z).1]at e;cases e
 refine I.step (g':=s.gens) (d':=s.drawn) (ch:=wr) (λb g=>⟨(d b g).2.2.2.1,(d b g).2.1,(d b g).2.2.2.2.1,(d b g).2.2.2.2.2⟩) (λb o _ _ a e _=>k b o a e) (λb o _ _ a e _=>⟨o.slots,k b o a e⟩) (λ_ _ _ _ n=>n)
  (λb o a e=>⟨o,k b o a e⟩) (λ_ _ e=>e) (λ_ _ _ e=>e) (λb _ e=>⟨#[],by rw[e];simp⟩) (λm h=>?_) (λb u e=>?_) I.bare
 ·obtain⟨o,i,j,l,r⟩:=h;exact⟨o,i,j,k _ o (λz=>(d _ z).2.1 rfl) l,r⟩
 ·refine(I.hok b u e).yY (λc v a q=>k c v ?_ q) (λ_ q=>q) λ_ _ q=>q;rcases a with z | z
  ·rw[z];exact f b u e
  ·exact f c _ z
theorem Inv.nJ {t':Nat} (I:Inv X pins σ H s) (h:∀b∈wr,cA X pins H b) (k:∀b o,b∉wr->s.heap.get? b=some o->h'.get? b=some o)
  (l:s.heap.objs.size<=a) (j:cg X.prog X.w (upd H a o) h' a o):Inv X pins σ (upd H a o) { s with heap:=h',toks:=t' }:=by
 have i:∀b u,H b=some u->b∉wr:=λb u e z=>by rw[(h b z).1]at e;cases e
 have d:H a=none:=I.hok.fresh l;refine I.step (g':=s.gens) (d':=s.drawn) (ch:=wr) (λb f=>⟨(h b f).2.2.2.1,(h b f).2.1,(h b f).2.2.2.2.1,(h b f).2.2.2.2.2⟩) (λb o _ _ g e _=>k b o g e) (λb o _ _ g e _=>⟨o.slots,k b o g e⟩)
  (λb p _ e n=>by rw[ap (U2 (U7 (Y2 e) l))];exact n)
  (λb o g e=>⟨o,k b o g e⟩) (λb x e=>by rw[ap (aw e d)];exact e) (λb p u e=>by rw[ap (aw e d)];exact e) (λb _ e=>⟨#[],by rw[ap (aw e d),e];simp⟩) (λm t=>?_) (λb u e=>?_) I.bare
 ·obtain⟨o,y,A,B,r⟩:=t;exact⟨o,y,A,k _ o (λz=>(h _ z).2.1 rfl) B,r⟩
 ·by_cases f:b=a
  ·subst f;rw[ab]at e;cases e;exact j
  ·rw[ap f]at e;refine(I.hok b u e).yY (λc v g q=>k c v ?_ q) (λc q=>by rw[ap (aw q d)];exact q) λc x q=>by rw[ap (aw q d)];exact q
   rcases g with z | z
   ·rw[z];exact i b u e
   ·exact i c _ z
def Its (z:Str):It:=⟨λi _=>i<z.length,λi H x H'=>H' = H/\∃c,z.cps[i]? = some c/\x = .str ⟨#[c]⟩,λi _=>z.length<=i⟩
theorem Bw {ty:String} (it:Za) (z:Str) (t:Tok)
  (C:∀A:Zc,A.handled=none->Walks P w A it [it] [it] z.cps.size (SignAt z) (λi h=>h.IsStrIter it ty z t i))
  (y:["enumerate","zip","dict_itemiterator","dict_reverseitemiterator","odict_iterator","itertools.zip_longest","itertools.pairwise"].contains ty=false)
  (M:∀(A:Zc) (i:Nat) (s:Xx) (Q:Xy->Xx->Prop) (E:Xy->Xx->Prop),s.heap.IsStrIter it ty z t i->Q (.ref it) s->Zh (model P w) A (pyIter (.ref it)) Q E s) :
  Turn P w K tg (Its z) [it] it (λi h=>i<=z.length/\h.IsStrIter it ty z t i) where
 mem:=by simp
 obj:=λi h a b n=>by
  have e:b=it:=by simpa using n
  subst e;obtain⟨_,o,e,c,d⟩:=a;exact⟨o,e,λv z=>by rw[d]at z;cases z⟩
 keep:=λi h j a k=>by
  obtain⟨L,o,e,c,d⟩:=a;exact⟨L,o,k it (by simp) o e,c,d⟩
 item:=by
  intro X B q hK x i f s D H E I l a m;subst B q hK;refine(C X.A (I.ok.hd x)).item i s _ _ m a.2 λv j p G g r=>?_;obtain⟨c,u,F,rfl⟩:=G;have J:Inv X f D H { s with heap:=j,toks:=p }:=I.dG l r;obtain⟨o,e,N,d⟩:=id g;exact⟨_,rfl,HA (s:={ s with heap:=j,toks:=p }) e N d y ⟨.str ⟨#[c]⟩,H,J,⟨u,rfl⟩,⟨rfl,c,F,rfl⟩,⟨m,g⟩,λb n=>(l b n).1⟩⟩
 done:=by
  intro X B q hK x i f s D H E I l a m;subst B q hK;have e:i=z.cps.size:=Nat.le_antisymm a.1 m;subst e;exact(C X.A (I.ok.hd x)).done s _ _ a.2 λj p r=>⟨rfl,I.dG l r⟩
 self:=λA i s Q E a h=>M A i s Q E a.2 h
def Nl (tl:TE):TI:=λσ H R=>tl σ H λx H1=>∃z,x = .str z/\R (Its z) H1
theorem Gy {t:Tok}{R:It->Hp->Prop} (I:Inv X pins σ H s) (q:R (Its z) H):Zh (model X.prog X.w) X.A (pyIter (.str z t)) (PIE X pins σ tg R) X.xe s:=by
 have c:∀b∈[s.heap.objs.size],cA X pins H b:=λb d=>by
  have e:b=s.heap.objs.size:=by simpa using d
  subst e;exact I.tM (UD _) (I.hok.fresh (UD _))
 cases ha:z.cps.all (· < 128)with
 | false=>
  refine wpAny_pyIter_wide ha ?_;exact⟨s.heap.objs.size,[s.heap.objs.size],_,_,H,rfl,I.kept (t':=s.toks) λb o e=>Xu _ e,Bw (ty:= "str_iterator") _ z t (λA hA=>Walks.strWide hA _ z t) (by decide) (λA i s Q E a h=>wpAny_pyIter_striter_wide a h),
   ⟨UU _,_,Y3 _ rfl,rfl,rfl⟩,c,q⟩
 | true=>
  refine wpAny_pyIter_ascii ha ?_;exact⟨s.heap.objs.size,[s.heap.objs.size],_,_,H,rfl,I.kept (t':=s.toks) λb o e=>Xu _ e,Bw (ty:= "str_ascii_iterator") _ z t (λA hA=>Walks.strAscii hA _ z t) (by decide) (λA i s Q E a h=>wpAny_pyIter_striter_ascii a h),
   ⟨UU _,_,Y3 _ rfl,rfl,rfl⟩,c,q⟩
theorem F8 {l:Expr} (hl:PE X l tl):PI X tg l (Nl tl):=by
 intro pins s σ H R I h;refine thn (hl pins s σ H _ I h) λv s1 ⟨x,H1,I1,r1,z,e,q⟩=>?_;subst e;obtain⟨t,rfl⟩:=r1;exact Gy I1 q
def Ite (K:Xz) (a:Za):It:=
 ⟨λi H=>∃xs x,SqL K H a xs/\xs[i]? = some x,λi H x H'=>∃p v,H p=none/\(∀xs,SqL K H a xs->xs[i]? = some v)/\x = .ref p/\H' = upd H p (.tup [.int i,v]),λi H=>∃xs,SqL K H a xs/\xs.length<=i⟩
theorem EE {k:Nat} (a it e:Za) (t:e≠it):Turn P w K (.Tuple CP k pos) (Ite K a) [e,it] e (λi h=>(∃old,IsEnum h e it i old)/\h.IsListIter it a i) where
 mem:=by simp
 obj:=λi h l b g=>by
  obtain⟨⟨old,f⟩,o,q,c,d⟩:=l;rcases UR.mp g with z | z
  ·subst z;exact⟨_,f,λv z=>by cases z⟩
  ·have z':b=it:=by simpa using z
   subst z';exact⟨o,q,λv z=>by rw[d]at z;cases z⟩
 keep:=λi h h' l B=>by
  obtain⟨⟨old,f⟩,o,q,c,d⟩:=l;exact⟨⟨old,B e (by simp) _ f⟩,o,B it (by simp) o q,c,d⟩
 item:=by
  intro X S J hK Z i m s σ H E I A l V;subst S J hK;obtain⟨xs,x,C,Q⟩:=V;obtain⟨R,M,p,hz⟩:=I.list C;obtain⟨u,hu,ru⟩:=M.get Q;obtain⟨⟨old,f⟩,j⟩:=l;refine wpAny_pyNext_enum_item f j p.isList (x:=u) (by simpa using hu) t λ_ ho zI ht _ B=>?_;refine⟨_,rfl,?_⟩;refine wpAny_letOwnedTupleGo_enum ho λY T N=>?_;have n:∀{b:Za}{o:Obj},s.heap.get? b=some o->b<s.heap.objs.size:=λe=>Y2 e;have r:e<s.heap.objs.size:=n f;have R1:=j;obtain⟨_,F,_⟩:=R1;have U:it<s.heap.objs.size:=n F;have W:H s.heap.objs.size=none:=I.hok.fresh (UD _);have G:Y.get? s.heap.objs.size=some { cls:=.type "tuple",data:=.seq #[.int i s.toks,u] }:=(N.2 _ (Wj r)).trans ht;have I2:Inv X m σ (upd H s.heap.objs.size (.tup [.int i,x])) { s with heap:=Y,toks:=s.toks+1 }:=I.nJ (wr:=[e,it]) A (λb o g D=>by
    have y:b≠e:=λz=>g (by simp[z]);have O:b≠it:=λz=>g (by simp[z]);exact(N.2 b y).trans (B b o y O D)) (UD _) ⟨by show 2<=Zg;decide,[.int i s.toks,u],.cons ⟨_,rfl⟩ (.cons ru .nil),⟨_,G,rfl,_,rfl⟩⟩
  refine⟨.ref s.heap.objs.size,_,I2,rfl,⟨_,x,W,λ_ hy=>by rw[I.qC hy C];exact Q,rfl,rfl⟩,⟨⟨_,by simpa using T⟩,?_⟩,λb g=>?_⟩
  ·obtain⟨o,q,c,d⟩:=zI;exact⟨o,(N.2 it (YR t)).trans q,c,d⟩
  ·have L:b≠s.heap.objs.size:=by
    rcases UR.mp g with z | z
    ·rw[z];exact U2 r
    ·rw[show b=it by simpa using z];exact U2 U
   rw[ap L];exact(A b g).1
 done:=by
  intro X S J hK Z i m s σ H E I A l V;subst S J hK;obtain⟨xs,C,Q⟩:=V;obtain⟨R,M,p,hz⟩:=I.list C;have hl:=M.length;obtain⟨⟨old,f⟩,j⟩:=l;exact wpAny_pyNext_enum_end (I.ok.hd Z) f j p.isList (by simp;lia) λh' D=>⟨rfl,I.dG (t':=s.toks) (wr:=[e,it]) A λb o g e'=>D b o (λz=>g (by simp[z])) e'⟩
 self:=λ_ _ _ _ _ l h=>by
  obtain⟨⟨old,f⟩,_⟩:=l;exact wpAny_pyIter_enum f h
def QL (K:Xz) (ta:TA):TI:=λσ H R=>ta σ H λvs H1=>∃a,vs=[.ref a]/\(∃xs,SqL K H1 a xs)/\R (Ite K a) H1
theorem JY {y:List Expr}{k:Nat}{IA:Pos}{a:Expr}{p pos:Pos} (C:Gl X "enumerate") (t:X.mg "enumerate" = none) (D:PA X [a] ta) (o:Zi [a] X.env=[(false,eval a X.env)]:=by rfl):PI X (.Tuple y k IA) (.Call (.Name "enumerate" p) [a] [] pos) (QL X.K ta):=by
 intro f s w H R I h;refine Call_ (fm I C t boot_enumerate (Ym (thn (D pos f s w H _ I h) λ_ c ⟨_,v,g,x,A⟩=>?_) o rfl));obtain⟨a,e,⟨_,B⟩,q⟩:=A;subst e;cases x with
 | cons r u=>
  cases u;cases r;obtain⟨_,_,n,_⟩:=g.list B;refine call_enumerate_list n.isList λ_ j i _ l=>wpAny_pyIter_enum j ?_;refine⟨c.heap.objs.size+1,[c.heap.objs.size+1,c.heap.objs.size],_,_,v,rfl,g.kept (t':=c.toks) l,EE a c.heap.objs.size (c.heap.objs.size+1) (Nat.succ_ne_self _),⟨⟨_,by simpa using j⟩,i⟩,λb m=>?_,q⟩;have d:c.heap.objs.size<=b:=by
   rcases UR.mp m with z | z
   ·rw[z];exact VX _
   ·rw[show b=c.heap.objs.size by simpa using z];exact UD _
  exact g.tM d (g.hok.fresh d)
mutual
inductive Den (K:Xz) (H:Hp):V->Zf->Prop
 | non:Den K H .non .none
 | bl (b:Bool):Den K H (.bl b) (.bool b)
 | int (i:Int):Den K H (.int i) (.int i)
 | str {x:Str} (h:Y1 x=true):Den K H (.str x) (.str x)
 | lst {a:Za}{xs:Uj}{ds:UF} (h:SqL K H a xs) (t:aD K H xs ds):Den K H (.ref a) (.list ds)
 | tup {a:Za}{xs:Uj}{ds:UF} (h:SqT K H a xs) (t:aD K H xs ds):Den K H (.ref a) (.tuple ds)
inductive aD (K:Xz) (H:Hp):Uj->UF->Prop
 | nil:aD K H [] []
 | cons {x:V}{xs:Uj}{d:Zf}{ds:UF} (h:Den K H x d) (t:aD K H xs ds):aD K H (x::xs) (d::ds)
end
theorem aD.length:∀{xs:Uj}{ds:UF},aD K H xs ds->xs.length=ds.length
 | _,_,.nil=>rfl
 | _,_,.cons _ t=>by rw[U1,U1,t.length]
theorem aD.append:∀{xs ys:Uj}{ds es:UF},aD K H xs ds->aD K H ys es->aD K H (xs++ys) (ds++es)
 | _,_,_,_,.nil,s=>s
 | _,_,_,_,.cons r t,s=>.cons r (t.append s)
theorem aD.get:∀{xs:Uj}{ds:UF}{i:Nat}{x:V},aD K H xs ds->xs[i]? = some x->∃d,ds[i]? = some d/\Den K H x d
 | _,_,_,_,.nil,e=>by simp at e
 | _,_,0,_,.cons r _,e=>by simp at e;subst e;exact⟨_,rfl,r⟩
 | _,_,i+1,x,.cons _ t,e=>by
  obtain⟨u,b,a⟩:=aD.get (i:=i) (x:=x) t (by simpa using e);exact⟨u,by simpa using b,a⟩
theorem aD.getD:∀{xs:Uj}{ds:UF}{i:Nat}{d:Zf},aD K H xs ds->ds[i]? = some d->∃x,xs[i]? = some x/\Den K H x d
 | _,_,_,_,.nil,e=>by simp at e
 | _,_,0,_,.cons r _,e=>by simp at e;subst e;exact⟨_,rfl,r⟩
 | _,_,i+1,x,.cons _ t,e=>by
  obtain⟨u,b,a⟩:=aD.getD (i:=i) t (by simpa using e);exact⟨u,by simpa using b,a⟩
mutual
theorem Den.keep (h1:∀a xs,SqL K H a xs->SqL K H' a xs) (h2:∀a xs,SqT K H a xs->SqT K H' a xs):∀{v:V}{d:Zf},Den K H v d->Den K H' v d
 | _,_,.non=>.non
 | _,_,.bl b=>.bl b
 | _,_,.int i=>.int i
 | _,_,.str h=>.str h
 | _,_,.lst h t=>.lst (h1 _ _ h) (aD.keep h1 h2 t)
 | _,_,.tup h t=>.tup (h2 _ _ h) (aD.keep h1 h2 t)
theorem aD.keep (h1:∀a xs,SqL K H a xs->SqL K H' a xs) (h2:∀a xs,SqT K H a xs->SqT K H' a xs):∀{v:Uj}{d:UF},aD K H v d->aD K H' v d
 | _,_,.nil=>.nil
 | _,_,.cons r t=>.cons (Den.keep h1 h2 r) (aD.keep h1 h2 t)
end
theorem af.eA (e:af H H') (h:SqT K H a xs):SqT K H' a xs:=by
 rcases h with(h | ⟨o,h⟩) | h
 ·exact .inl (.inl (e _ _ h))
 ·exact .inl (.inr ⟨o,e _ _ h⟩)
 ·exact .inr h
theorem Den.same {d:Zf} (e:af H H') (h:Den K H v d):Den K H' v d:=h.keep (λ_ _ q=>e.seq q) λ_ _ q=>e.eA q
theorem aD.same {v:Uj}{d:UF} (e:af H H') (h:aD K H v d):aD K H' v d:=h.keep (λ_ _ q=>e.seq q) λ_ _ q=>e.eA q
mutual
theorem Den.lay:∀{v:V}{d:Zf},Den K H v d->d.canLay0=true
 | _,_,.non=>rfl
 | _,_,.bl b=>rfl
 | _,_,.int i=>rfl
 | _,_,.str h=>h
 | _,_,.lst h t=>aD.lay t
 | _,_,.tup h t=>aD.lay t
theorem aD.lay:∀{v:Uj}{d:UF},aD K H v d->Y5 d=true
 | _,_,.nil=>rfl
 | _,_,.cons r t=>by rw[Y5,Den.lay r,aD.lay t];rfl
end
mutual
theorem Inv.reads (I:Inv X pins σ H s):∀{v:V}{d:Zf}{u:Xy},Den X.K H v d->RelV v u->∃as,Reads s.heap u d as
 | _,_,_,.non,r=>by cases r;exact⟨_,.none⟩
 | _,_,_,.bl b,r=>by cases r;exact⟨_,.bool b⟩
 | _,_,_,.int i,r=>by obtain⟨t,rfl⟩:=r;exact⟨_,.int i t⟩
 | _,_,_,.str (x:=x) h,r=>by obtain⟨t,rfl⟩:=r;exact⟨_,.str x t⟩
 | _,_,_,.lst h t,r=>by
  cases r;obtain⟨g,a,⟨o,n,e,c,_,d⟩,_⟩:=I.list h;obtain⟨as,f⟩:=I.readsAll t a;exact⟨_,.list e c d (by simpa using f)⟩
 | _,_,_,.tup h t,r=>by
  cases r;obtain⟨g,a,⟨o,e,c,n,d⟩,_⟩:=I.tuple h;obtain⟨as,f⟩:=I.readsAll t a;exact⟨_,.tuple e c d (by simpa using f)⟩
theorem Inv.readsAll (I:Inv X pins σ H s):∀{vs:Uj}{ds:UF}{us:WF},aD X.K H vs ds->aQ vs us->∃as,ReadsAll s.heap us ds as
 | _,_,_,.nil,.nil=>⟨_,.nil⟩
 | _,_,_,.cons h t,.cons r rr=>by
  obtain⟨as,b⟩:=I.reads h r;obtain⟨_,a⟩:=I.readsAll t rr;exact⟨_,.cons b a⟩
end
def vI (K:Xz):R2:=λx y H Q=>∃d e,Den K H x d/\Den K H y e/\d.depth<=100/\Q (.bl (Yc d e)) H
def Jg (K:Xz):R2:=λx y H Q=>∃d e,Den K H x d/\Den K H y e/\d.depth<=100/\Q (.bl (!PyData.eqv d e)) H
theorem sI {k a b:Nat} (hr:bM k A) (h:a<=100):A.units+min a b<cLine:=by
 have:=hr.un;have:min a b<=a:=Nat.min_le_left _ _;lia
theorem m4 {k:Nat} (l:bM k X.A):OpR X (compareOp .Eq) (vI X.K):=by
 intro _ s _ H x y v u Q I g f h;obtain⟨d,e,a,b,i,q⟩:=h;obtain⟨_,j⟩:=I.reads a g;obtain⟨_,c⟩:=I.reads b f;exact SeqAt.compareEq_reads j c a.lay b.lay (sI l i) ⟨.bl _,H,I,rfl,q⟩
theorem yT {k:Nat} (l:bM k X.A):OpR X (compareOp .NotEq) (Jg X.K):=by
 intro _ s _ H x y v u Q I g f h;obtain⟨d,e,a,b,i,q⟩:=h;obtain⟨_,j⟩:=I.reads a g;obtain⟨_,c⟩:=I.reads b f;exact SeqAt.compareNe_reads j c a.lay b.lay (sI l i) ⟨.bl _,H,I,rfl,q⟩
theorem nI:OpR X (compareOp .LtE) (λx y H Q=>∃i j,x = .str i/\y = .str j/\Q (.bl (!decide (j.cps.toList<i.cps.toList))) H):=by
 intro _ s _ H x y v u Q I b a h;obtain⟨i,j,rfl,rfl,q⟩:=h;obtain⟨t,rfl⟩:=b;obtain⟨_,rfl⟩:=a;exact PySem.P.le_str ⟨.bl _,H,I,rfl,q⟩
def Rj:V->Option Int->Option Int->Hp->VK->Prop:=λx lo hi H Q=>∃z,x = .str z/\z.length<=Zg/\Q (.str (YO z lo hi)) H
theorem Jb:SlR X Rj:=by
 intro b s r H x v _ _ p o _ Q I n c m f h;obtain⟨z,rfl,d,q⟩:=h;obtain⟨t,rfl⟩:=n;refine⟨"str",_,F.slot_str_getitem.lookup,typeIs_str _ _ _,?_⟩;have a:∀g k,EP X b r Q (.str (YO z p o) g) { s with toks:=k }:=λg k=>⟨.str _,H,I.tok _,⟨_,rfl⟩,q⟩;cases m with
 | none=>
  cases f with
  | none=>exact wpAny_getItem_str_slice (l:=none) (u:=none) (st:=none) c rfl (post_val_or_str ⟨UK (Txt.slice_le z _ _) d,a⟩)
  | int j u=>exact wpAny_getItem_str_slice (l:=none) (u:=some (j,u)) (st:=none) c rfl (post_val_or_str ⟨UK (Txt.slice_le z _ _) d,a⟩)
 | int i e=>
  cases f with
  | none=>exact wpAny_getItem_str_slice (l:=some (i,e)) (u:=none) (st:=none) c rfl (post_val_or_str ⟨UK (Txt.slice_le z _ _) d,a⟩)
  | int j u=>exact wpAny_getItem_str_slice (l:=some (i,e)) (u:=some (j,u)) (st:=none) c rfl (post_val_or_str ⟨UK (Txt.slice_le z _ _) d,a⟩)
theorem xj:∀(l:List (Str×Tok)),aQ ((l.map (·.1)).map V.str) (strValues l)
 | []=>.nil
 | p::r=>.cons ⟨p.2,rfl⟩ (xj r)
def M7:V->Uj->Hp->VK->Prop:=λx vs H Q=>∃z y,x = .str z/\vs=[.str y]/\y.length≠0/\z.length+2<=Zg/\∀l,H l=none->Q (.ref l) (upd H l (.lst ((Y4 z y).map V.str)))
theorem split_len (z y:Str) (hz:z.length+2<=Zg):(Builtin.Str.partsBetween z (Builtin.Str.occurrences z y 0 z.length (z.length+1)) y.length).length<=Zg:=by
 have a:=StrLaws.occ_length_le z y 0 z.length (z.length+1)
 (rw[length_partsBetween];lia)
theorem vV:MtR X "str.split" M7:=by
 intro a s i H x _ v _ Q I k m h;obtain⟨z,y,rfl,rfl,p,n,q⟩:=h;obtain⟨t,rfl⟩:=k;obtain⟨u,rfl,w⟩:=m.one;obtain⟨f,rfl⟩:=w;have j:=split_len z y n;have c:∀(l:List (Str×Tok)) (g:Nat),l.map (·.1)=Y4 z y->EP X a i Q (.ref s.heap.objs.size) { s with heap:=s.heap.push { cls:=.type "list",data:=.seq (strValues l).toArray },toks:=g }:=λl g e=>by
  have r:((Y4 z y).map V.str).length<=Zg:=by
   rw[UA];unfold Y4
   split
   ·show 1<=Zg;lia
   ·split
    ·show 1<=Zg;lia
    ·exact j
  refine⟨.ref s.heap.objs.size,_,I.laid (o:=.lst ((Y4 z y).map V.str)) (λb _ e=>Xu _ e) (UD _) ⟨r,strValues l,0,?_,Y3 _ rfl⟩,rfl,q _ (I.hok.fresh (UD _))⟩;rw[<-e];exact xj l
 have d:(y.length == 0)=false:=by simpa using p
 cases h1:(decide (z.length<y.length) || decide (Builtin.Str.strKind z<Builtin.Str.strKind y))
 ·cases hf:(Builtin.Str.occurrences z y 0 z.length (z.length+1)).isEmpty
  ·refine call_meets F.slot_str_split (typeIs_str _ _ _) F.entry_str_split (F.args_str_split_2 _ _) (meets_str_split_sep z y t f h1 d hf (by lia) j) ?_;show wants (EP X a i Q) X.xe _ { s with toks:=_,heap:=s.heap.push { cls:=.type "list",data:=.seq (strsFrom s.toks (Builtin.Str.partsBetween z (Builtin.Str.occurrences z y 0 z.length (z.length+1)) y.length)).toArray } };rw[strsFrom_eq];exact c (numbered s.toks _) _ ((numbered_texts _ _).trans ((Zo (ne_true_of_eq_false h1)).trans (Zo (ne_true_of_eq_false hf))).symm)
  ·exact call_meets F.slot_str_split (typeIs_str _ _ _) F.entry_str_split (F.args_str_split_2 _ _) (meets_str_split_not_found z y t f h1 d hf)
    (c [(z,t)] s.toks ((Zo (ne_true_of_eq_false h1)).trans (Zn hf)).symm)
 ·exact call_meets F.slot_str_split (typeIs_str _ _ _) F.entry_str_split (F.args_str_split_2 _ _) (meets_str_split_cannot_occur z y t f h1)
   (c [(z,t)] s.toks (Zn h1).symm)
theorem Dx:∀{ys:Uq}{us:WF},aQ (ys.map V.str) us->∃l:List (Str×Tok),us=strValues l/\l.map (·.1)=ys
 | [],_,.nil=>⟨[],rfl,rfl⟩
 | y::ys,_,.cons r t=>by
  obtain⟨a,rfl⟩:=r;obtain⟨l,rfl,rfl⟩:=Dx t;exact⟨(y,a)::l,rfl,rfl⟩
def rJoin (K:Xz):V->Uj->Hp->VK->Prop:=λx vs H Q=>∃z l ys,x = .str z/\vs=[.ref l]/\SqL K H l (ys.map V.str)/\JoinOk z ys=true/\Q (.str (YG z ys)) H
theorem zv:MtR X "str.join" (rJoin X.K):=by
 intro _ s _ H x _ v _ Q I c d h;obtain⟨z,l,_,rfl,rfl,f,a,q⟩:=h;obtain⟨t,rfl⟩:=c;obtain⟨u,rfl,g⟩:=d.one;cases g;obtain⟨_,r,b,_⟩:=I.list f;obtain⟨_,rfl,e⟩:=Dx r;exact SC.join b.isList e a λ_ k=>⟨.str _,H,I.tok _,⟨_,rfl⟩,q⟩
mutual
def ltv:Zf->Zf->Bool
 | .int a,.int b=>decide (a<b)
 | .str x,.str y=>decide (x.cps.toList<y.cps.toList)
 | .list xs,.list ys=>aW xs ys
 | .tuple xs,.tuple ys=>aW xs ys
 | _,_=>false
def aW:UF->UF->Bool
 | [],[]=>false
 | [],_::_=>true
 | _::_,[]=>false
 | x::xs,y::ys=>if Yc x y=true then aW xs ys else ltv x y
end
mutual
def pH:Zf->Zf->Bool
 | .int _,.int _=>true
 | .str _,.str _=>true
 | .list xs,.list ys=>cT xs ys
 | .tuple xs,.tuple ys=>cT xs ys
 | _,_=>false
def cT:UF->UF->Bool
 | [],_=>true
 | _::_,[]=>true
 | x::xs,y::ys=>if Yc x y=true then cT xs ys else pH x y
end
theorem cE (x y:Zf) (xs ys:UF):aW (x::xs) (y::ys)=if Yc x y=true then aW xs ys else ltv x y:=by rw[aW]
theorem gT (x y:Zf) (xs ys:UF):cT (x::xs) (y::ys)=if Yc x y=true then cT xs ys else pH x y:=by rw[cT]
def BL (A:Zc) (s:Xx) (y x:Xy) (b:Bool):Prop:=
 ∀(prog:Zd) (w:Ze) (E:Xy->Xx->Prop) (Q:Xy->Xx->Prop),Q (.bool b) s->Zh (model prog w) A (richCompare .Lt y x) Q E s
def qf (xs ys:UF):Prop:=∀x y,x∈xs->y∈ys->pH x y=true->∀(A:Zc) (s:Xx) (a b:Xy) (as bs:Uz),Reads s.heap a x as->Reads s.heap b y bs->x.canLay0=true->y.canLay0=true->A.units+x.depth<cLine->BL A s a b (ltv x y)
theorem qf.tail {x y:Zf}{xs ys:UF} (h:qf (x::xs) (y::ys)):qf xs ys:=λa b ha hb=>h a b (UJ _ ha) (UJ _ hb)
section
open PySem.SeqAt
open PySem.AutoSeq1 (wpAny_loadPart')
open PySem.MeetsSeq PySem.MeetsSeq2 PySem.MeetsSeq3
theorem gr {x:Zf}{xs:UF}{k:Nat} (h:k+Y6 (x::xs)<cLine):k+x.depth<cLine:=by
 rw[Y6]at h;have:=Nat.le_max_left x.depth (Y6 xs);lia
theorem pq {x:Zf}{xs:UF}{k:Nat} (h:k+Y6 (x::xs)<cLine):k+Y6 xs<cLine:=by
 rw[Y6]at h;have:=Nat.le_max_right x.depth (Y6 xs);lia
theorem ze {k a b:Nat} (h:k+a<cLine):k+min a b<cLine:=by
 have:=Nat.min_le_left a b;lia
def Sq (T:String) (hp:Heap) (a:Za) (its:Uy):Prop:=∃n dd sl,hp.get? a=some { cls:=.type T,dict:=dd,data:=.seq its n,slots:=sl }
structure Sqs (hp:Heap) (i:Nat) (its g6:Uy) (xs ys:UF):Prop where
 in1:i<=its.size
 in2:i<=g6.size
 r1:∃as,ReadsAll hp (its.toList.drop i) xs as
 r2:∃bs,ReadsAll hp (g6.toList.drop i) ys bs
theorem DW (h:its.size<=i):its[((i:Nat):Int).toNat]? = none:=by
 rw[VF];exact VV h
theorem some_at (h:i<its.size):its[((i:Nat):Int).toNat]? = some its[i]:=by
 rw[VF];exact Vg h
theorem Iz (i:Nat):((i:Int)+1)=((i+1:Nat):Int):=rfl
theorem Sqs.Qd {b:Heap}{a:Uy}{xs ys:UF} (q:Sqs b i its a xs ys):xs.length=its.size - i:=by
 obtain⟨_,r⟩:=q.r1;have:=ReadsAll.length _ _ _ r;rw[VY,UZ]at this;exact this.symm
theorem Sqs.Pc {b:Heap}{a:Uy}{xs ys:UF} (q:Sqs b i its a xs ys):ys.length=a.size - i:=by
 obtain⟨_,r⟩:=q.r2;have:=ReadsAll.length _ _ _ r;rw[VY,UZ]at this;exact this.symm
theorem Sqs.over {d:Heap}{b:Uy}{xs ys:UF} (q:Sqs d i its b xs ys) (h:its.size<=i\/b.size<=i):aW xs ys=decide (its.size<b.size)/\aW ys xs=decide (its.size > b.size):=by
 have c:=q.Qd;have a:=q.Pc;have f:=q.in1;have e:=q.in2;cases xs with
 | nil=>
  rw[VH]at c;cases ys with
  | nil=>
   rw[VH]at a;rw[aW];exact⟨(Zl (by lia)).symm,(Zl (by lia)).symm⟩
  | cons y ys=>
   rw[U1]at a;rw[aW,aW];exact⟨(Zk (by lia)).symm,(Zl (by lia)).symm⟩
 | cons x xs=>
  rw[U1]at c;cases ys with
  | nil=>
   rw[VH]at a;rw[aW,aW];exact⟨(Zl (by lia)).symm,(Zk (by lia)).symm⟩
  | cons y ys=>
   rw[U1]at a;lia
theorem Sqs.next {a:Heap}{b:Uy}{xs ys:UF} (q:Sqs a i its b xs ys) (h1:i<its.size) (h2:i<b.size):∃x xs' y ys',xs=x::xs'/\ys=y::ys'/\(∃as,Reads a its[i] x as)/\(∃bs,Reads a b[i] y bs)/\Sqs a (i+1) its b xs' ys':=by
 obtain⟨_,_,⟨as,d⟩,bs,c⟩:=q;rw[Vk (by rw[UZ];exact h1),Array.getElem_toList]at d;rw[Vk (by rw[UZ];exact h2),Array.getElem_toList]at c;cases d with
 | cons h g=>
  cases c with
  | cons e f=>exact⟨_,_,_,_,rfl,rfl,⟨_,h⟩,⟨_,e⟩,h1,h2,⟨_,g⟩,⟨_,f⟩⟩
theorem AG {x:Zf}{xs:UF} (h:Y5 (x::xs)=true):x.canLay0=true/\Y5 xs=true:=by simpa[Y5]using h
theorem wB (l b:Za) (items t:Uy) (xs ys:UF) (Q:qf xs ys) (O:cT xs ys=true) (F:Y5 xs=true) (G:Y5 ys=true) :
  Meets (Builtin.«tuple.__lt__» ⟨[.ref l,.ref b],[]⟩)
   (λA R s=>Sq "tuple" s.heap l items/\Sq "tuple" s.heap b t/\Sqs s.heap 0 items t xs ys/\A.in1.units+Y6 xs<cLine/\R (.ok (.ret (.bool (aW xs ys)))) s):=
 .of_wp λj w A R s h=>by
  obtain⟨r,g,d,B,C⟩:=s;obtain⟨⟨n,_,_,N⟩,⟨_,_,_,K⟩,⟨_,_,⟨z,p⟩,v,q⟩,S,h⟩:=h;rw[WM]at p q;have U:=AutoSeq1.sub_tuple_tuple;have V:items.size=xs.length:=by rw[<-ReadsAll.length _ _ _ p];simp
  have T:t.size=ys.length:=by rw[<-ReadsAll.length _ _ _ q];simp
  wp_walk using wpAny_loadPart' N,wpAny_loadPart' K,wpAny_forIn_list _ (λrest b I=>b.1=none/\I = ⟨r,g,d,B,C⟩/\∃(vs ws:WF) (xs' ys':UF) (z v:Uz),rest=vs.zip ws /\
   ReadsAll r vs xs' z/\ReadsAll r ws ys' v/\qf xs' ys'/\cT xs' ys' = true/\Y5 xs' = true/\Y5 ys' = true/\A.in1.units+Y6 xs' < cLine/\xs'.length+t.size=ys'.length+items.size/\R (.ok (.ret (.bool (aW xs' ys')))) ⟨r,g,d,B,C⟩) _
  case turn=>
   rintro⟨y,x⟩ rest b I ⟨k,rfl,vs,ws,xs',ys',z,v,e,o,f,u,c,P,J,m,a,i⟩;cases o with
   | nil=>rw[List.zip_nil_left]at e;cases e
   | @cons v0 vs0 d0 ds0 as0 as1 r1 hvi'=>
    cases f with
    | nil=>rw[List.zip_nil_right]at e;cases e
    | @cons w0 ws0 e0 es0 bs0 bs1 r2 hwi'=>
     rw[Wv]at e;injection e with hyx hrest;injection hyx with hy hx;subst hy hx;rw[cE]at i;rw[gT]at c;have D:d0.canLay0=true/\Y5 ds0=true:=by simpa[Y5]using P
     have E:e0.canLay0=true/\Y5 es0=true:=by simpa[Y5]using J
     simp only[U1]at a;have L:=eqAt_reads d0 e0 A.in1 ⟨r,g,d,B,C⟩ y x as0 bs0 r1 r2 D.1 E.1 (ze (gr m));refine Xw (L j w _ _ ?_);cases hq:Yc d0 e0 with
     | true=>
      rw[hq,Zn rfl]at i c
      wp_walk
      exact⟨rfl,rfl,_,_,_,_,_,_,hrest,hvi',hwi',u.tail,c,D.2,E.2,pq m,by lia,i⟩
     | false=>
      rw[hq,Zo UO]at i c;have H:=u d0 e0 UM UM c A.in1 ⟨r,g,d,B,C⟩ y x as0 bs0 r1 r2 D.1 E.1 (gr m) j w
      wp_walk using H
      exact⟨_,rfl,by simpa using i⟩
  case fin=>
   rintro⟨_,_⟩ I ⟨k,rfl,vs,ws,xs',ys',z,v,e,o,f,_,_,_,_,_,a,i⟩;simp only at k;subst k;have M:aW xs' ys' = decide (items.size<t.size):=by
    cases o with
    | nil=>
     cases f with
     | nil=>
      simp only[VH]at a;rw[aW];exact(Zl (by lia)).symm
     | cons _ _=>
      simp only[VH,U1]at a;rw[aW];exact(Zk (by lia)).symm
    | cons _ _=>
     cases f with
     | nil=>
      simp only[VH,U1]at a;rw[aW];exact(Zl (by lia)).symm
     | cons _ _=>
      rw[Wv]at e;cases e
   rw[M]at i
   wp_walk
   exact⟨_,rfl,by simpa[Builtin.Tuple.tupleCompareSizes]using i⟩
  case h=>
   exact⟨rfl,rfl,items.toList,t.toList,xs,ys,z,v,rfl,p,q,Q,O,F,G,S,by lia,h⟩
theorem yS (l b:Za) (items o:Uy) (k:Nat):∀(i:Nat) (xs ys:UF),items.size - i=k->qf xs ys->cT xs ys=true->Y5 xs=true->Y5 ys=true ->
  Meets (Builtin.«list.__eq__.loop» ⟨[.ref l,.ref b,rawInt i,rawInt 0],[]⟩)
   (λA R s=>Sq "list" s.heap l items/\Sq "list" s.heap b o/\Sqs s.heap i items o xs ys/\A.in1.units+Y6 xs<cLine/\R (.ok (.ret (.bool (aW xs ys)))) s):=by
 induction k with
 | zero=>
  intro i xs ys P _ _ _ _ a w A R s h;obtain⟨J,g,d,E,G⟩:=s;obtain⟨⟨n,T,U,e⟩,⟨Q,r,t,c⟩,m,_,h⟩:=h;rw[(m.over (.inl (by lia))).1]at h
  wp_walk using wpAny_loadPart' e,wpAny_loadPart' c
  rw[DW (its:=items) (i:=i) (by lia)]
  wp_walk using wpAny_loadPart' e,wpAny_loadPart' c
  exact h
 | succ k u=>
  intro i xs ys P N f q C a w A R s h;obtain⟨J,g,d,E,G⟩:=s;obtain⟨O,D,m,z,h⟩:=h;obtain⟨n,T,U,e⟩:=id O;obtain⟨Q,r,t,c⟩:=id D;have lt1:i<items.size:=by lia
  wp_walk using wpAny_loadPart' e,wpAny_loadPart' c
  rw[some_at lt1];rcases Vs i o.size with lt2 | ge2
  ·obtain⟨x,xs,y,ys,rfl,rfl,⟨M,H⟩,⟨I,F⟩,B⟩:=m.next lt1 lt2;obtain⟨K,v⟩:=AG q;obtain⟨L,p⟩:=AG C;rw[cE]at h;rw[gT]at f;rw[some_at lt2];refine Xw (eqAt_reads x y A.in1 _ _ _ M I H F K L (ze (gr z)) a w _ _ ?_);cases hq:Yc x y
   ·simp only[hq,Ve,if_false]at h f;have j:=N x y UM UM f A.in1 ⟨J,g,d,E,G⟩ _ _ M I H F K L (gr z) a w
    wp_walk using wpAny_loadPart' e,wpAny_loadPart' c
    rw[some_at lt1,some_at lt2]
    wp_walk using j
    exact h
   ·simp only[hq,if_true]at h f
    wp_walk
    rw[Iz];have S:=u (i+1) xs ys (by lia) N.tail f v p a w A R _ ⟨O,D,B,pq z,h⟩;exact⟨plainId_quiet plain_eq_loop _,codeAny_builtin entry_eq_loop (by rw[Yg plain_eq_loop];exact S)⟩
  ·rw[(m.over (.inr ge2)).1]at h;rw[DW (its:=o) (i:=i) ge2]
   wp_walk using wpAny_loadPart' e,wpAny_loadPart' c
   exact h
theorem yZ (l b:Za) (items c:Uy) (xs ys:UF) (p:qf xs ys) (m:cT xs ys=true) (e:Y5 xs=true) (f:Y5 ys=true) :
  Meets (Builtin.«list.__lt__» ⟨[.ref l,.ref b],[]⟩)
   (λA R s=>Sq "list" s.heap l items/\Sq "list" s.heap b c/\Sqs s.heap 0 items c xs ys/\A.in1.units+Y6 xs<cLine/\R (.ok (.ret (.bool (aW xs ys)))) s):=by
 intro a w A R s h;have o:=yS l b items c _ 0 xs ys rfl p m e f a w A R s h;obtain⟨_,g,d,_,_⟩:=s;obtain⟨⟨n,_,_,k⟩,⟨_,_,_,j⟩,_⟩:=h;have i:=AutoSeq1.sub_list_list
 wp_walk using wpAny_loadPart' k,wpAny_loadPart' j
 exact⟨plainId_quiet plain_eq_loop _,codeAny_builtin entry_eq_loop (by rw[Yg plain_eq_loop];exact o)⟩
theorem qW {x:Zf}:∀{xs:UF},x∈xs->x.depth<=Y6 xs
 | y::ys,h=>by
  rw[Y6]
  (rcases UR.mp h with e | h)
  ·subst e;exact Nat.le_max_left _ _
  ·exact UK (qW h) (Nat.le_max_right _ _)
end
section
open PySem.SeqAt
open PySem.MeetsSeq PySem.MeetsSeq2 PySem.MeetsSeq3
theorem BN {l:Za}{o a:Obj}{vs ws:Uy}{xs ys:UF}{j bs:Uz} (h1:s.heap.get? l=some o) (e:o.cls = .type "list") (d1:o.data = .seq vs n) (h2:s.heap.get? b=some a) (f:a.cls = .type "list") (d2:a.data = .seq ws n2)
  (k:ReadsAll s.heap vs.toList xs j) (g:ReadsAll s.heap ws.toList ys bs) (m:qf xs ys) (i:cT xs ys=true) (c:Y5 xs=true) (d:Y5 ys=true) (p:A.units+(Y6 xs+1)<cLine):BL A s (.ref l) (.ref b) (aW xs ys):=λ_ w E Q h=>by
 obtain⟨_,_,_,_⟩:=o;obtain⟨_,_,_,_⟩:=a;simp only at e d1 f d2;subst e d1 f d2;exact richCompare_meets_room (op:=.Lt) ⟨_,h1,rfl⟩ ⟨_,h2,rfl⟩ F.slot_list_lt F.entry_list_lt (F.args_list_lt_2 _ _) (yZ l b vs ws xs ys m i c d)
  ⟨⟨_,_,_,h1⟩,⟨_,_,_,h2⟩,⟨UU _,UU _,⟨_,k⟩,⟨_,g⟩⟩,by show A.units+1+Y6 xs<cLine;lia,show Value.bool (aW xs ys)≠Value.notImplemented/\Q (.bool (aW xs ys)) s from⟨(λx=>nomatch x),h⟩⟩ (by lia)
theorem AV {l:Za}{o a:Obj}{vs ws:Uy}{xs ys:UF}{j bs:Uz} (h1:s.heap.get? l=some o) (e:o.cls = .type "tuple") (d1:o.data = .seq vs n) (h2:s.heap.get? b=some a) (f:a.cls = .type "tuple") (d2:a.data = .seq ws n2)
  (k:ReadsAll s.heap vs.toList xs j) (g:ReadsAll s.heap ws.toList ys bs) (m:qf xs ys) (i:cT xs ys=true) (c:Y5 xs=true) (d:Y5 ys=true) (p:A.units+(Y6 xs+1)<cLine):BL A s (.ref l) (.ref b) (aW xs ys):=λ_ w E Q h=>by
 obtain⟨_,_,_,_⟩:=o;obtain⟨_,_,_,_⟩:=a;simp only at e d1 f d2;subst e d1 f d2;exact richCompare_meets_room (op:=.Lt) ⟨_,h1,rfl⟩ ⟨_,h2,rfl⟩ F.slot_tuple_lt F.entry_tuple_lt (F.args_tuple_lt_2 _ _) (wB l b vs ws xs ys m i c d)
  ⟨⟨_,_,_,h1⟩,⟨_,_,_,h2⟩,⟨UU _,UU _,⟨_,k⟩,⟨_,g⟩⟩,by show A.units+1+Y6 xs<cLine;lia,show Value.bool (aW xs ys)≠Value.notImplemented/\Q (.bool (aW xs ys)) s from⟨(λx=>nomatch x),h⟩⟩ (by lia)
theorem Bs {a b:Xy}{i j:Int}{f bs:Uz} (e:Reads s.heap a (.int i) f) (d:Reads s.heap b (.int j) bs):BL A s a b (ltv (.int i) (.int j)):=by
 cases e with
 | int i t=>
  cases d with
  | int j u=>intro c w E Q h;exact HT.G6 A s i t j u c w E Q (by rw[ltv]at h;exact h)
theorem Bg {a b:Xy}{f bs:Uz} (e:Reads s.heap a (.str x) f) (d:Reads s.heap b (.str y) bs):BL A s a b (ltv (.str x) (.str y)):=by
 cases e with
 | str x t=>
  cases d with
  | str y u=>intro c w E Q h;exact(PyProof.Rows.lt_str (by rw[ltv]at h;exact h):Zh (model c w) A (compareOp .Lt (.str x t) (.str y u)) Q E s)
theorem xl {a b:Zf} (h:pH a b=true):(∃i j,a = .int i/\b = .int j)\/(∃x y,a = .str x/\b = .str y)\/(∃xs ys,a = .list xs/\b = .list ys/\cT xs ys=true)\/∃xs ys,a = .tuple xs/\b = .tuple ys/\cT xs ys=true:=by
 unfold pH at h
 split at h
 ·exact .inl ⟨_,_,rfl,rfl⟩
 ·exact .inr (.inl ⟨_,_,rfl,rfl⟩)
 ·exact .inr (.inr (.inl ⟨_,_,rfl,rfl,h⟩))
 ·exact .inr (.inr (.inr ⟨_,_,rfl,rfl,h⟩))
 ·cases h
theorem vZ:∀(n:Nat) (da db:Zf),da.depth<=n->pH da db=true->∀(A:Zc) (s:Xx) (a b:Xy) (as bs:Uz),Reads s.heap a da as->Reads s.heap b db bs->da.canLay0=true->db.canLay0=true->A.units+da.depth<cLine->BL A s a b (ltv da db):=by
 intro n
 induction n with
 | zero=>
  intro da db q c A s a b as bs l d E v u;rcases xl c with⟨i,j,rfl,rfl⟩ | ⟨x,y,rfl,rfl⟩ | ⟨r,t,rfl,rfl,c⟩ | ⟨r,t,rfl,rfl,c⟩
  ·exact Bs l d
  ·exact Bg l d
  ·rw[Yr]at q;lia
  ·rw[Yr]at q;lia
 | succ n H=>
  intro da db q c A s a b as bs l d E v u;rcases xl c with⟨i,j,rfl,rfl⟩ | ⟨x,y,rfl,rfl⟩ | ⟨r,t,rfl,rfl,c⟩ | ⟨r,t,rfl,rfl,c⟩
  ·exact Bs l d
  ·exact Bg l d
  ·rw[Yr]at q u;cases l with
   | @list a o vs k r as1 h1 c1 d1 r1=>
    cases d with
    | @list b o2 ws k2 t bs1 h2 c2 d2 r2=>
     rw[ltv];exact BN h1 c1 d1 h2 c2 d2 r1 r2 (λx y B I f z G w F e g p m D C h=>H x y (by have:=qW B;lia) f z G w F e g p m D C h) c E v u
  ·rw[Yr]at q u;cases l with
   | @tuple a o vs k r as1 h1 c1 d1 r1=>
    cases d with
    | @tuple b o2 ws k2 t bs1 h2 c2 d2 r2=>
     rw[ltv];exact AV h1 c1 d1 h2 c2 d2 r1 r2 (λx y B I f z G w F e g p m D C h=>H x y (by have:=qW B;lia) f z G w F e g p m D C h) c E v u
theorem Fk {x y:Xy}{b:Bool}{Q:Bool->Xx->Prop} (h:BL A s x y b) (q:Q b s):Zh (model prog w) A (oneLt' false x y) Q E s:=
 W.kat_one x y (h prog w E _ q)
theorem oneLt_str {t u:Tok}{Q:Bool->Xx->Prop} (q:Q (decide (x.cps.toList<y.cps.toList)) s):Zh (model prog w) A (oneLt' true (.str x t) (.str y u)) Q E s:=by
 have:=W.kas_lt_str (prog:=prog) (w:=w) (A:=A) (E:=E) (s:=s) (a:=x) (c:=y) (t:=t) (u:=u) (Q:=Q) q
 rwa [keyLt'_oneType]at this
theorem Cs {b:Bool}{x y:Za}{N:Obj}{t B:Uy}{k:Nat}{xs ys:UF}{C bs:Uz}{Q:Bool->Xx->Prop} (hx:s.heap.get? x=some ox) (dx:ox.data = .seq t n) (U:s.heap.get? y=some N) (Y:N.data = .seq B k)
  (M:ReadsAll s.heap t.toList xs C) (L:ReadsAll s.heap B.toList ys bs) (ha:Y5 xs=true) (S:Y5 ys=true) (X:cT xs ys=true) (T:∀d e,xs.head? = some d->ys.head? = some e->(b=true->(∃i j,d = .int i/\e = .int j)\/∃i j,d = .str i/\e = .str j))
  (Z:A.units+Y6 xs<cLine) (q:Q (aW xs ys) s):Zh (model prog w) A (keyLt' (tuples' b) (.ref x) (.ref y)) Q E s:=by
 refine W.kat_lt hx dx U Y ?_;have z1:t.size=xs.length:=by rw[<-ReadsAll.length _ _ _ M];simp
 have z2:B.size=ys.length:=by rw[<-ReadsAll.length _ _ _ L];simp
 have H:∀(F G:WF) (a f:UF) (C bs:Uz) (i:Nat),ReadsAll s.heap F a C->ReadsAll s.heap G f bs->Y5 a = true->Y5 f = true->cT a f = true->A.units+Y6 a < cLine ->
   a.length+B.size=f.length+t.size->(i=0->a = xs/\f = ys)->Q (aW a f) s->W.KatLex prog w A b (decide (t.size<B.size)) Q (F.zip G) i s:=by
  intro F
  induction F with
  | nil=>
   intro G a f C bs i m l R O c u D P g;cases m;rw[List.zip_nil_left];refine W.kat_nil ?_;cases l with
   | nil=>
    rw[aW]at g;simp only[VH]at D;rw[Zl (by lia)];exact g
   | cons _ _=>
    rw[aW]at g;simp only[VH,U1]at D;rw[Zk (by lia)];exact g
  | cons v F J=>
   intro G a f C bs i m l R O c u D P g;cases m with
   | @cons _ _ d0 ds0 as0 as1 m r1'=>
   cases l with
   | nil=>
    rw[List.zip_nil_right];refine W.kat_nil ?_;rw[aW]at g;simp only[VH,U1]at D;rw[Zl (by lia)];exact g
   | @cons w0 ws0 e0 es0 bs0 bs1 l r2'=>
    rw[Wv];rw[cE]at g;rw[gT]at c;have o:d0.canLay0=true/\Y5 ds0=true:=by simpa[Y5]using R
    have r:e0.canLay0=true/\Y5 es0=true:=by simpa[Y5]using O
    refine W.kat_cons (eqAt_reads d0 e0 A s v w0 as0 bs0 m l o.1 r.1 (ze (gr u)) prog w _ _ ?_);cases hq':Yc d0 e0 with
    | true=>
     rw[hq',Zn rfl]at g c;refine W.kat_yes (J ws0 ds0 es0 _ _ (i+1) r1' r2' o.2 r.2 c (pq u) ?_ (λz=>by lia) g);simp only[U1]at D;lia
    | false=>
     rw[hq',Zo UO]at g c;refine W.kat_no ?_;by_cases h:(b && i == 0)=true
     ·have K:b=true:=by simp at h;exact h.1
      have I:i=0:=by simp at h;exact h.2
      obtain⟨e1,e2⟩:=P I;rw[h];rcases T d0 e0 (by rw[<-e1];rfl) (by rw[<-e2];rfl) K with⟨p,V,rfl,rfl⟩ | ⟨p,V,rfl,rfl⟩
      ·cases m;cases l;rw[ltv]at g;exact oneLt_int g
      ·cases m;cases l;rw[ltv]at g;exact oneLt_str g
     ·have:(b && i == 0)=false:=by simpa using h
      rw[this];exact Fk (vZ _ d0 e0 (UD _) c A s v w0 as0 bs0 m l o.1 r.1 (gr u)) g
 exact H t.toList B.toList xs ys C bs 0 M L ha S X Z (by lia) (λ_=>⟨rfl,rfl⟩) q
end
section
open PySem.W
structure tL (n:Nat) (lt:Nat->Nat->Bool):Prop where
 irrefl:∀a,a<n->lt a a=false
 negTrans:∀a b c,a<n->b<n->c<n->lt a c=true->lt a b=true\/lt b c=true
 asymm:∀a b,a<n->b<n->lt a b=true->lt b a=false
def AllLt (n:Nat) (p:Array Nat):Prop:=∀i,p.getD i 0<n
def rc (lt:Nat->Nat->Bool) (p:Array Nat) (k:Nat):Prop:=∀i j,i<=j->j<k->lt (p.getD j 0) (p.getD i 0)=false
def mS (lt:Nat->Nat->Bool) (p:Array Nat) (k:Nat):Prop:=∀i j,i<=j->j<k->lt (p.getD i 0) (p.getD j 0)=false
theorem AllLt.perm {p q:Array Nat} (h:AllLt n p) (d:0<n) (r:q.Perm p):AllLt n q:=by
 intro i;by_cases b:i<q.size
 ·have e:q.getD i 0=q[i]:=by simp[Z6,b]
  rw[e];have g:q[i]∈p.toList:=(WQ.mp r).mem_iff.mp (by simp);obtain⟨j,c,k⟩:=WD.mp g;have:=h j;have f:p.getD j 0=q[i]:=by
   have a:j<p.size:=by simpa using c
   have:p.getD j 0=p[j]:=by simp[Z6,a]
   rw[this,<-k];simp
  rw[<-f];exact this
 ·have e:q.getD i 0=0:=by simp[Z6,b]
  rw[e];exact d
section
variable {lt:Nat->Nat->Bool}{cmp:Nat->Nat->(Bool->Xx->Prop)->Xx->Prop}{P:Xx->Prop}
theorem tL.trans (W:tL n lt) {a b c:Nat} (d:a<n) (f:b<n) (e:c<n) (h1:lt b a=false) (h2:lt c b=false):lt c a=false:=by
 cases q:lt c a with
 | false=>rfl
 | true=>
  rcases W.negTrans c b a e f d q with z | z
  ·rw[h2]at z;cases z
  ·rw[h1]at z;cases z
theorem rc.Ea (W:tL n lt) {p:Array Nat} (b:AllLt n p) {k m:Nat} (h:rc lt p k) (o:1<=k) (l:∀i,k<=i->i<m->lt (p.getD i 0) (p.getD (i - 1) 0)=false):rc lt p m:=by
 have c:∀d i j,j=i+d->j<m->lt (p.getD j 0) (p.getD i 0)=false:=by
  intro d
  induction d with
  | zero=>intro i j e a;rw[e];exact W.irrefl _ (b _)
  | succ d g=>
   intro i j e a;by_cases f:j<k
   ·exact h i j (by lia) f
   ·exact W.trans (b _) (b (j - 1)) (b _) (g i (j - 1) (by lia) (by lia)) (l j (by lia) a)
 intro i j _ a;exact c (j - i) i j (by lia) a
theorem tp {p:Array Nat}{k l:Nat} (a:k<p.size) (b:l<=k) (i:Nat):(bubble p k (k - l)).getD i 0=if i<l then p.getD i 0 else if i=l then p.getD k 0 else if i<=k then p.getD (i - 1) 0 else p.getD i 0:=by
 have h:=getElem?_bubble (xs:=p) a (k - l) (by lia) i;rw[VW,h];rw[show k - (k - l)=l by lia];simp only[VW]
 repeat' split
 all_goals first | rfl | (exfalso;lia) | skip
theorem eN {p:Array Nat} (a:j<=p.size) (k:Nat):(kas_rev p i j).getD k 0=if i<=k/\k<j then p.getD (i+j - 1 - k) 0 else p.getD k 0:=by
 have h:=getElem?_mirror_all (xs:=p) (i:=i) a k;unfold kas_rev;rw[VW,h];simp only[VW]
 repeat' split
 all_goals first | rfl | (exfalso;lia) | skip
theorem Dv (l:∀i j C s,i<n->j<n->P s->(∀s',P s'->C (lt i j) s')->cmp i j C s) {p:Array Nat} (d:AllLt n p) {Q:Nat->Xx->Prop}:∀(f k:Nat) (s:Xx),P s ->
  (∀m s',P s'->k<=m->m<=k+f->(∀i,k<=i->i<m->lt (p.getD i 0) (p.getD (i - 1) 0)=false)->(m<k+f->lt (p.getD m 0) (p.getD (m - 1) 0)=true)->Q m s')->(kas_asc p f k).kasWp cmp Q s
 | 0,k,s,hs,h=>h k s hs (UD _) (UD _) (λi c g=>by lia) λc=>by lia
 | f+1,k,s,hs,h=>by
  refine l _ _ _ s (d _) (d _) hs λs' a=>?_;cases hc:lt (p.getD k 0) (p.getD (k - 1) 0)with
  | true=>
   show Z7 cmp (if true=true then KasT.ret k else kas_asc p f (k+1)) Q s';rw[Zn rfl];exact h k s' a (UD _) (by lia) (λi c g=>by lia) λ_=>hc
  | false=>
   show Z7 cmp (if false=true then KasT.ret k else kas_asc p f (k+1)) Q s';rw[Zo UO];refine(Dv l d f (k+1) s' a λm b u c g t q=>h m b u (by lia) (by lia) (λi r o=>?_) λr=>q (by lia));by_cases e:i=k
   ·rw[e];exact hc
   ·exact t i (by lia) o
def Alike (lt:Nat->Nat->Bool) (p:Array Nat) (k q:Nat):Prop:=∀i,k - (q+1)<=i->i<k->lt (p.getD (k - 1) 0) (p.getD i 0)=false
theorem wX (W:tL n lt) {p:Array Nat}{k q:Nat} (f:AllLt n p) (l:k<=p.size) (t:q+1<=k) (c:mS lt p k) (r:Alike lt p k q):mS lt (kas_rev p (k - (q+1)) k) k:=by
 intro i j g e;rw[eN l,eN l];have h:∀a b,k - (q+1)<=a->a<k->k - (q+1)<=b->b<k->lt (p.getD a 0) (p.getD b 0)=false:=λa b _ _ o m=>
  W.trans (f b) (f (k - 1)) (f a) (r b o m) (c a (k - 1) (by lia) (by lia))
 by_cases s:k - (q+1)<=i
 ·rw[Zn ⟨s,by lia⟩,Zn ⟨by lia,e⟩];exact h _ _ (by lia) (by lia) (by lia) (by lia)
 ·rw[Zo (by lia)];by_cases d:k - (q+1)<=j
  ·rw[Zn ⟨d,e⟩];exact c _ _ (by lia) (by lia)
  ·rw[Zo (by lia)];exact c i j g e
theorem jU (W:tL n lt) {p:Array Nat}{k:Nat} (a:AllLt n p) (h1:1<=k) (c:mS lt p k) (h:lt (p.getD (k - 1) 0) (p.getD k 0)=false):mS lt p (k+1):=by
 intro i j b _;by_cases e:j=k
 ·subst e;by_cases d:i=j
  ·subst d;exact W.irrefl _ (a _)
  ·exact W.trans (a _) (a (j - 1)) (a _) h (c i (j - 1) (by lia) (by lia))
 ·exact c i j b (by lia)
theorem tY (W:tL n lt) (r:∀i j C s,i<n->j<n->P s->(∀s',P s'->C (lt i j) s')->cmp i j C s) (u:0<n) {Q:Array Nat×Nat×Nat->Xx->Prop}:∀(f:Nat) (p:Array Nat) (k q:Nat) (s:Xx),P s->AllLt n p->k+f<=p.size->q+1<=k->mS lt p k->Alike lt p k q ->
  (∀p' k' q' s',P s'->p'.Perm p->k<=k'->k'<=k+f->q' + 1<=k'->mS lt p' k'->Alike lt p' k' q'->Q (p',k',q') s')->(kas_desc f p k q).kasWp cmp Q s
 | 0,p,k,q,s,hs,hp,hz,hq,hd,ha,h=>h p k q s hs (Array.Perm.refl _) (UD _) (UD _) hq hd ha
 | f+1,p,k,q,s,hs,hp,hz,hq,hd,ha,h=>by
  refine r _ _ _ s (hp _) (hp _) hs λs' m=>?_;cases hc:lt (p.getD k 0) (p.getD (k - 1) 0)with
  | true=>
   have o:lt (p.getD (k - 1) 0) (p.getD k 0)=false:=W.asymm _ _ (hp _) (hp _) hc;show Z7 cmp (if true=true then(if q > 0 then kas_desc f (kas_rev p (k - (q+1)) k) (k+1) 0 else kas_desc f p (k+1) 0)else _) Q s';rw[Zn rfl]
   split
   ·have z:(kas_rev p (k - (q+1)) k).Perm p:=mirror_perm _ _ _ _;have l:=hp.perm u z;have w:(kas_rev p (k - (q+1)) k).size=p.size:=mirror_size _ _ _ _;have x:=wX W hp (by lia) hq hd ha;refine tY W r u f _ (k+1) 0 s' m l (by rw[w];lia) (by lia) (jU W l (by lia) x ?_) (λi A y=>?_) λp' k' q' g a b c d e=>h p' k' q' g a (b.trans z) (by lia) (by lia) e
    ·rw[eN (by lia),eN (by lia),Zn ⟨by lia,by lia⟩,Zo (by lia)];refine W.trans (hp _) (hp (k - 1)) (hp _) o ?_;exact hd _ _ (by lia) (by lia)
    ·have:i=k+1 - 1:=by lia
     rw[this];exact W.irrefl _ (l _)
   ·refine tY W r u f _ (k+1) 0 s' m hp (by lia) (by lia) (jU W hp (by lia) hd o) (λi A y=>?_) λp' k' q' g a b c d e=>h p' k' q' g a b (by lia) (by lia) e;have:i=k+1 - 1:=by lia
    rw[this];exact W.irrefl _ (hp _)
  | false=>
   show Z7 cmp (if false=true then _ else KasT.ask (p.getD (k - 1) 0) (p.getD k 0) λd=>if d=true then KasT.ret (p,k,q)else kas_desc f p (k+1) (q+1)) Q s';rw[Zo UO];refine r _ _ _ s' (hp _) (hp _) m λv t=>?_;cases hc2:lt (p.getD (k - 1) 0) (p.getD k 0)with
   | true=>
    show Z7 cmp (if true=true then KasT.ret (p,k,q)else _) Q v;rw[Zn rfl];exact h p k q v t (Array.Perm.refl _) (UD _) (by lia) hq hd ha
   | false=>
    show Z7 cmp (if false=true then _ else kas_desc f p (k+1) (q+1)) Q v;rw[Zo UO];refine tY W r u f _ (k+1) (q+1) v t hp (by lia) (by lia) (jU W hp (by lia) hd hc2) (λi A y=>?_) λp' k' q' g a b c d e=>h p' k' q' g a b (by lia) (by lia) e;rw[show k+1 - 1=k by lia];by_cases e:i=k
    ·rw[e];exact W.irrefl _ (hp _)
    ·exact W.trans (hp _) (hp (k - 1)) (hp _) (ha i (by lia) (by lia)) hc
theorem zB (W:tL n lt) (u:∀i j C s,i<n->j<n->P s->(∀s',P s'->C (lt i j) s')->cmp i j C s) (w:0<n) {p:Array Nat}{k f:Nat}{Q:Nat×Array Nat->Xx->Prop} (q:P s) (r:AllLt n p) (x:k<=f) (h1:1<=k) (hz:f<=p.size) (o:mS lt p k)
  (h:∀m p' s',P s'->p'.Perm p->1<=m->m<=f->rc lt p' m->Q (m,p') s'):(kas_tail3 k f p).kasWp cmp Q s:=by
 unfold kas_tail3;rw[KasT.kasWp_bind];have l:(kas_rev p 0 k).Perm p:=mirror_perm _ _ _ _;have e:=r.perm w l;have t:rc lt (kas_rev p 0 k) k:=λi j _ v=>by
  rw[eN (by lia),eN (by lia),Zn ⟨by lia,v⟩,Zn ⟨by lia,by lia⟩];exact o _ _ (by lia) (by lia)
 refine Dv u e _ _ s q λm s' g a b c d=>?_;exact h m _ s' g l (by lia) (by lia) (t.Ea W e h1 c)
theorem su (W:tL n lt) (u:∀i j C s,i<n->j<n->P s->(∀s',P s'->C (lt i j) s')->cmp i j C s) (g:0<n) {p:Array Nat}{k o:Nat}{Q:Nat×Array Nat->Xx->Prop} (G:P s) (t:AllLt n p) (J:k+1<=o) (h1:1<=k) (hz:o<=p.size) (F:mS lt p (k+1))
  (h:∀m p' s',P s'->p'.Perm p->1<=m->m<=o->rc lt p' m->Q (m,p') s'):(kas_descPart k o p).kasWp cmp Q s:=by
 unfold kas_descPart;rw[KasT.kasWp_bind];refine tY W u g _ p (k+1) 0 s G t (by lia) (by lia) F (λi _ _=>?_) λp' q D s' l r a b c d e=>?_
 ·have:i=k+1 - 1:=by lia
  rw[this];exact W.irrefl _ (t _)
 ·have H:p'.size=p.size:=r.size_eq;have f:=t.perm g r;dsimp only
  split
  ·have E:(kas_rev p' (q - (D + 1)) q).Perm p':=mirror_perm _ _ _ _;have I:(kas_rev p' (q - (D + 1)) q).size=p'.size:=mirror_size _ _ _ _;exact zB W u g l (f.perm g E) (by lia) (by lia) (by lia) (wX W f (by lia) c d e) λm A B x y z w v=>h m A B x (y.trans (E.trans r)) z w v
  ·exact zB W u g l f (by lia) (by lia) (by lia) d λm A B x y z w v=>h m A B x (y.trans r) z w v
theorem Hw (W:tL n lt) (A:∀i j C s,i<n->j<n->P s->(∀s',P s'->C (lt i j) s')->cmp i j C s) (F:0<n) {p:Array Nat}{k:Nat}{Q:Nat×Array Nat->Xx->Prop} (J:P s) (f:AllLt n p) (h1:1<=k) (hz:k<=p.size)
  (h:∀m p' s',P s'->p'.Perm p->1<=m->m<=k->rc lt p' m->Q (m,p') s'):(kas_count k p).kasWp cmp Q s:=by
 unfold kas_count;rw[KasT.kasWp_bind];refine Dv A f _ _ s J λm s' g a b c d=>?_;have D:rc lt p 1:=λi j l E=>by
  have:i=0:=by lia
  have:j=0:=by lia
  subst_vars;exact W.irrefl _ (f _)
 have r:rc lt p m:=D.Ea W f (UD _) c;by_cases e:m=k
 ·rw[Zn (by simpa using e)];exact h m p s' g (Array.Perm.refl _) a (by lia) r
 ·rw[Zo (by simpa using e)];have B:lt (p.getD m 0) (p.getD (m - 1) 0)=true:=d (by lia);have o:lt (p.getD (m - 1) 0) (p.getD m 0)=false:=W.asymm _ _ (f _) (f _) B
  split
  ·refine A _ _ _ s' (f _) (f _) g λG t=>?_;cases hc:lt (p.getD 0 0) (p.getD (m - 1) 0)with
   | true=>
    show Z7 cmp (if true=true then KasT.ret (m,p)else _) Q G;rw[Zn rfl];exact h m p G t (Array.Perm.refl _) a (by lia) r
   | false=>
    show Z7 cmp (if false=true then _ else kas_descPart m k (kas_rev p 0 m)) Q G;rw[Zo UO];have H:(kas_rev p 0 m).Perm p:=mirror_perm _ _ _ _;have M:(kas_rev p 0 m).size=p.size:=mirror_size _ _ _ _;have u:=f.perm F H;have I:∀i j,i<m->j<m->lt (p.getD i 0) (p.getD j 0)=false:=λi j L E=>by
     have K:lt (p.getD i 0) (p.getD (m - 1) 0)=false:=W.trans (f _) (f 0) (f _) hc (by
      have U:lt (p.getD (m - 1) 0) (p.getD i 0)=false:=r i (m - 1) (by lia) (by lia);cases q:lt (p.getD i 0) (p.getD 0 0)with
      | false=>rfl
      | true=>
       have N:=r 0 i (UU _) L;rw[N]at q;cases q)
     exact W.trans (f _) (f (m - 1)) (f _) (r j (m - 1) (by lia) (by lia)) K
    refine su W A F t u (by lia) a (by lia) (jU W u a (λi j l E=>?_) ?_) λS O R x y z w v=>h S O R x (y.trans H) z w v
    ·rw[eN (by lia),eN (by lia),Zn ⟨by lia,by lia⟩,Zn ⟨by lia,by lia⟩];exact I _ _ (by lia) (by lia)
    ·rw[eN (by lia),eN (by lia),Zn ⟨by lia,by lia⟩,Zo (by lia)];exact W.trans (f _) (f (m - 1)) (f _) o (I _ _ (by lia) (by lia))
  ·have T:m=1:=by lia
   refine su W A F g f (by lia) a hz (jU W f a (λi j l E=>?_) o) h;have:i=0:=by lia
   have:j=0:=by lia
   subst_vars;exact W.irrefl _ (f _)
theorem vt (W:tL n lt) (o:∀i j C s,i<n->j<n->P s->(∀s',P s'->C (lt i j) s')->cmp i j C s) {p:Array Nat} (c:AllLt n p) {k:Nat} (g:rc lt p k) {Q:Nat->Xx->Prop}:∀(f l r:Nat) (s:Xx),P s->l<=r->r<=k->r - l<=f ->
  (∀i,i<l->lt (p.getD k 0) (p.getD i 0)=false)->(∀i,r<=i->i<k->lt (p.getD k 0) (p.getD i 0)=true) ->
  (∀m s',P s'->m<=k->(∀i,i<m->lt (p.getD k 0) (p.getD i 0)=false)->(∀i,m<=i->i<k->lt (p.getD k 0) (p.getD i 0)=true)->Q m s')->(kas_place p k f l r).kasWp cmp Q s
 | 0,l,r,s,hs,h1,h2,h3,h4,h5,h=>h l s hs (by lia) h4 λi a b=>h5 i (by lia) b
 | f+1,l,r,s,hs,h1,h2,h3,h4,h5,h=>by
  unfold kas_place;by_cases e:l ≥ r
  ·rw[Zn e];exact h l s hs (by lia) h4 λi a b=>h5 i (by lia) b
  ·rw[Zo e];refine o _ _ _ s (c _) (c _) hs λs' d=>?_;cases hc:lt (p.getD k 0) (p.getD ((l+r) / 2) 0)with
   | true=>
    show Z7 cmp (if true=true then kas_place p k f l ((l+r) / 2)else _) Q s';rw[Zn rfl];refine vt W o c g f l ((l+r) / 2) s' d (by lia) (by lia) (by lia) h4 (λi a b=>?_) h;rcases W.negTrans _ (p.getD i 0) _ (c _) (c _) (c _) hc with z | z
    ·exact z
    ·have:=g ((l+r) / 2) i a b;rw[this]at z;cases z
   | false=>
    show Z7 cmp (if false=true then _ else kas_place p k f ((l+r) / 2+1) r) Q s';rw[Zo UO];refine vt W o c g f ((l+r) / 2+1) r s' d (by lia) (by lia) (by lia) (λi a=>?_) h5 h;exact W.trans (c _) (c ((l+r) / 2)) (c _) (g i ((l+r) / 2) (by lia) (by lia)) hc
theorem Jh (W:tL n lt) (u:∀i j C s,i<n->j<n->P s->(∀s',P s'->C (lt i j) s')->cmp i j C s) (v:0<n) {Q:Array Nat->Xx->Prop}:∀(f:Nat) (p:Array Nat) (k:Nat) (s:Xx),P s->AllLt n p->k+f<=p.size->rc lt p k ->
  (∀p' s',P s'->p'.Perm p->rc lt p' (k+f)->Q p' s')->(kas_bin f p k).kasWp cmp Q s
 | 0,p,k,s,hs,hp,hz,up,h=>h p s hs (Array.Perm.refl _) up
 | f+1,p,k,s,hs,hp,hz,up,h=>by
  unfold kas_bin;rw[KasT.kasWp_bind];refine vt W u hp up k 0 k s hs (UU _) (UD _) (by lia) (λi a=>by lia) (λi a b=>by lia) λl s' m t y x=>?_;have r:(bubble p k (k - l)).Perm p:=bubble_perm _ _ _;have g:(bubble p k (k - l)).size=p.size:=bubble_size _ _ _;refine Jh W u v f _ (k+1) s' m (hp.perm v r) (by rw[g];lia) (λi j e _=>?_) λp' z a b c=>h p' z a (b.trans r) (by rw[show k+(f+1)=k+1+f by lia];exact c);rw[tp (by lia) t,tp (by lia) t];by_cases o:i<l
  ·rw[Zn o];by_cases w:j<l
   ·rw[Zn w];exact up i j e (by lia)
   ·rw[Zo w];by_cases d:j=l
    ·rw[Zn d];exact y i o
    ·rw[Zo d,Zn (by lia)];exact up i (j - 1) (by lia) (by lia)
  ·rw[Zo o,Zo (show¬ j<l by lia)];by_cases q:i=l
   ·rw[Zn q];by_cases d:j=l
    ·rw[Zn d];exact W.irrefl _ (hp _)
    ·rw[Zo d,Zn (by lia)];exact W.asymm _ _ (hp _) (hp _) (x (j - 1) (by lia) (by lia))
   ·rw[Zo q,Zn (show i<=k by lia),Zo (show¬ j=l by lia),Zn (show j<=k by lia)];exact up (i - 1) (j - 1) (by lia) (by lia)
theorem DM (W:tL n lt) (u:∀i j C s,i<n->j<n->P s->(∀s',P s'->C (lt i j) s')->cmp i j C s) (f:0<n) {Q:Array Nat->Xx->Prop} (v:P s)
  (h:∀p s',P s'->p.toList.Perm (Y7 n)->rc lt p n->Q p s'):(kas_sort n).kasWp cmp Q s:=by
 unfold kas_sort;rw[KasT.kasWp_bind];have l:AllLt n (YJ (Y7 n)):=λi=>by
  by_cases k:i<n
  ·simp[Z6,k]
  ·simp[Z6,k];exact f
 have o:(YJ (Y7 n)).size=n:=by simp
 refine Hw W u f v l (by lia) (by rw[o];exact UD _) λm g s' d e a b t=>?_;have w:g.size=n:=by rw[e.size_eq];exact o
 have c:∀{q:Array Nat},q.Perm (YJ (Y7 n))->q.toList.Perm (Y7 n):=λr=>by simpa using WQ.mp r
 dsimp only
 split
 ·rw[show max m 1=m by lia];exact Jh W u f _ g m s' d (l.perm f e) (by lia) t λA B x y z=>h A B x (c (y.trans e)) (by rw[show m+(n - m)=n by lia]at z;exact z)
 ·have:m=n:=by lia
  subst this;exact h g s' d (c e) t
end
inductive Sh where
 | int | str | list (e:Sh) | lD | bC (a r:Sh)
def Sh.has:Sh->Zf->Prop
 | .int,d=>∃i,d = .int i
 | .str,d=>∃x,d = .str x
 | .list e,d=>∃ds,d = .list ds/\∀x∈ds,Sh.has e x
 | .lD,d=>d = .tuple []
 | .bC a r,d=>∃x ds,d = .tuple (x::ds)/\Sh.has a x/\Sh.has r (.tuple ds)
structure ve (S:Zf->Prop):Prop where
 cmp:∀d e,S d->S e->pH d e=true
 eqv:∀d e,S d->S e->(Yc d e=true↔d=e)
 irr:∀d,S d->ltv d d=false
 tot:∀d e,S d->S e->ltv d e=false->ltv e d=false->d=e
 trans:∀d e f,S d->S e->S f->ltv d e=true->ltv e f=true->ltv d f=true
theorem ve.asymm (o:ve S) {d e:Zf} (a:S d) (b:S e) (h:ltv d e=true):ltv e d=false:=by
 cases q:ltv e d with
 | false=>rfl
 | true=>
  have:=o.trans d e d a b a h q;rw[o.irr d a]at this;cases this
theorem ve.neg (o:ve S) {a b c:Zf} (d:S a) (e:S b) (f:S c) (h:ltv a c=true):ltv a b=true\/ltv b c=true:=by
 cases q:ltv a b with
 | true=>exact .inl rfl
 | false=>
  cases q2:ltv b a with
  | true=>exact .inr (o.trans b a c e d f q2 h)
  | false=>
   have:=o.tot a b d e q q2;subst this;exact .inr h
structure PZ (S:Zf->Prop) (L:UF->Prop):Prop where
 cmp:∀d e,L d->L e->cT d e=true
 eqv:∀d e,L d->L e->(YN d e=true↔d=e)
 irr:∀d,L d->aW d d=false
 tot:∀d e,L d->L e->aW d e=false->aW e d=false->d=e
 trans:∀d e f,L d->L e->L f->aW d e=true->aW e f=true->aW d f=true
theorem JD {a b:Zf} (o:ve S):PZ S (λl=>∀x∈l,S x) where
 cmp:=by
  intro d
  induction d with
  | nil=>intro e _ _;rw[cT]
  | cons x t p=>
   intro e i k;cases e with
   | nil=>rw[cT]
   | cons y n=>
    rw[gT]
    split
    ·exact p n (λz j=>i z (UJ _ j)) λz j=>k z (UJ _ j)
    ·exact o.cmp x y (i x UM) (k y UM)
 eqv:=by
  intro d
  induction d with
  | nil=>
   intro e _ _;cases e with
   | nil=>simp[YN]
   | cons y n=>simp[YN]
  | cons x t p=>
   intro e i k;cases e with
   | nil=>simp[YN]
   | cons y n=>
    rw[YN,Vm,o.eqv x y (i x UM) (k y UM),p n (λz j=>i z (UJ _ j)) λz j=>k z (UJ _ j)];simp
 irr:=by
  intro d
  induction d with
  | nil=>intro _;rw[aW]
  | cons x t p=>
   intro i;rw[cE,Zn ((o.eqv x x (i x UM) (i x UM)).mpr rfl)];exact p λz j=>i z (UJ _ j)
 tot:=by
  intro d
  induction d with
  | nil=>
   intro e _ _ g c;cases e with
   | nil=>rfl
   | cons y n=>rw[aW]at g;cases g
  | cons x t p=>
   intro e i k g c;cases e with
   | nil=>rw[aW]at c;cases c
   | cons y n=>
    have h:=i x UM;have m:=k y UM;rw[cE]at g c;by_cases q:x=y
    ·subst q;rw[Zn ((o.eqv x x h h).mpr rfl)]at g c;rw[p n (λz j=>i z (UJ _ j)) (λz j=>k z (UJ _ j)) g c]
    ·rw[Zo (λz=>q ((o.eqv x y h m).mp z))]at g;rw[Zo (λz=>q ((o.eqv y x m h).mp z).symm)]at c;exact absurd (o.tot x y h m g c) q
 trans:=by
  intro d
  induction d with
  | nil=>
   intro e f _ _ _ g c;cases f with
   | nil=>cases e <;> (rw[aW]at c;cases c)
   | cons z A=>rw[aW]
  | cons x t p=>
   intro e f i k B g c;cases e with
   | nil=>rw[aW]at g;cases g
   | cons y n=>
    cases f with
    | nil=>rw[aW]at c;cases c
    | cons z A=>
     have h:=i x UM;have m:=k y UM;have u:=B z UM;rw[cE]at g c ⊢;by_cases q:x=y
     ·subst q;rw[Zn ((o.eqv x x h h).mpr rfl)]at g;by_cases s:x=z
      ·subst s;rw[Zn ((o.eqv x x h h).mpr rfl)]at c ⊢;exact p n A (λw r=>i w (UJ _ r)) (λw r=>k w (UJ _ r)) (λw r=>B w (UJ _ r)) g c
      ·rw[Zo (λw=>s ((o.eqv x z h u).mp w))]at c ⊢;exact c
     ·rw[Zo (λw=>q ((o.eqv x y h m).mp w))]at g;by_cases s:y=z
      ·subst s;rw[Zo (λw=>q ((o.eqv x y h m).mp w))];exact g
      ·rw[Zo (λw=>s ((o.eqv y z m u).mp w))]at c;by_cases v:x=z
       ·subst v;have:=o.asymm h m g;rw[this]at c;cases c
       ·rw[Zo (λw=>v ((o.eqv x z h u).mp w))];exact o.trans x y z h m u g c
theorem Cg (h1:decide (x.cps.toList<y.cps.toList)=false) (h2:decide (y.cps.toList<x.cps.toList)=false):x=y:=by
 have e:x.cps.toList=y.cps.toList:=List.le_antisymm (by simpa using h2) (by simpa using h1);cases x;cases y;simp only[Str.mk.injEq];exact VZ.mp e
theorem Sh.ok:∀sh:Sh,ve sh.has
 | .int=>by
  refine⟨?_,?_,?_,?_,?_⟩
  ·rintro _ _ ⟨i,rfl⟩ ⟨j,rfl⟩;rw[pH]
  ·rintro _ _ ⟨i,rfl⟩ ⟨j,rfl⟩;simp[Yc]
  ·rintro _ ⟨i,rfl⟩;rw[ltv];simp
  ·rintro _ _ ⟨i,rfl⟩ ⟨j,rfl⟩ d c;rw[ltv]at d c;have:i=j:=by simp at d c;lia
   rw[this]
  ·rintro _ _ _ ⟨i,rfl⟩ ⟨j,rfl⟩ ⟨k,rfl⟩ d c;rw[ltv]at d c ⊢;simp at d c ⊢;lia
 | .str=>by
  refine⟨?_,?_,?_,?_,?_⟩
  ·rintro _ _ ⟨i,rfl⟩ ⟨j,rfl⟩;rw[pH]
  ·rintro _ _ ⟨i,rfl⟩ ⟨j,rfl⟩;simp[Yc]
  ·rintro _ ⟨i,rfl⟩;rw[ltv];exact Zl (List.lt_irrefl _)
  ·rintro _ _ ⟨i,rfl⟩ ⟨j,rfl⟩ d c;rw[ltv]at d c;rw[Cg d c]
  ·rintro _ _ _ ⟨i,rfl⟩ ⟨j,rfl⟩ ⟨k,rfl⟩ d c;rw[ltv]at d c ⊢;exact Zk (List.lt_trans (Zm d) (Zm c))
 | .list e=>by
  have L:=JD (a:=.none) (b:=.none) (Sh.ok e);refine⟨?_,?_,?_,?_,?_⟩
  ·rintro _ _ ⟨i,rfl,n⟩ ⟨j,rfl,p⟩;rw[pH];exact L.cmp i j n p
  ·rintro _ _ ⟨i,rfl,n⟩ ⟨j,rfl,p⟩;rw[Yc,L.eqv i j n p];simp
  ·rintro _ ⟨i,rfl,n⟩;rw[ltv];exact L.irr i n
  ·rintro _ _ ⟨i,rfl,n⟩ ⟨j,rfl,p⟩ d c;rw[ltv]at d c;rw[L.tot i j n p d c]
  ·rintro _ _ _ ⟨i,rfl,n⟩ ⟨j,rfl,p⟩ ⟨k,rfl,C⟩ d c;rw[ltv]at d c ⊢;exact L.trans i j k n p C d c
 | .lD=>by
  refine⟨?_,?_,?_,?_,?_⟩
  ·rintro _ _ rfl rfl;rw[pH,cT]
  ·rintro _ _ rfl rfl;simp[Yc,YN]
  ·rintro _ rfl;rw[ltv,aW]
  ·rintro _ _ rfl rfl _ _;rfl
  ·rintro _ _ _ rfl rfl rfl d c;rw[ltv,aW]at d;cases d
 | .bC a r=>by
  have h:=Sh.ok a;have or:=Sh.ok r;refine⟨?_,?_,?_,?_,?_⟩
  ·rintro _ _ ⟨x,t,rfl,f,g⟩ ⟨y,A,rfl,m,l⟩;have:=or.cmp _ _ g l;rw[pH]at this ⊢;rw[gT]
   split
   ·exact this
   ·exact h.cmp x y f m
  ·rintro _ _ ⟨x,t,rfl,f,g⟩ ⟨y,A,rfl,m,l⟩;have:=or.eqv _ _ g l;rw[Yc]at this ⊢;rw[YN,Vm,h.eqv x y f m,this];simp
  ·rintro _ ⟨x,t,rfl,f,g⟩;have:=or.irr _ g;rw[ltv]at this ⊢;rw[cE,Zn ((h.eqv x x f f).mpr rfl)];exact this
  ·rintro _ _ ⟨x,t,rfl,f,g⟩ ⟨y,A,rfl,m,l⟩ d c;have q:=or.tot _ _ g l;rw[ltv]at d c q;rw[ltv]at q;rw[cE]at d c;by_cases o:x=y
   ·subst o;rw[Zn ((h.eqv x x f f).mpr rfl)]at d c;have:=q d c;injection this with this;rw[this]
   ·rw[Zo (λw=>o ((h.eqv x y f m).mp w))]at d;rw[Zo (λw=>o ((h.eqv y x m f).mp w).symm)]at c;exact absurd (h.tot x y f m d c) o
  ·rintro _ _ _ ⟨x,t,rfl,f,g⟩ ⟨y,A,rfl,m,l⟩ ⟨z,_,rfl,u,v⟩ d c;have q:=or.trans _ _ _ g l v;rw[ltv,ltv,ltv]at q;rw[ltv]at d c ⊢;rw[cE]at d c ⊢;by_cases o:x=y
   ·subst o;rw[Zn ((h.eqv x x f f).mpr rfl)]at d;by_cases s:x=z
    ·subst s;rw[Zn ((h.eqv x x f f).mpr rfl)]at c ⊢;exact q d c
    ·rw[Zo (λw=>s ((h.eqv x z f u).mp w))]at c ⊢;exact c
   ·rw[Zo (λw=>o ((h.eqv x y f m).mp w))]at d;by_cases s:y=z
    ·subst s;rw[Zo (λw=>o ((h.eqv x y f m).mp w))];exact d
    ·rw[Zo (λw=>s ((h.eqv y z m u).mp w))]at c;by_cases B:x=z
     ·subst B;have:=h.asymm f m d;rw[this]at c;cases c
     ·rw[Zo (λw=>B ((h.eqv x z f u).mp w))];exact h.trans x y z f m u d c
theorem jN (o:ve S):∀{l l':UF},(∀x∈l,S x)->l.Perm l'->l.Pairwise (λa b=>ltv b a=false)->l'.Pairwise (λa b=>ltv b a=false)->l=l':=by
 intro l l' hS c d g;refine List.Perm.eq_of_pairwise (le:=λa b=>ltv b a=false) ?_ d g c;intro a b e f x y;exact o.tot a b (hS a e) (hS b (c.mem_iff.mpr f)) y x
inductive iR:Sh->Bool->Prop
 | int:iR .int true
 | str:iR .str true
 | lD:iR .lD false
 | bC (a r:Sh):iR (.bC a r) false
theorem jV (r:aQ xs us) (i:Nat):RelV (xs.getD i .non) (us.getD i .none):=by
 rw[US,US];cases e:xs[i]? with
 | none=>rw[r.none_of e];rfl
 | some x=>
  obtain⟨u,a,b⟩:=r.get e;rw[a];exact b
theorem aD.IT (h:aD K H xs ds) (i:Nat) (hi:i<ds.length):Den K H (xs.getD i .non) (ds.getD i .none):=by
 have e:ds[i]? = some ds[i]:=by simp[hi]
 obtain⟨x,b,a⟩:=h.getD e;rw[US,US,b,e];exact a
theorem II {a r:Sh}:∀{ks:Uj}{us:WF}{kds:UF},Inv X pins σ H s->aQ ks us->aD X.K H ks kds->(∀d∈kds,(Sh.bC a r).has d) ->
  ∃fs:WF,KatTups s.heap us fs/\fs.length=us.length/\∀f∈fs,∃d as,a.has d/\Reads s.heap f d as
 | _,_,_,I,.nil,.nil,_=>⟨[],.nil,rfl,λ_ h=>by cases h⟩
 | _,_,_,I,.cons rv rr,.cons b ht,hs=>by
  obtain⟨fs,p,k,m⟩:=II I rr ht λd b=>hs d (UJ _ b);obtain⟨x,_,e,v,_⟩:=hs _ UM;subst e;cases b with
  | tup w t=>
   cases rv;obtain⟨_,i,⟨o,l,c,n,u⟩,_⟩:=I.tuple w;cases t with
   | cons j _=>
    cases i with
    | @cons v0 u0 vs0 us0 r0 rr0=>
     obtain⟨as,q⟩:=I.reads j r0;refine⟨u0::fs,.cons l c u (by simp) p,by simp[k],λf g=>?_⟩;rcases UR.mp g with e | g
     ·subst e;exact⟨x,as,v,q⟩
     ·exact m f g
theorem A4 {a:Sh}{b:Bool} (m:iR a b):∃T:Xy,(T == T)=true/\(T != Value.type "tuple")=b/\∀(M:Model) (h:Heap) (f:Xy) (d:Zf) (as:Uz),a.has d->Reads h f d as->Looks M h (typeOf f) T:=by
 cases m with
 | int=>exact⟨.type "int",by decide,by decide,λM h f d as c r=>by obtain⟨i,rfl⟩:=c;cases r;exact .of_pure rfl⟩
 | str=>exact⟨.type "str",by decide,by decide,λM h f d as c r=>by obtain⟨i,rfl⟩:=c;cases r;exact .of_pure rfl⟩
 | lD=>exact⟨.type "tuple",by decide,by decide,λM h f d as c r=>by
   have e:d = .tuple []:=c;subst e;cases r with
   | tuple g j l k=>rw[<-j];exact(Looks.ld g).andThen .now⟩
 | bC a r=>exact⟨.type "tuple",by decide,by decide,λM h f d as c r=>by
   obtain⟨x,_,rfl,_,_⟩:=c;cases r with
   | tuple g j l k=>rw[<-j];exact(Looks.ld g).andThen .now⟩
theorem zK {a r:Sh}{b:Bool} (E:iR a b) {ks:Uj} (I:Inv X pins σ H s) (F:aQ ks us) (D:aD X.K H ks kds) (hs:∀d∈kds,(Sh.bC a r).has d) (zf:∀d∈kds,d.depth<=100)
  (h2:2<=us.length) (hu:A.units+101<cLine) {G:Array Nat->Xx->Prop}
  (h:∀p:Array Nat,p.toList.Perm (Y7 us.length)->(∀i j,i<=j->j<us.length->ltv (kds.getD (p.getD j 0) .none) (kds.getD (p.getD i 0) .none)=false)->G p s) :
  Zh (model X.prog X.w) A (keyKind' us.toArray) (λκ s'=>(kas_sort us.length).kasWp (kas_ask X.prog X.w A κ us) G s') (λ_ _=>False) s:=by
 obtain⟨_,t1,_,t3⟩:=II I F D hs;obtain⟨T,Q,S,R⟩:=A4 E;refine kat_kind t1 (by lia) (λf E=>?_) Q ?_
 ·obtain⟨d,as,x,y⟩:=t3 f E;exact R _ _ f d as x y
 rw[S];have l1:us.length=kds.length:=by rw[<-F.length];exact D.length
 have o:=Sh.ok (.bC a r);have m:∀i,i<us.length->(Sh.bC a r).has (kds.getD i .none):=λi c=>by
  have e:kds[i]? = some kds[i]:=by simp[<-l1,c]
  (rw[US,e])
  exact hs _ (Vh _)
 have O:∀i,i<us.length->(kds.getD i .none).depth<=100:=λi c=>by
  have e:kds[i]? = some kds[i]:=by simp[<-l1,c]
  (rw[US,e])
  exact zf _ (Vh _)
 refine DM (n:=us.length) (lt:=λi j=>ltv (kds.getD i .none) (kds.getD j .none)) (P:=λs'=>s' = s) ⟨λi c=>o.irr _ (m i c),λi j k c B hk q=>o.neg (m i c) (m j B) (m k hk) q,λi j c B q=>o.asymm (m i c) (m j B) q⟩
  (λi j C s' c B e q=>?_) (by lia) rfl λp s' e hp up=>by subst e;exact h p hp up
 subst e;show Zh (model X.prog X.w) A (keyLt' (tuples' b) (us.getD i .none) (us.getD j .none)) C (λ_ _=>False) s';have z:=D.IT i (by lia);have v:=D.IT j (by lia);have Y:=jV F i;have W:=jV F j;have g:=m i c;have l:=m j B;have N:=O i c;have L:=q s' rfl;have J:=o.cmp _ _ g l;have u:=z.lay;have t:=v.lay;revert z v g l N L J u t;generalize kds.getD i .none=d;generalize kds.getD j .none=e;intro z v g l N L J u t;obtain⟨x,_,rfl,hx,_⟩:=g;obtain⟨y,_,rfl,hy,_⟩:=l;revert z v Y W;generalize ks.getD i .non=vi;generalize ks.getD j .non=vj;generalize us.getD i .none=ui;generalize us.getD j .none=uj;intro Y W z v;cases z with
 | tup qi ti=>
  cases v with
  | tup qj tj=>
   cases Y;cases W;obtain⟨_,rv,⟨_,ei,_,_,M⟩,_⟩:=I.tuple qi;obtain⟨_,U,⟨oj,ej,cj,nj,dtj⟩,_⟩:=I.tuple qj;obtain⟨as,ra⟩:=I.readsAll ti rv;obtain⟨_,rb⟩:=I.readsAll tj U;rw[ltv]at L;rw[pH]at J;rw[Yr]at N;refine Cs ei M ej dtj (by simpa using ra) (by simpa using rb) u t J (λd0 e0 h1 h3 Z=>?_) (by lia) L;have e1:x=d0:=by simpa using h1
   have e2:y=e0:=by simpa using h3
   subst e1 e2;cases E with
   | int=>obtain⟨p,rfl⟩:=hx;obtain⟨q,rfl⟩:=hy;exact .inl ⟨p,q,rfl,rfl⟩
   | str=>obtain⟨p,rfl⟩:=hx;obtain⟨q,rfl⟩:=hy;exact .inr ⟨p,q,rfl,rfl⟩
   | lD=>cases Z
   | bC _ _=>cases Z
theorem Inv.adopt {t':Nat} (I:Inv X pins σ H s) (h:∀b∈wr,cA X pins H b) (l:a∈wr) (k:∀b o,b∉wr->s.heap.get? b=some o->h'.get? b=some o)
  (j:cg X.prog X.w (upd H a o) h' a o):Inv X pins σ (upd H a o) { s with heap:=h',toks:=t' }:=by
 have i:∀b u,H b=some u->b∉wr:=λb u e z=>by rw[(h b z).1]at e;cases e
 have d:H a=none:=(h a l).1;refine I.step (g':=s.gens) (d':=s.drawn) (ch:=wr) (λb g=>⟨(h b g).2.2.2.1,(h b g).2.1,(h b g).2.2.2.2.1,(h b g).2.2.2.2.2⟩) (λb o _ _ f e _=>k b o f e) (λb o _ _ f e _=>⟨o.slots,k b o f e⟩)
  (λb p f e n=>by rw[ap (show b≠a fromλz=>f (by rw[z];exact l))];exact n)
  (λb o f e=>⟨o,k b o f e⟩) (λb x e=>by rw[ap (aw e d)];exact e) (λb p u e=>by rw[ap (aw e d)];exact e) (λb _ e=>⟨#[],by rw[ap (aw e d),e];simp⟩) (λm t=>?_) (λb u e=>?_) I.bare
 ·obtain⟨o,y,A,B,r⟩:=t;exact⟨o,y,A,k _ o (λz=>(h _ z).2.1 rfl) B,r⟩
 ·by_cases g:b=a
  ·subst g;rw[ab]at e;cases e;exact j
  ·rw[ap g]at e;refine(I.hok b u e).yY (λc v f q=>k c v ?_ q) (λc q=>by rw[ap (aw q d)];exact q) λc x q=>by rw[ap (aw q d)];exact q
   rcases f with z | z
   ·rw[z];exact i b u e
   ·exact i c _ z
def picked (xs:Uj) (p:List Nat):Uj:=p.map λi=>xs.getD i .non
theorem mJ {xs:Uj}{us:WF} (r:aQ xs us):∀p:List Nat,aQ (picked xs p) (p.map λi=>us.getD i .none)
 | []=>.nil
 | i::p=>.cons (jV r i) (mJ r p)
theorem oN (xs:Uj) (p:List Nat):(picked xs p).length=p.length:=by simp[picked]
theorem iu (us:List α) (d:α):(Y7 us.length).map (λi=>us.getD i d)=us:=by
 apply V8
 ·simp
 ·intro i h1 h2;simp[h2]
def fW (kds:UF) (p:List Nat):Prop:=(p.map λi=>kds.getD i .none).Pairwise λa b=>ltv b a=false
theorem BC {p:Array Nat} (d:p.toList.length=n) (h:∀i j,i<=j->j<n->ltv (kds.getD (p.getD j 0) .none) (kds.getD (p.getD i 0) .none)=false):fW kds p.toList:=by
 unfold fW
 (rw[WS])
 intro i j f c _;simp only[W0];have b:i<p.size:=by simpa using f
 have a:j<p.size:=by simpa using c
 have:=h i j (by lia) (by simp at d;lia);have e:p.getD i 0=p[i]:=by simp[Z6,b]
 have g:p.getD j 0=p[j]:=by simp[Z6,a]
 rw[e,g]at this;simpa using this
theorem r6 (hn:n<2):fW kds (Y7 n):=by
 unfold fW
 match n,hn with
 | 0,_=>simp
 | 1,_=>simp
theorem r9 (I:Inv X pins σ H s) (h:s.heap.get? D=some (seqObj "list" vs.toArray i)) (f:cA X pins H D) :
  ∃e1,(s.heap.update D (Y8 λ_=>(#[]:Uy))).get? D=some (seqObj "list" #[] e1) /\
   ∀h3,h3=((s.heap.update D (Y8 λ_=>(#[]:Uy))).push (seqObj "tuple" vs.toArray 0)).push (seqObj "list" #[] 0)->h3.get? D=some (seqObj "list" #[] e1)/\Inv X pins σ H { s with heap:=h3 }:=by
 have a:=get?_update_seq h λ_=>(#[]:Uy);have rest:=(Yi s.heap D (Y8 λ_=>(#[]:Uy))).2;generalize s.heap.update D (Y8 λ_=>(#[]:Uy))=h1 at a rest;refine⟨_,a,λh3 g=>?_⟩;have d:∀c o,h1.get? c=some o->h3.get? c=some o:=λc o e=>g ▸ Xu _ (Xu _ e);refine⟨d D _ a,I.dG (t':=s.toks) (wr:=[D]) (λc b=>?_) λc o b e=>d c o ((rest c λz=>b (z ▸ UG.mpr rfl)).trans e)⟩;rw[UG.mp b];exact f
theorem GC {T:Nat}{P:PySem.Fin->Xx->Prop}{E:Xy->Xx->Prop} (I:Inv X pins σ H s) (F:s.heap.get? D=some (seqObj "list" vs.toArray T)) (N:cA X pins H D)
  (L:aQ xs vs) (B:∀(s':Xx) (G:Array Nat->Xx->Prop),Inv X pins σ H s'->2<=vs.length->(∀p:Array Nat,p.toList.Perm (Y7 vs.length)->(∀i j,i<=j->j<vs.length->ltv (ds.getD (p.getD j 0) .none) (ds.getD (p.getD i 0) .none)=false)->G p s')->Zh (model X.prog X.w) A (keyKind' vs.toArray) (λκ s''=>(kas_sort vs.length).kasWp (kas_ask X.prog X.w A κ vs) G s'') (λ_ _=>False) s') (q:vs.length<64)
  (h:∀(p:List Nat) (h':Heap),p.Perm (Y7 xs.length)->fW ds p->Inv X pins σ (upd H D (.lst (picked xs p))) { s with heap:=h' }->P (.done (.ret .none)) { s with heap:=h' }) :
  Zh (model X.prog X.w) A (Builtin.«list.sort» ⟨[.ref D],[]⟩) P E s:=by
 have l:=L.length;obtain⟨_,u,y⟩:=r9 I F N;rw[list_sort_plain];refine Xw (listItems_at F rfl (Xw (listUpdate_at F rfl (Xw (seqEpoch_at u rfl (Xw (wpAny_newTuple (Xw (wpAny_newList (Xr ?main) (UU _))) ?short)))) ?few (UU _))))
 case short=>show vs.length<=_;rw[sizeLine_eq];lia
 case few=>rw[UN,sizeLine_eq];lia
 case main=>
 show Zh (model X.prog X.w) A _ P E { s with heap:=((s.heap.update D (Y8 λ_=>(#[]:Uy))).push (seqObj "tuple" vs.toArray 0)).push (seqObj "list" #[] 0) };generalize hh3:((s.heap.update D (Y8 λ_=>(#[]:Uy))).push (seqObj "tuple" vs.toArray 0)).push (seqObj "list" #[] 0)=h3;obtain⟨f,M⟩:=y h3 hh3.symm;have m:∀(p:List Nat) (b:Uy),p.Perm (Y7 xs.length)->fW ds p->b=YJ (p.map λi=>vs.getD i Value.none) ->
   P (.done (.ret .none)) { s with heap:=h3.update D (Y8 λ_=>b) }:=λp b k z S=>by
  have U:=Yi h3 D (Y8 λ_=>b);obtain⟨r,v⟩:∃r,(h3.update D (Y8 λ_=>b)).get? D=some (seqObj "list" b r):=⟨_,get?_update_seq f λ_=>b⟩;have R:p.length=xs.length:=by rw[k.length_eq];simp
  refine h p _ k z (M.adopt (t':=s.toks) (wr:=[D]) (a:=D) (λc C=>by rw[show c=D by simpa using C];exact N) (by simp) (λc o C e=>(U.2 c (by simpa using C)).trans e) ?_);refine⟨by rw[oN,R,sizeLine_eq];lia,p.map λi=>vs.getD i Value.none,r,mJ L p,?_⟩;rw[v,S]
 dsimp only;by_cases d:vs.toArray.size<2
 ·rw[Zn d,Zn d];refine Xw (Xv ?_);refine Xw ?_;show Zh _ _ ((pure ():StateT SortSt Sem Unit).run _) _ _ _;rw[StateT.run_pure];refine Xv ?_;dsimp only;refine Xw (seqEpoch_at f rfl ?_);have t:(arrOf (SortSt.mk' general' (vs.toArray.zip vs.toArray) #[] 7 none)).map (·.2)=vs.toArray:=by
   show(vs.toArray.zip vs.toArray).map (·.2)=vs.toArray
   apply VZ.mp;simp[WZ]
  rw[t];refine Xw (listUpdate_at f rfl ?_ (UU _) (by show vs.toArray.size<=_;rw[UN,sizeLine_eq];lia))
  (simp only[bne_self_eq_false,Ve,if_false])
  refine Xv (m (Y7 xs.length) _ (Z8 _) (r6 (by rw[UN]at d;lia)) ?_);rw[l,iu]
 ·rw[Zo d,Zo d];have K:2<=vs.length:=by rw[UN]at d;lia
  refine Xw (Xs (B _ (λp s'=>s' = { s with heap:=h3 }/\p.toList.Perm (Y7 vs.length)/\fW ds p.toList) M K λp k Y=>⟨rfl,k,BC (by rw[k.length_eq];simp) Y⟩) (λκ _ O=>?_) λ_ _ x=>x.elim);refine Xw (Xs (kat_run (Q:=λg s'=>∃p:Array Nat,arrOf g = p.map (kas_item (vs.toArray.zip vs.toArray))/\failedOf g = none/\s' = { s with heap:=h3 }/\p.toList.Perm (Y7 vs.length)/\fW ds p.toList)
   rfl K q (λW g s' _ Z a3 a4=>⟨W,Z,a3,a4⟩) O) ?_ λ_ _ e=>e)
  rintro⟨⟨⟩,g⟩ s' ⟨p,J,n,rfl,k,z⟩;dsimp only;have t:=kat_snds rfl J;rw[t];refine Xw (seqEpoch_at f rfl ?_);refine Xw (listUpdate_at f rfl ?_ (UU _) (by rw[UN,UA,k.length_eq,VN,sizeLine_eq];lia));rw[n]
  (simp only[bne_self_eq_false,Ve,if_false])
  exact Xv (m p.toList _ (by rw[l];exact k) z rfl)
def mz (h:Heap) (vs:WF):Heap:=(h.push (seqObj "list" #[] 0)).update h.objs.size (Y8 (· ++ vs.toArray))
theorem tu (h:Heap) (vs:WF):(mz h vs).objs.size=h.objs.size+1:=(Heap.size_update ..).trans (size_push' _ _)
theorem Fy (h:Heap) (vs:WF):((mz h vs).push (seqObj "list" vs.toArray 0)).get? (h.objs.size+1)=some (seqObj "list" vs.toArray 0):=by
 have q:((mz h vs).push (seqObj "list" vs.toArray 0)).get? (mz h vs).objs.size=some (seqObj "list" vs.toArray 0):=Y3 _ rfl
 rwa [tu]at q
theorem Au (h:Heap) (vs:WF):∀b o,h.get? b=some o->((mz h vs).push (seqObj "list" vs.toArray 0)).get? b=some o:=λb o q=>
 Xu _ (((Yi (h.push (seqObj "list" #[] 0)) h.objs.size (Y8 (· ++ vs.toArray))).2 b (U2 (Y2 q))).trans (Xu _ q))
def sO (sp:Sp):Uj->Uj->Hp->(Uj->Hp->Prop)->Prop
 | [],ks,H,Q=>Q ks H
 | x::r,ks,H,Q=>sp [x] H (λk H'=>sO sp r (ks++[k]) H' Q) E0
theorem Dr {k:Nat}{kS:Za}{oD:Obj}{xs:Uj}{vs:WF}{M:Uj->Hp->Prop}{e0:Nat}{i:Xy->PUnit->Sem (ForInStep PUnit)}{E:Xy->Xx->Prop}{R:PUnit->Xx->Prop}
  (F:aB X.prog X.w X.K X.mg X.base CX0 k f fd ps sp) (hr:bM (k+2) X.A) (hb:Binds X.K fd ps []) (a0:D≠kS) (hD:∀v,oD.data ≠ .cell v)
  (jX:∀x (us:WF) e (s:Xx) (C:Xy->Xx->Prop),us.length<64->s.heap.get? kS=some (seqObj "list" us.toArray e)->Zh (model X.prog X.w) X.A.in1.in1 (call (.ref f) [x]) (λk s'=>∃(us':WF) (e':Nat),us'.length<64/\s'.heap.get? kS=some (seqObj "list" us'.toArray e')/\C k s') (λ_ _=>False) s ->
   Zh (model X.prog X.w) X.A.in1.in1 (i x ⟨⟩) (λr s'=>r = .yield ⟨⟩/\∃k s1,C k s1/\s' = { s1 with heap:=s1.heap.update kS (Y8 (·.push k)) }) E s)
  (hv:aQ xs vs) (a4:vs.length<64) (I:Inv X pins σ H s) (fD:cA X pins H D) (fK:cA X pins H kS) (gD:s.heap.get? D=some oD) (gK:s.heap.get? kS=some (seqObj "list" ([]:WF).toArray e0)) (hk:sO sp xs [] H M)
  (t:∀s' H' ks us e,Inv X pins σ H' s'->cA X pins H' D->cA X pins H' kS->s'.heap.get? D=some oD->s'.heap.get? kS=some (seqObj "list" us.toArray e)->aQ ks us->ks.length=xs.length->M ks H'->R ⟨⟩ s') :
  Zh (model X.prog X.w) X.A.in1.in1 (forIn vs PUnit.unit i) R E s:=by
 have a3:=hv.length;refine ksk_fold (λj s'=>∃H' ks us e,Inv X pins σ H' s'/\cA X pins H' D/\cA X pins H' kS/\s'.heap.get? D=some oD/\s'.heap.get? kS=some (seqObj "list" us.toArray e)/\aQ ks us/\ks.length=j/\sO sp (xs.drop j) ks H' M) vs 0 s
  ⟨H,[],[],e0,I,fD,fK,gD,gK,.nil,rfl,hk⟩ (λj x s' hx ⟨H',ks,us,e,G,a,b,l,g,J,L,h⟩=>?_) λs' ⟨H',ks,us,e,G,a,b,l,g,J,L,h⟩=>?_
 ·rw[W3]at h L
  (have hj:j<vs.length:=(VA.mp hx).1)
  have y:j<xs.length:=by lia
  have ex:xs[j]? = some xs[j]:=by simp[y]
  obtain⟨u,hu,ru⟩:=hv.get ex;rw[hx]at hu;cases hu;rw[Vk y]at h;have hl:=J.length;have Ip:Inv X (pins++[(D,oD),(kS,seqObj "list" us.toArray e)]) σ H' s':=G.pZ λp hp=>by
   (rcases UY.mp hp with z | z)
   ·exact G.pin p (U8 _ z)
   ·rcases UR.mp z with z | z
    ·subst z;exact⟨l,a.1,a.2.1,a.2.2.1,hD⟩
    ·have z':p=(kS,seqObj "list" us.toArray e):=by simpa using z
     subst z';exact⟨g,b.1,b.2.1,b.2.2.1,λv q=>by cases q⟩
  have Q:[x].length=ps.length:=F.len _ _ _ _ h;have S:=F.run X.A.in1.in1 X.stack s' H' ⟨[x],[]⟩ [x] [xs[j]] _ E0 (hr.in1.in1) (Ip.Gq.in1.in1) (by have:=hb s' [x] G.kIn (by simpa using Q);simpa using this) (.cons ru .nil) h;refine Xs (jX x us e s' (λd s1=>∃v H1,Inv X (pins++[(D,oD),(kS,seqObj "list" us.toArray e)]) σ H1 s1/\RelV v d/\sO sp (xs.drop (j+1)) (ks++[v]) H1 M) (by lia) g (wpAny_call (codeAny_mono S λr s1 B=>?_))) (λr _ O=>?_) λ_ _ z=>z
  ·cases r with
   | error er=>exact B.elim
   | ok fl=>
    cases fl with
    | ret d=>
     obtain⟨v,H1,m,Z,P⟩:=Ip.after B;refine⟨us,e,by lia,(m.pin (kS,seqObj "list" us.toArray e) (by simp)).1,v,H1,m,Z,P⟩
    | next=>exact False.elim B
    | brk=>exact False.elim B
    | cont=>exact False.elim B
  ·obtain⟨er,d,s1,⟨v,H1,m,Z,P⟩,es⟩:=O;refine⟨er,?_⟩;subst es;have pD:=m.pin (D,oD) (by simp);have pK:=m.pin (kS,seqObj "list" us.toArray e) (by simp);have T:Inv X pins σ H1 s1:=m.i6;have U:cA X pins H1 D:=⟨pD.2.1,a.2⟩;have n:cA X pins H1 kS:=⟨pK.2.1,b.2⟩;have sb:=Yi s1.heap kS (Y8 (·.push d))
   have ea:us.toArray.push d=(us++[d]).toArray:=by simp
   obtain⟨N,W⟩:∃N,(s1.heap.update kS (Y8 (·.push d))).get? kS=some (seqObj "list" (us++[d]).toArray N):=⟨_,by rw[<-ea];exact get?_update_seq pK.1 (·.push d)⟩
   have I2:Inv X pins σ H1 { s1 with heap:=s1.heap.update kS (Y8 (·.push d)) }:=T.dG (t':=s1.toks) (wr:=[kS]) (λc Y=>by rw[show c=kS by simpa using Y];exact n) λc o Y e=>(sb.2 c (by simpa using Y)).trans e
   refine⟨H1,ks++[v],us++[d],N,I2,U,n,(sb.2 D a0).trans pD.1,W,J.append (.cons Z .nil),by simp[L],?_⟩;rw[W3];exact P
 ·rw[W3]at h L;rw[Vy (by lia)]at h;exact t s' H' ks us e G a b l g J (by lia) h
theorem uP {a r:Sh}{b:Bool}{k:Nat}{n0:Nat} (hf:iR a b) {P:PySem.Fin->Xx->Prop}
  (F:aB X.prog X.w X.K X.mg X.base CX0 k f fd ps sp) (hr:bM (k+2) X.A) (hb:Binds X.K fd ps []) (I:Inv X pins σ H s) (Y:s.heap.get? D=some (seqObj "list" vs.toArray n0)) (fD:cA X pins H D)
  (hv:aQ xs vs) (J:vs.length<64)
  {Qk:Uj->Hp->Prop} (h:sO sp xs [] H Qk) (hQ:∀ks H1,Qk ks H1->∃kds,aD X.K H1 ks kds/\(∀d∈kds,(Sh.bC a r).has d)/\(∀d∈kds,d.depth<=100) /\
   ∀(p:List Nat) (s':Xx),p.Perm (Y7 xs.length)->fW kds p->H1 D=none->Inv X pins σ (upd H1 D (.lst (picked xs p))) s'->P (.done (.ret .none)) s') :
  Zh (model X.prog X.w) X.A.in1.in1 (ksk_tree D (.ref f) false) P E s:=by
 have hu:X.A.in1.in1.units+101<cLine:=by show X.A.units+1+1+101<cLine;have:=hr.un;lia
 have m:=hv.length;obtain⟨U,a9,ab⟩:=r9 I Y fD;unfold ksk_tree;refine Xw (listItems_at Y rfl (Xw (listUpdate_at Y rfl (Xw (seqEpoch_at a9 rfl (Xw (wpAny_newTuple (Xw (wpAny_newList (Xr ?main) (UU _))) ?short)))) ?few (UU _))))
 case short=>show vs.length<=_;rw[sizeLine_eq];lia
 case few=>rw[UN,sizeLine_eq];lia
 case main=>
 show Zh (model X.prog X.w) X.A.in1.in1 (ksk_rest D (.ref f) false vs.toArray U (.ref ((s.heap.update D (Y8 λ_=>(#[]:Uy))).push (seqObj "tuple" vs.toArray 0)).objs.size)) P E { s with heap:=((s.heap.update D (Y8 λ_=>(#[]:Uy))).push (seqObj "tuple" vs.toArray 0)).push (seqObj "list" #[] 0) };have N:((s.heap.update D (Y8 λ_=>(#[]:Uy))).push (seqObj "tuple" vs.toArray 0)).objs.size=s.heap.objs.size+1:=by rw[size_push',Heap.size_update]
 have gK:(((s.heap.update D (Y8 λ_=>(#[]:Uy))).push (seqObj "tuple" vs.toArray 0)).push (seqObj "list" #[] 0)).get? (s.heap.objs.size+1)=some (seqObj "list" ([]:WF).toArray 0):=by
  (rw[<-N];exact Y3 _ rfl)
 rw[N];generalize hh3:((s.heap.update D (Y8 λ_=>(#[]:Uy))).push (seqObj "tuple" vs.toArray 0)).push (seqObj "list" #[] 0)=h3 at gK;obtain⟨a6,I3⟩:=ab h3 hh3.symm;have R7:D<s.heap.objs.size:=Y2 Y;have O:D≠s.heap.objs.size+1:=U2 (WT R7);have fK:cA X pins H (s.heap.objs.size+1):=I.tM (VX _) (I.hok.fresh (VX _));generalize s.heap.objs.size+1=kS at *;unfold ksk_rest;refine Xw (wpAny_rule ?_)
 first | rw[List.forIn_toArray] | (rw[<-WR];simp only[List.toList_toArray])
 refine Xw (Dr (R:=λ_ s'=>Zh (model X.prog X.w) X.A.in1.in1 (Builtin.List.listItems (.ref kS) >>= λB=>ksk_end D false vs.toArray U (.ref kS) B) P E s') F hr hb O (λv z=>by cases z) (λx us e s' C _ _ hx=>?_) hv J I3 fD fK a6 gK h λs' _ ks us e I' y a0 a7 L rk _ qk=>?_)
 ·refine Xw (wpAny_attempt (Xs hx (λkv a8 S=>?_) λ_ _ hF=>hF.elim));obtain⟨_,_,_,ae,c⟩:=S
  try dsimp only
  refine Xw (listUpdate_at ae rfl ?_ (by rw[UN,sizeLine_eq];lia) (UK (W4 (WJ ..)) (by rw[UN,sizeLine_eq];lia)));exact Xv ⟨rfl,kv,a8,c,rfl⟩
 ·obtain⟨kds,hd,hs,zf,q⟩:=hQ _ _ qk;refine Xw (listItems_at L rfl ?_);have l:us.length=vs.length:=by rw[<-rk.length];lia
  have PR:∀(T:SortSt) (p:List Nat),(arrOf T).map (·.2)=YJ (p.map λi=>vs.getD i Value.none)->failedOf T=none->p.Perm (Y7 xs.length)->fW kds p->Zh (model X.prog X.w) X.A.in1.in1 (ksk_tail D false U (.ref kS) T) P E s':=λT p ja u n k6=>by
   have sk:=Yi s'.heap kS (Y8 λ_=>(#[]:Uy));have t:(s'.heap.update kS (Y8 λ_=>(#[]:Uy))).get? D=some (seqObj "list" #[] U):=(sk.2 D O).trans a7;have pl:p.length=xs.length:=by rw[n.length_eq];simp
   unfold ksk_tail
   try dsimp only
   rw[ja];refine Xw (listUpdate_at L rfl ?_ (by rw[UN,sizeLine_eq];lia) (UU _));refine Xw (wpAny_letGo ?_);refine Xw (seqEpoch_at t rfl ?_);refine Xw (listUpdate_at t rfl ?_ (UU _) (by simp only[Ve,if_false];rw[UN,UA,pl,sizeLine_eq];lia));rw[u]
   (simp only[bne_self_eq_false,Ve,if_false])
   refine Xv ?_;have sd:=Yi (s'.heap.update kS (Y8 λ_=>(#[]:Uy))) D (Y8 λ_=>YJ (p.map λi=>vs.getD i Value.none));obtain⟨Z,aa⟩:∃Z,((s'.heap.update kS (Y8 λ_=>(#[]:Uy))).update D (Y8 λ_=>YJ (p.map λi=>vs.getD i Value.none))).get? D=some (seqObj "list" (YJ (p.map λi=>vs.getD i Value.none)) Z):=⟨_,get?_update_seq t λ_=>YJ (p.map λi=>vs.getD i Value.none)⟩;refine q p _ n k6 y.1 (I'.adopt (t':=s'.toks) (wr:=[D,kS]) (a:=D) (λc W=>?_) (by simp) (λc o W e=>?_) ⟨by rw[oN,pl,sizeLine_eq];lia,p.map λi=>vs.getD i Value.none,Z,mJ hv p,aa⟩)
   ·rcases UR.mp W with z | z
    ·rw[z];exact y
    ·rw[show c=kS by simpa using z];exact a0
   ·exact(sd.2 c (λz=>W (by simp[z]))).trans ((sk.2 c (λz=>W (by simp[z]))).trans e)
  unfold ksk_end
  try dsimp only
  (simp only[Ve,if_false])
  by_cases g:vs.toArray.size<2
  ·rw[Zn g,Zn g];refine Xw (Xv ?_);refine Xw ?_;show Zh _ _ ((pure ():StateT SortSt Sem Unit).run _) _ _ _;rw[StateT.run_pure];refine Xv ?_;dsimp only;refine PR _ (Y7 xs.length) ?_ rfl (Z8 _) (r6 (by rw[UN]at g;lia));show(us.toArray.zip vs.toArray).map (·.2)=_
   rw[m,iu];apply VZ.mp;simp[WZ,l]
  ·rw[Zo g,Zo g];have h2:2<=us.length:=by rw[UN]at g;lia
   refine Xw (Xs (zK (A:=X.A.in1.in1) (G:=λp M=>M=s'/\p.toList.Perm (Y7 us.length)/\fW kds p.toList) hf I' rk hd hs zf h2 hu λp n up=>⟨rfl,n,BC (by rw[n.length_eq];simp) up⟩) (λ_ _ S=>?_) λ_ _ x=>x.elim);rw[l]at S;refine Xw (Xs (kat_run (ks:=us) (vs:=vs) (Q:=λj M=>∃p:Array Nat,arrOf j = p.map (kas_item (us.toArray.zip vs.toArray))/\failedOf j = none/\M=s'/\p.toList.Perm (Y7 vs.length)/\fW kds p.toList)
    l (by lia) J (λp' j M _ a2 a3 a4=>⟨p',a2,a3,a4⟩) S) ?_ λ_ _ e=>e)
   rintro⟨⟨⟩,j⟩ M ⟨p,a5,u,rfl,n,k6⟩;dsimp only;exact PR j p.toList (kat_snds l a5) u (by rw[m];exact n) k6
def Jd (K:Xz) (a r:Sh) (sp:Sp):V->Hp->VK->Prop:=λx H Q=>∃l xs,x = .ref l/\SqL K H l xs/\xs.length<64/\sO sp xs [] H λks H1=>
 ∃kds,aD K H1 ks kds/\(∀d∈kds,(Sh.bC a r).has d)/\(∀d∈kds,d.depth<=100)/\∀(D:Za) (p:List Nat),H1 D=none->p.Perm (Y7 xs.length)->fW kds p->Q (.ref D) (upd H1 D (.lst (picked xs p)))
theorem B5 {a r:Sh}{b:Bool}{k:Nat}{x:V}{Q:VK} (z:iR a b) (F:aB X.prog X.w X.K X.mg X.base CX0 k f fd ps sp) (M:bM (k+2) X.A) (t:Binds X.K fd ps []) (I:Inv X pins σ H s) (C:RelV x u) (h:Jd X.K a r sp x H Q) :
  Zh (model X.prog X.w) X.A (call (.builtin "sorted") [u] [(Yo "key",.ref f)]) (EP X pins σ Q) X.xe s:=by
 obtain⟨l,_,rfl,P,_,q⟩:=h;cases C;obtain⟨c,r,v,_⟩:=I.list P;have n:=r.length;refine call_function_entry_kw kind_sorted plain_sorted entry_sorted (ksk_s1 _ _) ?_;unfold Builtin.«sorted»
 (refine Xw (m:=checkCount "sorted" 1 1 _) (Xv ?_))
 refine Xw (collect_list v.isList ?_ (by rw[sizeLine_eq];lia))
 (refine Xw (wpAny_newList ?_ (by rw[sizeLine_eq];lia)))
 have i:=tu s.heap c;have e:=Fy s.heap c;have d:=Au s.heap c;show Zh _ _ _ _ _ { s with heap:=(mz s.heap c).push (seqObj "list" c.toArray 0) };show Zh _ _ (_ >>= λ_=>_) _ _ { s with heap:=(mz s.heap c).push (seqObj "list" c.toArray 0) };rw[show((s.heap.push (seqObj "list" #[] 0)).update s.heap.objs.size (Y8 (· ++ c.toArray))).objs.size=s.heap.objs.size+1 from i]
 generalize(mz s.heap c).push (seqObj "list" c.toArray 0)=h2 at e d ⊢;have D:Inv X pins σ H { s with heap:=h2 }:=I.kept (t':=s.toks) d;have g:H (s.heap.objs.size+1)=none:=I.hok.fresh (VX _);have N:cA X pins H (s.heap.objs.size+1):=I.tM (VX _) g;refine Xw (Xr (wpAny_call_entry_kw slot_list_sort ⟨_,e,rfl⟩ entry_list_sort ?body (ksk_l1 _ _)))
 case body=>
  show Zh (model X.prog X.w) X.A.in1.in1 (Builtin.«list.sort» ⟨[.ref (s.heap.objs.size+1)],[(Yo "key",.ref f)]⟩) _ _ _;rw[ksk_t1];refine uP (s:={ s with heap:=h2 }) z F M t D e N r (by lia) q λ_ _ ⟨j,o,y,G,L⟩=>⟨j,o,y,G,λp _ E J O B=>?_⟩;refine⟨_,rfl,Xv ⟨_,rfl,?_⟩⟩;exact⟨.ref _,_,B,rfl,L _ p O E J⟩
def N1 (K:Xz) (a r:Sh) (sp:Sp) (ta:TA):TE:=λσ H Q=>ta σ H λvs H1=>∃x,vs=[x]/\Jd K a r sp x H1 Q
theorem Hh {a r:Sh}{b:Bool}{k:Nat}{p g pos d:Pos} (v:iR a b) (F:aB X.prog X.w X.K X.mg X.base CX0 k f fd ps sp) (D:bM (k+2) X.A) (o:Binds X.K fd ps [])
  (M:Gl X "sorted") (z:X.mg "sorted" = none) (j:Gl X y) (l:X.mg y=some (.ref f)) (N:PA X [e] ta) (i:(y == ("__debug__" : Str))=false:=by decide)
  (t:backTo pos (Zi [e] X.env)=(false,eval e X.env)::backTo pos (Zi [] X.env):=by rfl) (G:(backTo pos (Zi [e] X.env)).any (·.1)=false:=by rfl)
  (E:(backToKw pos (keywordEach [⟨some "key",.Name y g,d⟩] X.env)).all (·.1.isSome)=true:=by rfl) (m:(backToKw pos (keywordEach [⟨some "key",.Name y g,d⟩] X.env)).any (·.1.isNone)=false:=by rfl) :
  PE X (.Call (.Name "sorted" p) [e] [⟨some "key",.Name y g,d⟩] pos) (N1 X.K a r sp ta):=by
 intro c s B H Q I h;refine wpAny_Call_Name_kw (fm I M z boot_sorted ?_);refine callWith_kw (thn (N pos c s B H _ I h) λ_ _ ⟨_,_,n,C,L⟩=>?_) t G E m;obtain⟨x,rfl,q⟩:=L;obtain⟨u,rfl,J⟩:=C.one;refine kws_cons (kC n j l (kws_nil ?_) i);exact B5 v F D o n J q
section
open PySem.SeqAt
open PySem.AutoSeq1 (wpAny_loadPart')
open PySem.MeetsSeq PySem.MeetsSeq2 PySem.MeetsSeq3
theorem index_loop {prog:Zd}{w:Ze}{E:Xy->Xx->Prop}{x:Xy}{e:Nat->Bool} (v:j<items.size) (g:e j=true) (d:∀m,m<j->e m=false) (n:∀i (h:i<items.size),EqAt A s items[i] x (e i))
  {a:Nat->Option PySem.Fin×PUnit->Sem (ForInStep (Option PySem.Fin×PUnit))} (p:∀i u,a i u=(match items[i]? with
   | some y=>do
    let c <-eqBool y x
    if c=true then do
     let r <-retInt i
     pure (ForInStep.done (some r,⟨⟩))
    else pure (ForInStep.yield (none,⟨⟩))
   | _=>pure (ForInStep.yield (none,⟨⟩)))) {Q:Option PySem.Fin×PUnit->Xx->Prop} (q:Q (some (.done (.ret (.int j s.toks))),⟨⟩) { s with toks:=s.toks+1 }) :
  ∀(k i:Nat) (u:Option PySem.Fin×PUnit),i<=j->k=items.size - i->Zh (model prog w) A (forIn (List.range' i k 1) u a) Q E s:=by
 intro k
 induction k with
 | zero=>intro i u t o;lia
 | succ k l=>
  intro i u t o;rw[List.range'_succ,Ws,p]
  (have b:i<items.size:=by lia)
  have f:items[i]? = some items[i]:=by simp[b]
  rw[f];refine Xw (Xw (n i b prog w _ _ ?_));cases hei:e i with
  | true=>
   have:i=j:=by
    by_cases z:i<j
    ·rw[d i z]at hei;cases hei
    ·lia
   subst this;rw[Zn rfl];refine Xw ?_;show Zh _ _ (retInt (i:Int)) _ _ s;unfold retInt
   (refine Xw (wpAny_mkInt ?_))
   (exact Xv (Xv (Xv q)))
  | false=>
   have:i≠j:=nn hei g
   rw[Zo UO];refine Xv ?_;exact l (i+1) _ (by lia) (by lia)
end
def Ho (K:Xz):V->Uj->Hp->VK->Prop:=λx vs H Q=>∃p xs y j,x = .ref p/\vs=[y]/\SqT K H p xs/\iU y=true/\xs.all iU=true/\j<xs.length/\eqV (xs.getD j .non) y=true/\(∀m,m<j->eqV (xs.getD m .non) y=false)/\Q (.int j) H
theorem JJ:MtR X "tuple.index" (Ho X.K):=by
 intro _ s _ H x _ v _ Q I B C h;obtain⟨p,a,y,j,rfl,rfl,N,M,G,_,L,O,q⟩:=h;cases B;obtain⟨u,rfl,J⟩:=C.one;obtain⟨its,r,⟨⟨_,_,_,_⟩,m,c,n,d⟩,_⟩:=I.tuple N;simp only at c d;subst c d;have D:=r.length;have k:∀i (f:i<its.toArray.size) (A:Zc),SeqAt.EqAt A s its.toArray[i] u (eqV (a.getD i .non) y):=λi f A=>by
  have b:i<its.length:=by simpa using f
  have o:a[i]? = some a[i]:=by simp[D,b]
  obtain⟨w,z,g⟩:=r.get o;have t:its.toArray[i]=w:=by
   have:its[i]? = some its[i]:=by simp[b]
   rw[z]at this;simpa using(Ye this).symm
  have E:a.getD i .non=a[i]:=by rw[US,o];rfl
  rw[t,E];exact Jx g J (U4.mp G _ (Vh _)) M
 refine wpAny_call_entry F.slot_tuple_index ⟨_,m,rfl⟩ F.entry_tuple_index ?_ (F.args_tuple_index_2 _ _);show Zh _ _ (Builtin.Tuple.tupleItemsOf (.ref p) >>= _) _ _ s;refine Xw ?_
 (unfold Builtin.Tuple.tupleItemsOf)
 refine Xw (wpAny_seqItems m rfl (Xv ?_));show Zh _ _ (forIn [0:min its.toArray.size its.toArray.size] ((none:Option PySem.Fin),PUnit.unit) _ >>= _) _ _ s;rw[Std.Legacy.Range.forIn_eq_forIn_range'];have l:([0:min its.toArray.size its.toArray.size]:Std.Legacy.Range).size=its.toArray.size:=by simp[Std.Legacy.Range.size]
 rw[l];refine Xw (index_loop (items:=its.toArray) (x:=u) (e:=λi=>eqV (a.getD i .non) y) (j:=j) (by rw[UN];lia) L O (λi f=>k i f _) (λi u=>?_) ?_ _ 0 _ (UU _) rfl)
 ·rfl
 ·refine Xv ⟨_,rfl,?_⟩;exact⟨.int j,H,I.tok _,⟨_,rfl⟩,q⟩
def MS (K:Xz):Uj->Hp->VK->Prop:=λvs H Q=>∃x n t b,vs=[x,.ty n]/\qN K H x t/\kitOne K t (.type n)=some b/\Q (.bl b) H
theorem zG:jo X (.builtin "isinstance") (MS X.K):=by
 intro _ s _ H _ _ Q I c h;obtain⟨x,n,t,b,rfl,d,e,q⟩:=h;obtain⟨u,f,rfl,g,a⟩:=vals2 c;obtain rfl:f = Value.type n:=a;exact EI I g d e λ_=>⟨.bl b,H,I.tok _,rfl,q⟩
end
structure bE (K:Xz) (mg:Str->Option Xy) (x:Str) (st:Stmt) (ps:Uq) (f:Za) (fd:Zb):Prop where
 fn:Fun K x x st f fd
 bd:Binds K fd ps []
 mg:mg x=some (.ref f)
theorem af.new {p:Za} (h:H p=none):af H (upd H p o):=λb u e=>by rw[ap (aw e h)];exact e
def CN (D:Za) (Pv:Uj->St->Hp->Prop):St->Hp->Prop:=λσ H=>∃acc,H D=some (.lst acc)/\Pv acc σ H
section
variable {g:TG}{Q:VK}
theorem mN (n:Nat) (a:Nat->Uj->St->Hp->Prop) (j:H D=some (.lst [])) (o:a 0 [] σ H)
  (f:∀i acc σ H,i<n->H D=some (.lst acc)->a i acc σ H->J.go i H) (l:∀acc σ H,H D=some (.lst acc)->a n acc σ H->J.stop n H)
  (k:∀i acc σ H x H',i<n->H D=some (.lst acc)->a i acc σ H->J.yld i H x H'->g x σ H' λσ2 H2=>tt σ2 H2 λb H3=>if b=true then te σ2 H3 λv H4=>∃ys,H4 D=some (.lst ys)/\ys.length<Zg/\CN D (a (i+1)) σ2 (upd H4 D (.lst (ys++[v])))else CN D (a (i+1)) σ2 H3)
  (h:∀acc σ H,H D=some (.lst acc)->a n acc σ H->Q (.ref D) H):pG g tt te J D Q σ H:=by
 refine⟨λi m σ H=>m=n - i/\i<=n/\CN D (a i) σ H,⟨n,by simp,UU _,[],j,o⟩,?_⟩;rintro i m σ H ⟨rfl,_,acc,d,p⟩;by_cases c:i<n
 ·exact .inr ⟨f i acc σ H c d p,CN D (a (i+1)),λσ' H' p'=>⟨n - (i+1),by lia,rfl,c,p'⟩,λx H' y=>k i acc σ H x H' c d p y⟩
 ·have e:i=n:=by lia
  subst e;exact .inl ⟨l acc σ H d p,h acc σ H d p⟩
theorem aK (c:Nat->Uj->St->Hp->Prop) (k:H D=some (.lst [])) (m:c 0 [] σ H) (h:∀i acc σ H,i<=xs.length->H D=some (.lst acc)->c i acc σ H->SqL K H a xs)
  (l:∀i x acc σ H,xs[i]? = some x->H D=some (.lst acc)->c i acc σ H->g x σ H λσ2 H2=>tt σ2 H2 λb H3=>if b=true then te σ2 H3 λv H4=>∃ys,H4 D=some (.lst ys)/\ys.length<Zg/\CN D (c (i+1)) σ2 (upd H4 D (.lst (ys++[v])))else CN D (c (i+1)) σ2 H3)
  (j:∀acc σ H,H D=some (.lst acc)->c xs.length acc σ H->Q (.ref D) H):pG g tt te (Itl K a) D Q σ H:=by
 refine mN xs.length c k m (λi acc σ H f d p=>⟨xs,xs[i],h i acc σ H (V2 f) d p,by simp[f]⟩) (λacc σ H d p=>⟨xs,h _ acc σ H (UD _) d p,UD _⟩) (λi acc σ H x _ f d p y=>?_) j;obtain⟨e,y⟩:=y;subst e;exact l i x acc σ _ (y xs (h i acc σ _ (V2 f) d p)) d p
theorem iT (a:Nat->Uj->St->Hp->Prop) (h:H D=some (.lst [])) (k:a 0 [] σ H)
  (j:∀i acc σ H,i<n->H D=some (.lst acc)->a i acc σ H->g (.int (lo+i)) σ H λσ2 H2=>tt σ2 H2 λb H3=>if b=true then te σ2 H3 λv H4=>∃ys,H4 D=some (.lst ys)/\ys.length<Zg/\CN D (a (i+1)) σ2 (upd H4 D (.lst (ys++[v])))else CN D (a (i+1)) σ2 H3)
  (f:∀acc σ H,H D=some (.lst acc)->a n acc σ H->Q (.ref D) H):pG g tt te (Itr lo n) D Q σ H:=by
 refine mN n a h k (λi acc σ H d c p=>d) (λacc σ H c p=>UD _) (λi acc σ H x _ d c p y=>?_) f;obtain⟨e,y⟩:=y;subst e y;exact j i acc σ _ d c p
theorem GK (a:Nat->Uj->St->Hp->Prop) (k:H D=some (.lst [])) (m:a 0 [] σ H)
  (l:∀i c acc σ H,z.cps[i]? = some c->H D=some (.lst acc)->a i acc σ H->g (.str ⟨#[c]⟩) σ H λσ2 H2=>tt σ2 H2 λb H3=>if b=true then te σ2 H3 λv H4=>∃ys,H4 D=some (.lst ys)/\ys.length<Zg/\CN D (a (i+1)) σ2 (upd H4 D (.lst (ys++[v])))else CN D (a (i+1)) σ2 H3)
  (j:∀acc σ H,H D=some (.lst acc)->a z.length acc σ H->Q (.ref D) H):pG g tt te (Its z) D Q σ H:=by
 refine mN z.length a k m (λi acc σ H f d p=>f) (λacc σ H d p=>UD _) (λi acc σ H x _ f d p y=>?_) j;obtain⟨e,c,h,y⟩:=y;subst e y;exact l i c acc σ _ h d p
theorem EX (c:Nat->Uj->St->Hp->Prop) (k:H D=some (.lst [])) (n:c 0 [] σ H) (h:∀i acc σ H,i<=xs.length->H D=some (.lst acc)->c i acc σ H->SqL K H a xs)
  (l:∀i x acc σ H p,xs[i]? = some x->H D=some (.lst acc)->c i acc σ H->H p=none->g (.ref p) σ (upd H p (.tup [.int i,x])) λσ2 H2=>tt σ2 H2 λb H3=>if b=true then te σ2 H3 λv H4=>∃ys,H4 D=some (.lst ys)/\ys.length<Zg/\CN D (c (i+1)) σ2 (upd H4 D (.lst (ys++[v])))else CN D (c (i+1)) σ2 H3)
  (j:∀acc σ H,H D=some (.lst acc)->c xs.length acc σ H->Q (.ref D) H):pG g tt te (Ite K a) D Q σ H:=by
 refine mN xs.length c k n (λi acc σ H f d p=>⟨xs,xs[i],h i acc σ H (V2 f) d p,by simp[f]⟩) (λacc σ H d p=>⟨xs,h _ acc σ H (UD _) d p,UD _⟩) (λi acc σ H x _ f d p y=>?_) j;obtain⟨q,v,r,m,e,o⟩:=y;subst e o;exact l i v acc σ _ q (m xs (h i acc σ _ (V2 f) d p)) d p r
end
theorem rK {K:Xz}{sp:Sp}{f:Uj->Hp->Prop}{H0:Hp}:∀(xs:Uj) (kds:UF) (ks:Uj) (dks:UF) (H:Hp),xs.length=kds.length->af H0 H->aD K H ks dks ->
  (∀(i:Nat) (x:V) (d:Zf) (H:Hp) (Q:VK),xs[i]? = some x->kds[i]? = some d->af H0 H->(∀r H',af H H'->Den K H' r d->Q r H')->sp [x] H Q E0)->(∀ks' H',af H0 H'->aD K H' ks' (dks++kds)->f ks' H')->sO sp xs ks H f
 | [],[],ks,dks,H,_,hs,hd,_,hq=>hq ks H hs (by simpa using hd)
 | x::xs,d::kds,ks,dks,H,hl,hs,hd,hsp,hq=>by
  refine hsp 0 x d H _ rfl rfl hs λr H' g dr=>?_;refine rK xs kds (ks++[r]) (dks++[d]) H' (by simpa using hl) (hs.trans g) ((hd.same g).append (.cons dr .nil)) (λi y e a Q b c=>hsp (i+1) y e a Q (by simpa using b) (by simpa using c)) λks' a b c=>hq ks' a b (by simpa using c)
def M6 (sc osc:Scope) (N N':Uq) (n:Nat) (fi:List Nat):Bool:=
 decide (sc.kind = .function) && decide (∀y∈sc.names,y.2 = .local->sc.names.lookup y.1=some .local)
 && decide (∀y∈sc.names,y.2 = .free->osc.names.lookup y.1=some .cell\/osc.names.lookup y.1=some .free)
 && decide (N'.length=n+fi.length)
 && (Y7 fi.length).all λj=>match fi[j]? with
  | some k=>match N'[n+j]? with
   | some x=>decide (N[k]? = some x) && decide (sc.names.lookup x=some .free) && decide ((x,NameKind.cell)∉sc.names)
   | none=>false
  | none=>false
theorem bf {d:Scope} (osc:Scope) (N:Uq) (h:M6 d osc N N' n fi=true) (l:X.env.scope=osc:=by rfl) (p:X.N=N:=by rfl):mh X d N' n fi:=by
 subst l p;simp only[M6,Vm,decide_eq_true_eq]at h;obtain⟨⟨⟨⟨f,m⟩,o⟩,g⟩,i⟩:=h;refine⟨f,m,o,g,λj k c=>?_⟩;have b:j<fi.length:=by
  rcases Vs j fi.length with q | q
  ·exact q
  ·rw[Vp q]at c;cases c
 have a:=U4.mp i j (Vj.mpr b);rw[c]at a;dsimp only at a;cases e:N'[n+j]? with
 | none=>rw[e]at a;cases a
 | some x=>
  rw[e]at a;simp only[Vm,decide_eq_true_eq]at a;exact⟨x,rfl,a.1.1,a.1.2,a.2⟩
def lim (H H':Hp):Hp:=λb=>match H b with | some (.lst _)=>none | _=>H' b
def wo (D:Za) (H:Hp):Hp:=λb=>if b=D then none else H b
section
variable {E p:Za}{u:HO}
theorem bO (h:∀zs,H b≠some (.lst zs)):lim H H' b=H' b:=by
 unfold lim
 split
 ·rename_i zs e;exact(h zs e).elim
 ·rfl
theorem iq (h:H p=none):lim H H' p=H' p:=bO λzs e=>by rw[h]at e;cases e
theorem c8:af (lim H H') H':=λb o e=>by
 unfold lim at e
 split at e
 ·cases e
 ·exact e
theorem jq (h:lim H H' b=some o):∀zs,H b≠some (.lst zs):=λzs e=>by
 simp only[lim,e]at h;cases h
theorem c7 (h:af H1 H2):af (lim H H1) (lim H H2):=λb o e=>by
 rw[bO (jq e)];exact h b o (c8 b o e)
def LL (H H':Hp):Prop:=∀b ys,H b=some (.lst ys)->∃zs,H' b=some (.lst zs)
theorem af.ll (h:af H H'):LL H H':=λb ys e=>⟨ys,h b _ e⟩
theorem fN (h:LL H H1):af (lim H1 H2) (lim H H2):=λb o e=>by
 rw[bO]
 ·exact c8 b o e
 ·intro zs q;obtain⟨z2,q2⟩:=h b zs q;exact jq e z2 q2
theorem ak (h:b≠D):wo D H b=H b:=by simp[wo,h]
theorem Zp (h0:c≠a0) (e:H c=q):(wo a0 H) c=q:=by rw[ak h0];exact e
theorem Zq (h0:c≠a0) (h1:c≠a1) (e:H c=q):(wo a0 (wo a1 H)) c=q:=by rw[ak h0,ak h1];exact e
theorem Zr (h0:c≠a0) (h1:c≠a1) (h2:c≠a2) (e:H c=q):(wo a0 (wo a1 (wo a2 H))) c=q:=by rw[ak h0,ak h1,ak h2];exact e
theorem Zs {a3:Za} (h0:c≠a0) (h1:c≠a1) (h2:c≠a2) (h3:c≠a3) (e:H c=q):(wo a0 (wo a1 (wo a2 (wo a3 H)))) c=q:=by rw[ak h0,ak h1,ak h2,ak h3];exact e
theorem bp:wo D H D=none:=by simp[wo]
theorem aJ (h:wo D H b=some o):b≠D/\H b=some o:=by
 unfold wo at h
 split at h
 ·cases h
 ·rename_i q;exact⟨q,h⟩
theorem aM:af (wo D H) H:=λb o e=>(aJ e).2
theorem ji (h:af H1 H2):af (wo D H1) (wo D H2):=λb o e=>by
 rw[ak (aJ e).1];exact h b o (aJ e).2
theorem CO:wo D (upd H D o)=wo D H:=by
 funext b
 by_cases e:b=D
 ·subst e;rw[bp,bp]
 ·rw[ak e,ak e,ap e]
theorem Ap:af (wo D H) (upd H D o):=λb u e=>by rw[ap (aJ e).1];exact(aJ e).2
theorem bJ (h:af (wo D H1) H2) (g:af (wo D H2) H3):af (wo D H1) H3:=λb o e=>g b o (Zp ((aJ e).1) (h b o e))
theorem NT (h:H D=some (.lst ys)):af (lim H H') (wo D H'):=λb o e=>by
 have hb:b≠D:=λq=>by subst q;exact jq e _ h
 rw[ak hb];exact c8 b o e
theorem qM (h:H D=some (.lst ys)):lim H (upd H' D o)=lim H H':=by
 funext b
 by_cases e:b=D
 ·subst e;simp only[lim,h]
 ·unfold lim;rw[ap e]
theorem bB (h:H D=none) (s:af H H'):af H (wo D H'):=λb o e=>by
 rw[ak (aw e h)];exact s b o e
theorem JG (s:af H H') (h:H' D=some (.lst ys)):LL (upd H D o) H':=λb zs e=>by
 by_cases q:b=D
 ·subst q;exact⟨ys,h⟩
 ·rw[ap q]at e;exact⟨zs,s b _ e⟩
theorem aH {xs:List α}{x:α} (h:xs[i]? = some x):i<xs.length:=by
 rcases Vs i xs.length with q | q
 ·exact q
 ·rw[Vp q]at h;cases h
theorem ed {xs:List α}{x:α} (h:xs[i]? = some x) (f:α->β):(xs.take (i+1)).map f=(xs.take i).map f++[f x]:=by
 rw[UX,h];simp
theorem ax (h:H D=none) (s:af H H'):af H (upd H' D o):=λb u e=>by
 rw[ap (aw e h)];exact s b u e
end
theorem cB {x:V} (h:F (σ.set i (some x)) H):aZ i x σ H λσ2 H2=>Nd σ2 H2 λb H3=>if b=true then F σ2 H3 else G σ2 H3:=by
 show(if true=true then F (σ.set i (some x)) H else G (σ.set i (some x)) H);rw[Zn rfl];exact h
theorem small (h:n<10000000):n<Zg:=by rw[sizeLine_eq];exact U7 h (by decide)
section
open PySem.Builtin PySem.Builtin.Str
theorem SqT.lim (c:af H H0) (b:af H H') (h:SqT K H a xs):SqT K (L2.lim H0 H') a xs:=by
 rcases h with(h | ⟨o,h⟩) | h
 ·exact .inl (.inl (by rw[bO λzs e=>by rw[c _ _ h]at e;cases e];exact b _ _ h))
 ·exact .inl (.inr ⟨o,by rw[bO λzs e=>by rw[c _ _ h]at e;cases e];exact b _ _ h⟩)
 ·exact .inr h
def tR (K:Xz):Uj->Hp->VK->Prop:=λxs H Q=>∃p ys,xs=[.ref p]/\(SqL K H p ys\/SqT K H p ys)/\∀l,H l=none->Q (.ref l) (upd H l (.lst ys))
theorem oO:jo X (.type "list") (tR X.K):=yN
theorem nG:bootBuiltins "list" = some (.type "list"):=by decide +kernel
theorem wU:bootBuiltins "sorted" = some (.builtin "sorted"):=by decide +kernel
theorem cV {n:Nat}:∀(l:UF),(∀d∈l,d.depth<=n)->Y6 l<=n
 | [],_=>UU _
 | d::r,h=>by
  have c:=h d (UM ..);have b:=cV r λe a=>h e (UJ _ a);unfold Y6;exact Nat.max_le.mpr ⟨c,b⟩
theorem LC {c:Nat} (hz:Y1 z=true) (h:z.cps[i]? = some c):Y1 ⟨#[c]⟩=true:=by
 unfold Y1 at hz ⊢;rw[WX]at hz;have a:i<z.cps.size:=by
  rcases Vs i z.cps.size with q | q
  ·exact q
  ·rw[VV q]at h;cases h
 have b:=hz i a;rw[Vg a]at h;cases h;simpa using b
theorem nk (h:∀c∈z.cps,c<1114112):Y1 z=true:=by
 unfold Y1;rw[WX];intro i hi;simpa using h _ (Array.getElem_mem hi)
theorem iD (h:Y1 z=true):∀c∈z.cps,c<1114112:=by
 unfold Y1 at h;intro c hc;obtain⟨i,hi,rfl⟩:=Array.mem_iff_getElem.mp hc;rw[WX]at h;simpa using h i hi
theorem Ij {l u:Option Int} (hz:Y1 z=true):Y1 (YO z l u)=true/\(YO z l u).length<=z.length:=by
 unfold YO
 split
 ·exact⟨hz,UD _⟩
 ·constructor
  ·refine nk λc a=>?_;simp only[List.mem_toArray,Wc]at a;obtain⟨i,_,e⟩:=a;refine iD hz c ?_;exact Array.mem_of_getElem? e
  ·show(YJ _).size<=z.cps.size;simp only[UN];exact UK (WY _ _) (sliceIndices_le l u _)
theorem Fi {a b:Nat} (hz:Y1 z=true):Y1 (strSub z a b)=true/\(strSub z a b).length<=z.length:=by
 unfold strSub;constructor
 ·refine nk λc d=>?_;refine iD hz c ?_;obtain⟨i,_,rfl⟩:=Array.mem_iff_getElem.mp d;simp only[Array.getElem_extract];exact Array.getElem_mem _
 ·show(Array.extract _ _ _).size<=z.cps.size;rw[WO];lia
theorem uC (hz:Y1 z=true):∀x∈Y4 z y,Y1 x=true/\x.length<=z.length:=by
 intro x a;have b:x∈[z]->Y1 x=true/\x.length<=z.length:=λh=>by
  simp only[UG]at h;subst h;exact⟨hz,UD _⟩
 unfold Y4 at a
 split at a
 ·exact b a
 ·split at a
  ·exact b a
  ·unfold partsBetween at a;simp only[UE]at a;obtain⟨p,_,rfl⟩:=a;exact Fi hz
theorem vH:1<=(Y4 z y).length/\(Y4 z y).length<=z.length+2:=by
 have a:=StrLaws.occ_length_le z y 0 z.length (z.length+1);unfold Y4
 split
 ·simp
 ·split
  ·simp
  ·rw[length_partsBetween];lia
theorem DP {y:Str} (b:Y1 y=true):∀(xs:Uq) (acc:Array Nat),(∀x∈xs,Y1 x=true)->(∀c∈acc,c<1114112)->∀c∈xs.foldl (λacc p=>acc++y.cps++p.cps) acc,c<1114112
 | [],acc,_,h=>h
 | x::r,acc,hx,h=>by
  refine DP b r _ (λz d=>hx z (UJ _ d)) λc a=>?_;rcases WC.mp a with a | a
  ·rcases WC.mp a with a | a
   ·exact h c a
   ·exact iD b c a
  ·exact iD (hx x (UM ..)) c a
theorem zC {y:Str}{m:Nat}:∀(xs:Uq) (acc:Array Nat),(∀x∈xs,x.length<=m)->(xs.foldl (λacc p=>acc++y.cps++p.cps) acc).size<=acc.size+xs.length * (m+y.length)
 | [],acc,_=>by simp
 | x::r,acc,hx=>by
  have a:=zC (y:=y) r (acc++y.cps++x.cps) λz b=>hx z (UJ _ b);have d:x.cps.size<=m:=hx x (UM ..);have e:(acc++y.cps++x.cps).size=acc.size+y.cps.size+x.cps.size:=by simp;lia
  have c:y.length=y.cps.size:=rfl;simp only[List.foldl_cons,U1,Nat.add_mul,Nat.one_mul]at a ⊢;lia
theorem Ew {m:Nat} (f:Y1 y=true) {xs:Uq} (h:∀x∈xs,Y1 x=true/\x.length<=m):Y1 (YG y xs)=true/\(YG y xs).length<=xs.length * (m+y.length):=by
 cases xs with
 | nil=>exact⟨by show Y1 Yh=true;decide +kernel,UU _⟩
 | cons x r=>
  have c:=h x (UM ..);have d:∀z∈r,Y1 z=true/\z.length<=m:=λz a=>h z (UJ _ a);refine⟨nk (DP f r x.cps (λz a=>(d z a).1) (iD c.1)),?_⟩;have e:=zC (y:=y) (m:=m) r x.cps λz a=>(d z a).2;have g:x.cps.size<=m:=c.2;show(List.foldl (λ(b:Array Nat) (p:Str)=>b++y.cps++p.cps) x.cps r).size<=(x::r).length * (m+y.length);simp only[U1,Nat.add_mul,Nat.one_mul]at e ⊢;lia
theorem Hu {m:Nat}:∀{xs:Uq},(∀x∈xs,x.length<=m)->(xs.map (·.length)).sum<=xs.length * m
 | [],_=>by simp
 | x::r,h=>by
  have b:=Hu λz a=>h z (UJ x a);have c:=h x (UM ..);simp only[UW,Vo,U1,Nat.add_mul,Nat.one_mul]at b ⊢;lia
theorem rF {m:Nat}{xs:Uq} (h:∀x∈xs,x.length<=m) (hb:xs.length * m+xs.length * y.length<=16777216):JoinOk y xs=true:=by
 have h1:=Hu h;exact joinOk_of (by lia)
section
variable {Q:VK}
theorem jY {K:Xz}{H:Hp}:∀{l:Uq},(∀x∈l,Y1 x=true)->aD K H (l.map V.str) (l.map PyData.str)
 | [],_=>.nil
 | x::r,h=>.cons (.str (h x (UM ..))) (jY λy hy=>h y (UJ _ hy))
end
end
def Itz (K:Xz) (a b:Za):It:=
 ⟨λi H=>∃xs ys x y,SqL K H a xs/\SqL K H b ys/\xs[i]? = some x/\ys[i]? = some y,
   λi H x H'=>∃p u v,H p=none/\(∀xs,SqL K H a xs->xs[i]? = some u)/\(∀ys,SqL K H b ys->ys[i]? = some v)/\x = .ref p/\H' = upd H p (.tup [u,v]),
   λi H=>∃xs ys,SqL K H a xs/\SqL K H b ys/\(xs.length<=i\/ys.length<=i)⟩
theorem IB {k:Nat} (a b z TI TO i1 i2:Za) (D:ZipApart z TI TO i1 i2 a b) :
  Turn P w K (.Tuple CP k pos) (Itz K a b) [z,TI,TO,i1,i2] z (λi h=>IsZip h z TI TO .none/\IsPair h TI (.ref i1) (.ref i2)/\(∃u v,IsPair h TO u v)/\h.IsListIter i1 a i/\h.IsListIter i2 b i) where
 mem:=by simp
 obj:=λi h n c M=>by
  obtain⟨t,f,⟨u,v,j⟩,⟨o1,e1,_,g1⟩,⟨o2,e2,_,g2⟩⟩:=n;simp only[UR,VI,or_false]at M;rcases M with rfl | rfl | rfl | rfl | rfl
  ·exact⟨_,t,λv q=>by cases q⟩
  ·exact⟨_,f,λv q=>by cases q⟩
  ·exact⟨_,j,λv q=>by cases q⟩
  ·exact⟨o1,e1,λv q=>by rw[g1]at q;cases q⟩
  ·exact⟨o2,e2,λv q=>by rw[g2]at q;cases q⟩
 keep:=λi h h' n m=>by
  obtain⟨t,f,⟨u,v,j⟩,G,L⟩:=n;exact⟨m z (by simp) _ t,m TI (by simp) _ f,⟨u,v,m TO (by simp) _ j⟩,G.at λo e=>m i1 (by simp) o e,L.at λo e=>m i2 (by simp) o e⟩
 item:=by
  intro X R hw hK M i A s σ H E I N n V;subst R hw hK;obtain⟨xs,ys,x,y,O,r,J,hy⟩:=V;obtain⟨Q,U,p,_⟩:=I.list O;obtain⟨Y,C,p',_⟩:=I.list r;obtain⟨u,hu,ru⟩:=U.get J;obtain⟨v,hv,a0⟩:=C.get hy;obtain⟨t,f,⟨u0,v0,j⟩,G,L⟩:=n;have l:∀{b:Za}{o:Obj},s.heap.get? b=some o->b<s.heap.objs.size:=λe=>Y2 e;have S:=l t;have Up:=l f;have Ue:=l j;have aa:i1<s.heap.objs.size:=by obtain⟨_,e,_⟩:=G;exact l e
  have a8:i2<s.heap.objs.size:=by obtain⟨_,e,_⟩:=L;exact l e
  refine wpAny_pyNext_zip_item D t f j G L p.isList p'.isList (x:=u) (y:=v) (by simpa using hu) (by simpa using hv) λh' a1 a2 a3 a4 a5 _ m=>?_;refine⟨_,rfl,?_⟩;refine wpAny_letOwnedTupleGo_zip a1 λg W F=>?_;have T:H s.heap.objs.size=none:=I.hok.fresh (UD _);have Z:g.get? s.heap.objs.size=some { cls:=.type "tuple",data:=.seq #[u,v] }:=(F.2 _ (Wj S)).trans a5;have I2:Inv X A σ (upd H s.heap.objs.size (.tup [x,y])) { s with heap:=g }:=I.nJ (t':=s.toks) (wr:=[z,TI,TO,i1,i2]) N (λc o d ec=>by
    have n1:c≠z:=λq=>d (by simp[q]);have n2:c≠TO:=λq=>d (by simp[q]);have n3:c≠i1:=λq=>d (by simp[q]);have n4:c≠i2:=λq=>d (by simp[q]);exact(F.2 c n1).trans (m c o n1 n2 n3 n4 ec)) (UD _) ⟨by show 2<=Zg;decide,[u,v],.cons ru (.cons a0 .nil),⟨_,Z,rfl,_,rfl⟩⟩
  refine⟨.ref s.heap.objs.size,_,I2,rfl,⟨_,x,y,T,λzs B=>by rw[I.qC B O];exact J,λzs B=>by rw[I.qC B r];exact hy,rfl,rfl⟩,⟨W,?_,⟨u,v,?_⟩,?_,?_⟩,λc d=>?_⟩
  ·exact(F.2 _ D.TIz).trans (m _ _ D.TIz D.TITO D.TIi1 D.TIi2 f)
  ·exact(F.2 _ D.TOz).trans a2
  ·exact a3.at λo e=>(F.2 _ D.i1z).trans e
  ·exact a4.at λo e=>(F.2 _ D.i2z).trans e
  ·have a7:c≠s.heap.objs.size:=by
    simp only[UR,VI,or_false]at d;rcases d with rfl | rfl | rfl | rfl | rfl <;> exact U2 (by assumption)
   rw[ap a7];exact(N c d).1
 done:=by
  intro X R hw hK M i A s σ H E I N n V;subst R hw hK;obtain⟨xs,ys,O,r,J⟩:=V;obtain⟨Q,U,p,_⟩:=I.list O;obtain⟨Y,C,p',_⟩:=I.list r;have hl:=U.length;have a9:=C.length;obtain⟨t,f,⟨u0,v0,j⟩,G,L⟩:=n;refine wpAny_pyNext_zip_end (I.ok.hd M) D t f j G L p.isList p'.isList ?_ λh' m=>⟨rfl,I.dG (t':=s.toks) (wr:=[z,TI,TO,i1,i2]) N λc o d e=>m c o (λq=>d (by simp[q])) (λq=>d (by simp[q])) (λq=>d (by simp[q])) (λq=>d (by simp[q])) e⟩;rcases J with J | J
  ·exact .inl (by simp;lia)
  ·exact .inr (by simp;lia)
 self:=λ_ _ _ _ _ n h=>wpAny_pyIter_zip n.1 h
def Td (K:Xz) (ta:TA):TI:=λσ H R=>ta σ H λvs H1=>∃a b,vs=[.ref a,.ref b]/\(∃xs,SqL K H1 a xs)/\(∃ys,SqL K H1 b ys)/\R (Itz K a b) H1
theorem zi {F:List Expr}{k:Nat}{IA:Pos}{a b:Expr}{p pos:Pos} (L:Gl X "zip") (z:X.mg "zip" = none) (v:PA X [a,b] ta) (y:Zi [a,b] X.env=(false,eval a X.env)::Zi [b] X.env:=by rfl) (o:(backTo pos (Zi [b] X.env)).any (·.1)=false:=by rfl):PI X (.Tuple F k IA) (.Call (.Name "zip" p) [a,b] [] pos) (Td X.K ta):=by
 intro i s E H R I h;refine Call_ (fm I L z boot_zip (Ym (thn (v pos i s E H _ I h) λ_ s1 ⟨_,B,f,m,G⟩=>?_) y o));obtain⟨a,b,e,⟨_,J⟩,⟨_,n⟩,q⟩:=G;subst e;obtain⟨_,_,rfl,m,A⟩:=vals2 m;cases m;cases A;obtain⟨_,_,r,_⟩:=f.list J;obtain⟨_,_,g,_⟩:=f.list n;have N : @LT.lt Nat _ a s1.heap.objs.size:=by obtain⟨_,e,_⟩:=r.isList;exact Y2 e
 have M : @LT.lt Nat _ b s1.heap.objs.size:=by obtain⟨_,e,_⟩:=g.isList;exact Y2 e
 refine call_zip_2 r.isList g.isList λ_ t l j C x _ w=>wpAny_pyIter_zip t ?_;have D:ZipApart (s1.heap.objs.size+4) (s1.heap.objs.size+2) (s1.heap.objs.size+3) s1.heap.objs.size (s1.heap.objs.size+1) a b:=by constructor <;> (show((_:Nat)≠_)) <;> lia
 refine⟨s1.heap.objs.size+4,[s1.heap.objs.size+4,s1.heap.objs.size+2,s1.heap.objs.size+3,s1.heap.objs.size,s1.heap.objs.size+1],_,_,B,rfl,f.kept (t':=s1.toks) w,IB a b _ _ _ _ _ D,⟨t,l,⟨_,_,j⟩,C,x⟩,λc u=>?_,q⟩;have d:s1.heap.objs.size<=c:=by
  simp only[UR,VI,or_false]at u;rcases u with rfl | rfl | rfl | rfl | rfl <;> first | exact UD _ | exact Nat.le_add_right _ _
 exact f.tM d (f.hok.fresh d)
section
variable {g:TG}{Q:VK}
theorem Am (c:Nat->Uj->St->Hp->Prop) (l:H D=some (.lst [])) (t:c 0 [] σ H) (j:∀i acc σ H,H D=some (.lst acc)->c i acc σ H->SqL K H a xs/\SqL K H b ys)
  (n:∀i x y acc σ H p,xs[i]? = some x->ys[i]? = some y->H D=some (.lst acc)->c i acc σ H->H p=none->g (.ref p) σ (upd H p (.tup [x,y])) λσ2 H2=>tt σ2 H2 λb H3=>if b=true then te σ2 H3 λv H4=>∃ys,H4 D=some (.lst ys)/\ys.length<Zg/\CN D (c (i+1)) σ2 (upd H4 D (.lst (ys++[v])))else CN D (c (i+1)) σ2 H3)
  (k:∀acc σ H,H D=some (.lst acc)->c (min xs.length ys.length) acc σ H->Q (.ref D) H):pG g tt te (Itz K a b) D Q σ H:=by
 refine mN (min xs.length ys.length) c l t (λi acc σ H r d p=>?_) (λacc σ H d p=>?_) (λi acc σ H x _ r d p y=>?_) k
 ·obtain⟨h,f⟩:=j i acc σ H d p;have s:i<xs.length:=by lia
  have m:i<ys.length:=by lia
  exact⟨xs,ys,xs[i],ys[i],h,f,by simp[s],by simp[m]⟩
 ·obtain⟨h,f⟩:=j _ acc σ H d p;exact⟨xs,ys,h,f,by lia⟩
 ·obtain⟨q,u,v,A,z,o,e,w⟩:=y;subst e w;obtain⟨h,f⟩:=j i acc σ H d p;exact n i u v acc σ _ q (z xs h) (o ys f) d p A
theorem DY {tb:TS}{D:Ends} (c:Nat->St->Hp->Prop) (t:c 0 σ H) (s:∀i σ H,c i σ H->SqL K H a xs/\SqL K H b ys)
  (l:∀i x y σ H p,xs[i]? = some x->ys[i]? = some y->c i σ H->H p=none->g (.ref p) σ (upd H p (.tup [x,y])) λσ2 H2=>tb { D with nx:=c (i+1),ct:=c (i+1),bk:=D.nx } σ2 H2) (j:∀σ H,c (min xs.length ys.length) σ H->D.nx σ H) :
  ∃W:Nat->Nat->St->Hp->Prop,(∃m,W 0 m σ H)/\∀i m σ H,W i m σ H ->
   ((Itz K a b).stop i H/\D.nx σ H)\/((Itz K a b).go i H/\∃N:St->Hp->Prop,(∀σ' H',N σ' H'->∃m',m' < m/\W (i+1) m' σ' H')/\∀x H',(Itz K a b).yld i H x H'->g x σ H' λσ2 H2=>tb { D with nx:=N,ct:=N,bk:=D.nx } σ2 H2):=by
 refine⟨λi m σ H=>m=min xs.length ys.length - i/\i<=min xs.length ys.length/\c i σ H,⟨_,rfl,UU _,t⟩,?_⟩;rintro i m σ H ⟨rfl,_,p⟩;obtain⟨h,d⟩:=s i σ H p;by_cases f:i<min xs.length ys.length
 ·have r:i<xs.length:=by lia
  have k:i<ys.length:=by lia
  refine .inr ⟨⟨xs,ys,xs[i],ys[i],h,d,by simp[r],by simp[k]⟩,c (i+1),λσ' H' o=>⟨min xs.length ys.length - (i+1),by lia,rfl,f,o⟩,λx H' y=>?_⟩;obtain⟨q,u,v,A,z,n,e,w⟩:=y;subst e w;exact l i u v σ _ q (z xs h) (n ys d) p A
 ·have e:i=min xs.length ys.length:=by lia
  subst e;exact .inl ⟨⟨xs,ys,h,d,by lia⟩,j σ H p⟩
end
def JO:V->Uj->Hp->VK->Prop:=λx vs H Q=>∃z y,x = .str z/\vs=[.str y]/\z.length<=Zg/\Q (.str (Z0 z y)) H
theorem Fv:MtR X "str.strip" JO:=by
 intro _ s _ H x _ v _ Q I a b h;obtain⟨z,y,rfl,rfl,c,q⟩:=h;obtain⟨t,rfl⟩:=a;obtain⟨u,rfl,d,rfl⟩:=b.one;exact SC.stripChars (λd k=>⟨.str _,H,I.tok _,⟨_,rfl⟩,q⟩) c
def M5:V->Uj->Hp->VK->Prop:=λx vs H Q=>∃z y,x = .str z/\vs=[.str y]/\z.length<=Zg/\Q (.str (Txt.removeprefix z y)) H
theorem IW:MtR X "str.removeprefix" M5:=by
 intro _ s _ H x _ v _ Q I a b h;obtain⟨z,y,rfl,rfl,c,q⟩:=h;obtain⟨t,rfl⟩:=a;obtain⟨u,rfl,d,rfl⟩:=b.one;exact SC.removeprefix (λd k=>⟨.str _,H,I.tok _,⟨_,rfl⟩,q⟩) c
theorem oW:∀{bs:List Bool}{us:WF},aQ (bs.map V.bl) us->us=bs.map Value.bool
 | [],_,h=>by cases h;rfl
 | b::r,_,h=>by
  cases h with
  | cons h1 t=>
   obtain rfl:=h1;rw[oW t];rfl
theorem range_all (bs:List Bool):(Y7 bs.length).all (λi=>bs.getD i true)=bs.all id:=by
 (rw[Va,U4,U4])
 constructor
 ·intro h x c;obtain⟨i,b,rfl⟩:=WD.mp c
  (have:=h i (Vj.mpr b))
  simpa[YA,UB b]using this
 ·intro h i b
  (have a:=Vj.mp b)
  have:=h bs[i] (Vh a);simpa[YA,UB a]using this
theorem range_any (bs:List Bool):(Y7 bs.length).any (λi=>bs.getD i true)=bs.any id:=by
 (rw[Va,Vz,Vz])
 constructor
 ·rintro⟨i,b,h⟩
  (have a:=Vj.mp b)
  refine⟨bs[i],Vh a,?_⟩;simpa[YA,UB a]using h
 ·rintro⟨x,c,h⟩;obtain⟨i,b,rfl⟩:=WD.mp c;exact⟨i,Vj.mpr b,by simpa[YA,UB b]using h⟩
def EJ (K:Xz):Uj->Hp->VK->Prop:=λxs H Q=>∃(p:Za) (bs:List Bool),xs=[.ref p]/\SqL K H p (bs.map V.bl)/\Q (.bl (bs.all id)) H
def PY (K:Xz):Uj->Hp->VK->Prop:=λxs H Q=>∃(p:Za) (bs:List Bool),xs=[.ref p]/\SqL K H p (bs.map V.bl)/\Q (.bl (bs.any id)) H
theorem sj (bs:List Bool):TruthOf P w A (λi v=>(bs.map Value.bool).toArray[i]? = some v) (λi=>bs.getD i true):=by
 intro i v s Q E f d;have a:(bs.map Value.bool)[i]? = some v:=by simpa using f
 rw[UI]at a;cases e:bs[i]? with
 | none=>rw[e]at a;cases a
 | some b=>
  rw[e]at a;cases a;refine wpAny_truthy_bool ?_;have:bs.getD i true=b:=by simp[YA,e]
  have c:Q (bs.getD i true) s:=d
  rwa [this]at c
theorem mq (l:X.calm=true):jo X (.builtin "all") (EJ X.K):=by
 intro _ s _ H _ _ Q I r h;obtain⟨p,bs,rfl,m,q⟩:=h;obtain⟨u,rfl,j⟩:=vals1 r;cases j;obtain⟨_,d,a,_⟩:=I.list m;have e:=oW d;subst e;have k:p≠s.heap.objs.size:=by obtain⟨_,e,_⟩:=a.isList;exact U2 (Y2 e)
 refine call_all_walk (wpAny_pyIter_list a.isList ?_);refine⟨s.heap.objs.size,_,_,_,_,_,_,rfl,Walks.list (A:=X.A.in1) (show X.A.in1.handled=none from I.ok.hd l) s.heap.objs.size p k (bs.map Value.bool).toArray,⟨⟨_,Y3 _ rfl,rfl,rfl⟩,a.isList.push _⟩,sj bs,λ_ g f=>?_⟩;have i:(bs.map Value.bool).toArray.size=bs.length:=by simp
 rw[i,range_all];refine⟨.bl _,H,I.kept (t':=g) λb o e=>f b o (λc=>?_) (Xu _ e),rfl,q⟩;simp only[UG]at c;exact absurd (Y2 e) (by rw[c];exact Vv _)
theorem Ji (l:X.calm=true):jo X (.builtin "any") (PY X.K):=by
 intro _ s _ H _ _ Q I r h;obtain⟨p,bs,rfl,m,q⟩:=h;obtain⟨u,rfl,j⟩:=vals1 r;cases j;obtain⟨_,d,a,_⟩:=I.list m;have e:=oW d;subst e;have k:p≠s.heap.objs.size:=by obtain⟨_,e,_⟩:=a.isList;exact U2 (Y2 e)
 refine call_any_walk (wpAny_pyIter_list a.isList ?_);refine⟨s.heap.objs.size,_,_,_,_,_,_,rfl,Walks.list (A:=X.A.in1) (show X.A.in1.handled=none from I.ok.hd l) s.heap.objs.size p k (bs.map Value.bool).toArray,⟨⟨_,Y3 _ rfl,rfl,rfl⟩,a.isList.push _⟩,sj bs,λ_ g f=>?_⟩;have i:(bs.map Value.bool).toArray.size=bs.length:=by simp
 rw[i,range_any];refine⟨.bl _,H,I.kept (t':=g) λb o e=>f b o (λc=>?_) (Xu _ e),rfl,q⟩;simp only[UG]at c;exact absurd (Y2 e) (by rw[c];exact Vv _)
theorem vM:bootBuiltins "all" = some (.builtin "all"):=by decide +kernel
theorem NI:bootBuiltins "any" = some (.builtin "any"):=by decide +kernel
section
open PySem.W
def xt (K:Xz) (sp:Sp) (l:Za) (xs:Uj):Uj->V->V->Hp->VK->Prop
 | [],b,_,H,Q=>SqL K H l xs/\Q b H
 | x::r,b,kb,H,Q=>SqL K H l xs/\sp [x] H (λk H'=>∃d e,Den K H' k d/\Den K H' kb e/\pH d e=true/\d.depth<=100/\if ltv d e=true then xt K sp l xs r x k H' Q else xt K sp l xs r b kb H' Q) E0
theorem EF (a v d:Xy):argsOk "min" ⟨[a],[(Yo "key",v),(Yo "default",d)]⟩:=by unfold argsOk;kernel_rfl
def xq (X:Cx) (pins:List (Za×Obj)) (σ:St) (f:Za) (sp:Sp):Prop:=∀(more:List (Za×Obj)) (H:Hp) (s:Xx) (x:V) (u:Xy) (Q:VK),Inv X (pins++more) σ H s->RelV x u->sp [x] H Q E0 ->
 codeAny (model X.prog X.w) X.A.in1 (.call (.ref f) ⟨[u],[]⟩) (CR CX0 X.stack X.prog X.w H s Q E0) s
theorem Ii {k:Nat} (F:aB X.prog X.w X.K X.mg X.base CX0 k f fd ps sp) (d:bM (k+1) X.A) (b:Binds X.K fd ps []):xq X pins σ f sp:=λ_ H s x u Q I c h=>by
 have a:[u].length=ps.length:=F.len _ _ _ _ h;exact F.run X.A.in1 X.stack s H ⟨[u],[]⟩ [u] [x] _ E0 d.in1 I.Gq.in1 (by have:=b s [u] I.kIn (by simpa using a);simpa using this) (.cons c .nil) h
theorem xO {S:Za}{oI oS:Obj}{x:V}{Q:VK} (C:xq X pins σ f sp)
  (y:∀v,oI.data ≠ .cell v) (hS:∀v,oS.data ≠ .cell v) (l:Inv X pins σ H s) (d:cA X pins H I) (c:cA X pins H S) (m:s.heap.get? I=some oI) (o:s.heap.get? S=some oS) (n:RelV x u) (h:sp [x] H Q E0)
  {R:Xy->Xx->Prop}{E:Xy->Xx->Prop} (a:∀v kv H1 s1,Inv X pins σ H1 s1->cA X pins H1 I->cA X pins H1 S->s1.heap.get? I=some oI->s1.heap.get? S=some oS->RelV v kv->Q v H1->R kv s1) :
  Zh (model X.prog X.w) X.A.in1 (call (.ref f) [u]) R E s:=by
 have i:Inv X (pins++[(I,oI),(S,oS)]) σ H s:=l.pZ λp t=>by
  rcases UY.mp t with q | q
  ·exact l.pin p (U8 _ q)
  ·rcases UR.mp q with q | q
   ·subst q;exact⟨m,d.1,d.2.1,d.2.2.1,y⟩
   ·have z:p=(S,oS):=by simpa using q
    subst z;exact⟨o,c.1,c.2.1,c.2.2.1,hS⟩
 have g:=C [(I,oI),(S,oS)] H s x u _ i n h;refine wpAny_call (codeAny_mono g λr s1 b=>?_);cases r with
 | error _=>exact b.elim
 | ok F=>
  cases F with
  | ret kv=>
   obtain⟨v,H1,e,B,D⟩:=i.after b;have j:=e.pin (I,oI) (by simp);have k:=e.pin (S,oS) (by simp);exact a v kv H1 s1 e.i6 ⟨j.2.1,d.2⟩ ⟨k.2.1,c.2⟩ j.1 k.1 B D
  | next=>exact False.elim b
  | brk=>exact False.elim b
  | cont=>exact False.elim b
theorem Ft {k:Nat}{S l:Za}{Q:VK} (C:xq X pins σ f sp) (hr:bM (k+1) X.A) (a:X.calm=true)
  (P:l≠I) (E:S≠I) (hR:∀v u H' s',Inv X pins σ H' s'->RelV v u->Q v H'->R (.ok (.ret u)) s') :
  ∀(r:Uj) (j:Nat) (b kb:V) (H:Hp) (s:Xx) (ub uk:Xy) (c:Nat),r=xs.drop j->j<=xs.length->Inv X pins σ H s->cA X pins H I->cA X pins H S->s.heap.get? S=some (seqObj "list" #[ub,uk] c)->s.heap.IsListIter I l j->RelV b ub->RelV kb uk->xt X.K sp l xs r b kb H Q ->
   codeAny (model X.prog X.w) X.A (.builtin "min.loop" ⟨[.ref I,.ref f,.ref S],kw⟩) R s:=by
 (have xT:(toString "min" ++ toString ".loop" : String) = "min.loop" :=by decide)
 intro r
 induction r with
 | nil=>
  intro j b kb H s ub uk c g hj D fI fS U y rb rk h;obtain⟨hq,q⟩:=h;obtain⟨m,rv,pl,_⟩:=D.list hq;have T:=rv.length;have i:xs.length<=j:=WE.mp g.symm;have W:=Walks.list (prog:=X.prog) (w:=X.w) (A:=X.A.in1) (show X.A.in1.handled=none from D.ok.hd a) I l P m.toArray
  (refine codeAny_builtin PySem.F.entry_min_loop ?_)
  (rw[Yg Yv _])
  show Zh _ X.A.in1 (seqItems? (.ref S) >>= _) _ _ _
  (refine Xw (wpAny_seqItems U rfl ?_))
  show Zh _ X.A.in1 (tryCatch (pyNext (.ref I)) _ >>= _) _ _ _;refine Xw (wpAny_tryCatch (W.done _ _ _ ⟨by rw[UN,show m.length=j by lia];exact y,pl.isList⟩ λh' p n=>?_));have G:=n S _ (by simpa using E) U;have sb:=Yi h' S (Y8 λ_=>(#[]:Uy));show Zh _ X.A.in1 (updateSeq S (λ_=>#[]) >>= _) _ _ _;refine Xw ?_;refine wpAny_updateSeq G rfl (Xw (wpAny_letGo (Xv ?_)));have I1:Inv X pins σ H { s with heap:=h',toks:=p }:=D.dG (wr:=[I]) (λc a=>by rw[show c=I by simpa using a];exact fI) λc o a e=>n c o a e;exact hR b ub H _ (I1.dG (t':=p) (wr:=[S]) (λc a=>by rw[show c=S by simpa using a];exact fS) λc o a e=>(sb.2 c (by simpa using a)).trans e) rb q
 | cons x r ih=>
  intro j b kb H s ub uk c g hj D fI fS U y rb rk h;obtain⟨hq,q⟩:=h;obtain⟨m,rv,pl,_⟩:=D.list hq;have T:=rv.length;have i:j<xs.length:=by
   rcases Vs j xs.length with z | z
   ·exact z
   ·rw[Vy z]at g;cases g
  have a8:xs[j]? = some x:=by
   rw[Vk i]at g;injection g with e1 e2;rw[UB i,<-e1]
  have Y:r=xs.drop (j+1):=by
   rw[Vk i]at g;injection g with e1 e2
  have W:=Walks.list (prog:=X.prog) (w:=X.w) (A:=X.A.in1) (show X.A.in1.handled=none from D.ok.hd a) I l P m.toArray
  (refine codeAny_builtin PySem.F.entry_min_loop ?_)
  (rw[Yg Yv _])
  show Zh _ X.A.in1 (seqItems? (.ref S) >>= _) _ _ _
  (refine Xw (wpAny_seqItems U rfl ?_))
  show Zh _ X.A.in1 (tryCatch (pyNext (.ref I)) _ >>= _) _ _ _;refine Xw (wpAny_tryCatch (W.item j _ _ _ (by rw[UN];lia) ⟨y,pl.isList⟩ λv h' p hP qY n=>?_));obtain⟨u,hu,ru⟩:=rv.get a8;have hv:v=u:=by
   have:m[j]? = some v:=by simpa using hP
   rw[hu]at this;cases this;rfl
  subst hv;have G:=n S _ (by simpa using E) U;have I1:Inv X pins σ H { s with heap:=h',toks:=p }:=D.dG (wr:=[I]) (λc a=>by rw[show c=I by simpa using a];exact fI) λc o a e=>n c o a e;obtain⟨oI,eI,cI,dI⟩:=qY.1;show Zh _ X.A.in1 (tryCatch (holding [v] (call (.ref f) [v])) _ >>= _) _ _ _;refine Xw (wpAny_tryCatch (Xr (xO C (oI:=oI) (oS:=seqObj "list" #[ub,uk] c) (λz q=>by rw[dI]at q;cases q) (λz q=>by cases q) I1 fI fS eI G ru q λkv t H2 J Z N B M L O q2=>?_)));obtain⟨d,e,dk,de,cC,zf,q3⟩:=q2;obtain⟨a3,a5⟩:=Z.reads dk O;obtain⟨a6,a0⟩:=Z.reads de rk;have Kr:J.heap.IsListIter I l (j+1):=⟨oI,M,cI,dI⟩;have a4:X.A.in1.units+d.depth<cLine:=by show X.A.units+1+d.depth<cLine;have:=hr.un;lia
  show Zh _ X.A.in1 (tryCatch (holding [v,t] (richCompare .Lt t uk >>= _)) _ >>= _) _ _ _;refine Xw (wpAny_tryCatch (Xr (Xw (vZ 100 d e zf cC X.A.in1 J t uk a3 a6 a5 a0 dk.lay de.lay a4 _ _ _ _ ?_))))
  (refine Xw (Xr (wpAny_truthy_bool ?_)))
  (refine Xw (wpAny_letGo (Xv ?_)))
  cases hb':ltv d e with
  | true=>
   rw[hb',Zn rfl]at q3;have sb:=Yi J.heap S (Y8 λ_=>#[v,t]);obtain⟨c2,a7⟩:∃c2,(J.heap.update S (Y8 λ_=>#[v,t])).get? S=some (seqObj "list" #[v,t] c2):=⟨_,get?_update_seq L λ_=>#[v,t]⟩;simp only[if_true];refine Xw ?_;refine wpAny_updateSeq L rfl (Xw (wpAny_letGo ?_));rw[xT];have I3:Inv X pins σ H2 { J with heap:=J.heap.update S (Y8 λ_=>#[v,t]) }:=Z.dG (t':=J.toks) (wr:=[S]) (λc a=>by rw[show c=S by simpa using a];exact B) λc o a e=>(sb.2 c (by simpa using a)).trans e;exact Xv ⟨plainId_quiet Yv _,ih (j+1) x kv H2 _ v t c2 Y i I3 N B a7 ⟨oI,(sb.2 I E.symm).trans M,cI,dI⟩ ru O q3⟩
  | false=>
   rw[hb',Zo (by decide)]at q3
   (simp only[Ve,if_false])
   refine Xw (wpAny_letGo ?_);rw[xT];exact Xv ⟨plainId_quiet Yv _,ih (j+1) b kb H2 _ ub uk c Y i Z N B L Kr rb rk q3⟩
def xD (K:Xz) (sp:Sp):V->Hp->VK->Prop:=λx H Q=>∃l xs,x = .ref l/\SqL K H l xs/\match xs with
 | []=>Q .non H
 | y::r=>sp [y] H (λk H'=>xt K sp l xs r y k H' Q) E0
theorem Fq {k:Nat}{Sa l:Za}{y:V}{r:Uj}{Q:VK} (C:xq X pins σ f sp) (hr:bM (k+1) X.A) (b:X.calm=true)
  (j:l≠a) (d:Sa≠a) (hR:∀v u H' s',Inv X pins σ H' s'->RelV v u->Q v H'->R (.ok (.ret u)) s') (B:Inv X pins σ H s) (U:cA X pins H a) (fS:cA X pins H Sa) (S:s.heap.get? Sa=some (seqObj "list" #[] 0)) (Z:s.heap.IsListIter a l 0) (hq:SqL X.K H l (y::r)) (q:sp [y] H (λk H'=>xt X.K sp l (y::r) r y k H' Q) E0) :
  codeAny (model X.prog X.w) X.A (.builtin "min.loop" ⟨[.ref a,.ref f,.ref Sa],kw⟩) R s:=by
 (have xT:(toString "min" ++ toString ".loop" : String) = "min.loop" :=by decide)
 obtain⟨p,P,pl,_⟩:=B.list hq;have x:=P.length;have W:=Walks.list (prog:=X.prog) (w:=X.w) (A:=X.A.in1) (show X.A.in1.handled=none from B.ok.hd b) a l j p.toArray
 (refine codeAny_builtin PySem.F.entry_min_loop ?_)
 (rw[Yg Yv _])
 show Zh _ X.A.in1 (seqItems? (.ref Sa) >>= _) _ _ _
 (refine Xw (wpAny_seqItems S rfl ?_))
 show Zh _ X.A.in1 (tryCatch (pyNext (.ref a)) _ >>= _) _ _ _;refine Xw (wpAny_tryCatch (W.item 0 _ _ _ (by rw[UN,<-x];exact Nat.succ_pos _) ⟨Z,pl.isList⟩ λv h' M hP qY m=>?_));obtain⟨u,hu,Y⟩:=P.get (i:=0) rfl;have hv:v=u:=by
  have:p[0]? = some v:=by simpa using hP
  rw[hu]at this;cases this;rfl
 subst hv;have L:=m Sa _ (by simpa using d) S;have I1:Inv X pins σ H { s with heap:=h',toks:=M }:=B.dG (wr:=[a]) (λc b=>by rw[show c=a by simpa using b];exact U) λc o b e=>m c o b e;obtain⟨oI,eI,cI,O⟩:=qY.1;show Zh _ X.A.in1 (tryCatch (holding [v] (call (.ref f) [v])) _ >>= _) _ _ _;refine Xw (wpAny_tryCatch (Xr (xO C (oI:=oI) (oS:=seqObj "list" #[] 0) (λz q=>by rw[O]at q;cases q) (λz q=>by cases q) I1 U fS eI L Y q λkv g N t I2 J n G h D q2=>?_)));have T:=Yi t.heap Sa (Y8 λ_=>#[v,g]);obtain⟨E,I⟩:∃E,(t.heap.update Sa (Y8 λ_=>#[v,g])).get? Sa=some (seqObj "list" #[v,g] E):=⟨_,get?_update_seq h λ_=>#[v,g]⟩;show Zh _ X.A.in1 (updateSeq Sa (λ_=>#[v,g]) >>= _) _ _ _;refine Xw ?_;refine wpAny_updateSeq h rfl ?_;rw[xT];have I3:Inv X pins σ N { t with heap:=t.heap.update Sa (Y8 λ_=>#[v,g]) }:=I2.dG (t':=t.toks) (wr:=[Sa]) (λc b=>by rw[show c=Sa by simpa using b];exact n) λc o b e=>(T.2 c (by simpa using b)).trans e;exact Xv ⟨plainId_quiet Yv _,Ft (Q:=Q) C hr b j d hR r 1 y kv N _ v g E rfl (by simp) I3 J n I ⟨oI,(T.2 a d.symm).trans G,cI,O⟩ Y D q2⟩
structure K9 (X:Cx) (pins:List (Za×Obj)) (σ:St) (H:Hp) (s:Xx) (l:Za) (h0:Heap) (Ia Sa:Za):Prop where
 gI:h0.get? Ia=some { cls:=.type "list_iterator",data:=.fields #[.ref l,.int 0 0] }
 gS:h0.get? Sa=some (seqObj "list" #[] 0)
 keep:∀b o,s.heap.get? b=some o->h0.get? b=some o
 inv:Inv X pins σ H { s with heap:=h0 }
 fI:cA X pins H Ia
 fS:cA X pins H Sa
 ne:l≠Ia
 two:Sa≠Ia
theorem Ir {l:Za} (I:Inv X pins σ H s) (h:l<s.heap.objs.size) :
  K9 X pins σ H s l ((s.heap.push { cls:=.type "list_iterator",data:=.fields #[.ref l,.int 0 0] }).push (seqObj "list" #[] 0)) s.heap.objs.size (s.heap.push { cls:=.type "list_iterator",data:=.fields #[.ref l,.int 0 0] }).objs.size:=by
 have c:=λ(o:Obj) (b:Za) (g:Obj) (e:s.heap.get? b=some g)=>Xu o e;have first:=Y3 s.heap (o:={ cls:=.type "list_iterator",data:=.fields #[.ref l,.int 0 0] }) rfl
 have a:=size_push' s.heap { cls:=.type "list_iterator",data:=.fields #[.ref l,.int 0 0] };replace c:=c { cls:=.type "list_iterator",data:=.fields #[.ref l,.int 0 0] };generalize s.heap.push { cls:=.type "list_iterator",data:=.fields #[.ref l,.int 0 0] }=h1 at c first a
 have f:s.heap.objs.size<=h1.objs.size:=by rw[a];exact VX _
 have d:∀b o,s.heap.get? b=some o->(h1.push (seqObj "list" #[] 0)).get? b=some o:=λb o e=>Xu _ (c b o e);exact{ gI:=Xu _ first,gS:=Y3 _ rfl,keep:=d,inv:=I.kept (t':=s.toks) d,fI:=I.tM (UD _) (I.hok.fresh (UD _)),fS:=I.tM f (I.hok.fresh f),ne:=U2 h,two:=by rw[a];exact Nat.succ_ne_self _ }
theorem uV {k:Nat}{x:V}{Q:VK} (C:xq X pins σ f sp) (Z:bM (k+1) X.A) (a:X.calm=true) (v:Inv X pins σ H s) (N:RelV x u) (h:xD X.K sp x H Q) :
  Zh (model X.prog X.w) X.A (call (.builtin "min") [u] [(Yo "key",.ref f),(Yo "default",.none)]) (EP X pins σ Q) X.xe s:=by
 (have U:(toString "min" ++ toString ".loop" : String) = "min.loop" :=by decide)
 obtain⟨l,S,rfl,G,q⟩:=h;cases N;obtain⟨its,P,m,_⟩:=v.list G;have g:=P.length;have t:l<s.heap.objs.size:=by obtain⟨_,e,_⟩:=m.isList;exact Y2 e
 refine kmk_tree PySem.F.kind_min PySem.F.plain_min PySem.F.entry_min (EF _ _ _) ?_;show Zh _ X.A.in1 (Builtin.Builtins.bindParams "min" ["key","default"] 0 ⟨[],[(Yo "key",.ref f),(Yo "default",.none)]⟩ >>= _) _ _ s;refine Xw (wpAny_of_eq (show Builtin.Builtins.bindParams "min" ["key","default"] 0 ⟨[],[(Yo "key",.ref f),(Yo "default",.none)]⟩=pure [some (.ref f),some .none]from rfl) ?_);refine Xw (Xv ?_);refine Xw (wpAny_pyIter_list m.isList ?_);refine Xw (wpAny_newList ?_ (UU _):Zh _ _ _ _ _ _);rw[U];have two:=Ir (X:=X) (l:=l) v t;generalize(s.heap.push { cls:=.type "list_iterator",data:=.fields #[.ref l,.int 0 0] }).push (seqObj "list" #[] 0)=h0 at two ⊢;generalize(s.heap.push { cls:=.type "list_iterator",data:=.fields #[.ref l,.int 0 0] }).objs.size=Sa at two ⊢;generalize s.heap.objs.size=Ia at two ⊢;obtain⟨z,D,j,B,E,O,b,i⟩:=two;have p:h0.IsList l its.toArray:=m.isList.at λo e=>j l o e
 (refine Xv ⟨plainId_quiet Yv _,?_⟩)
 cases S with
 | nil=>
  have W:=Walks.list (prog:=X.prog) (w:=X.w) (A:=X.A.in1) (show X.A.in1.handled=none from v.ok.hd a) Ia l b its.toArray
  (refine codeAny_builtin PySem.F.entry_min_loop ?_)
  (rw[Yg Yv _])
  show Zh _ X.A.in1 (seqItems? (.ref Sa) >>= _) _ _ _
  (refine Xw (wpAny_seqItems D rfl ?_))
  show Zh _ X.A.in1 (tryCatch (pyNext (.ref Ia)) _ >>= _) _ _ _;refine Xw (wpAny_tryCatch (W.done _ _ _ ⟨⟨_,(by rw[z]),rfl,by rw[UN,<-g];rfl⟩,p⟩ λJ d n=>?_));have L:Inv X pins σ H { s with heap:=J,toks:=d }:=Inv.dG (s:={ s with heap:=h0 }) (t':=d) (wr:=[Ia]) B (λc a=>by rw[show c=Ia by simpa using a];exact E) λc o a e=>n c o a e
  (refine Xw (wpAny_rule (Xv ?_)))
  exact⟨.non,H,L,rfl,q⟩
 | cons y r=>
  exact Fq (Q:=Q) C Z a b i (λT _ R _ M I Y=>⟨T,R,M,I,Y⟩) B E O D ⟨_,z,rfl,rfl⟩ G q
theorem Fe {k:Nat}{x:V}{Q:VK} (F:aB X.prog X.w X.K X.mg X.base CX0 k f fd ps sp) (a:bM (k+1) X.A) (c:Binds X.K fd ps []) (b:X.calm=true) (d:Inv X pins σ H s) (e:RelV x u) (h:xD X.K sp x H Q) :
  Zh (model X.prog X.w) X.A (call (.builtin "min") [u] [(Yo "key",.ref f),(Yo "default",.none)]) (EP X pins σ Q) X.xe s:=uV (Ii F a c) a b d e h
def P2 (K:Xz) (sp:Sp) (ta:TA):TE:=λσ H Q=>ta σ H λvs H1=>∃x,vs=[x]/\xD K sp x H1 Q
theorem ID:bootBuiltins "min" = some (.builtin "min"):=by decide +kernel
theorem Lq {k:Nat}{d:Nat}{p i pos c g a:Pos} (F:aB X.prog X.w X.K X.mg X.base CX0 k f fd ps sp) (D:bM (k+1) X.A) (r:Binds X.K fd ps []) (B:X.calm=true)
  (M:Gl X "min") (v:X.mg "min" = none) (l:Gl X y) (m:X.mg y=some (.ref f)) (N:PA X [e] ta) (j:(y == ("__debug__" : Str))=false:=by decide)
  (t:backTo pos (Zi [e] X.env)=(false,eval e X.env)::backTo pos (Zi [] X.env):=by rfl) (G:(backTo pos (Zi [e] X.env)).any (·.1)=false:=by rfl)
  (E:(backToKw pos (keywordEach [⟨some "key",.Name y i,c⟩,⟨some "default",.Constant .none d g,a⟩] X.env)).all (·.1.isSome)=true:=by rfl) (n:(backToKw pos (keywordEach [⟨some "key",.Name y i,c⟩,⟨some "default",.Constant .none d g,a⟩] X.env)).any (·.1.isNone)=false:=by rfl) :
  PE X (.Call (.Name "min" p) [e] [⟨some "key",.Name y i,c⟩,⟨some "default",.Constant .none d g,a⟩] pos) (P2 X.K sp ta):=by
 intro b s z H Q I h;refine wpAny_Call_Name_kw (fm I M v ID ?_);refine callWith_kw (thn (N pos b s z H _ I h) λ_ _ ⟨_,_,o,C,L⟩=>?_) t G E n;obtain⟨x,rfl,q⟩:=L;obtain⟨u,rfl,J⟩:=C.one;refine kws_cons (kC o l m (kws_cons (Constant_none (kws_nil ?_))) j);exact Fe F D r B o J q
def gM:Zf->Nat->Nat->UF->Nat
 | _,i,_,[]=>i
 | db,i,j,d::r=>if ltv d db=true then gM d j (j+1) r else gM db i (j+1) r
def cJ:UF->Nat
 | []=>0
 | d::r=>gM d 0 1 r
theorem oK {S:Zf->Prop} (o:ve S):∀(r:UF) (all:UF) (db:Zf) (i j:Nat),(∀d∈all,S d)->all.drop j=r->i<j->all[i]? = some db->(∀(m:Nat) (d:Zf),m<j->all[m]? = some d->ltv d db=false)->(∀(m:Nat) (d:Zf),m<i->all[m]? = some d->ltv db d=true) ->
  ∃d,all[gM db i j r]? = some d/\(∀(m:Nat) (e:Zf),all[m]? = some e->ltv e d=false)/\∀(m:Nat) (e:Zf),m<gM db i j r->all[m]? = some e->ltv d e=true
 | [],all,db,i,j,hS,hd,hij,hi,h1,h2=>by
  have p:all.length<=j:=WE.mp hd;exact⟨db,hi,λm e a=>h1 m e (U7 (aH a) p) a,h2⟩
 | d::r,all,db,i,j,hS,hd,hij,hi,h1,h2=>by
  have f:j<all.length:=by
   rcases Vs j all.length with z | z
   ·exact z
   ·rw[Vy z]at hd;cases hd
  have l:=Vk f;rw[hd]at l;injection l with e1 e2;have c:all[j]? = some d:=by rw[UB f,e1]
  have g:S d:=hS d (UC c);have q:S db:=hS db (UC hi);unfold gM;by_cases b:ltv d db=true
  ·rw[Zn b];have k:∀m e,m<j->all[m]? = some e->ltv d e=true:=λm e h a=>by
    have n:S e:=hS e (UC a);rcases o.neg g n q b with z | z
    ·exact z
    ·rw[h1 m e h a]at z;cases z
   refine oK o r all d j (j+1) hS e2.symm (Wl _) c (λm e h a=>?_) k;rcases Vs m j with z | z
   ·exact o.asymm g (hS e (UC a)) (k m e z a)
   ·have:m=j:=by lia
    subst this;rw[c]at a;cases a;exact o.irr d g
  ·rw[Zo b];refine oK o r all db i (j+1) hS e2.symm (WT hij) hi (λm e h a=>?_) h2;rcases Vs m j with z | z
   ·exact h1 m e z a
   ·have:m=j:=by lia
    subst this;rw[c]at a;cases a;exact U3.mpr b
theorem vS (o:ve S) {all:UF} (hS:∀d∈all,S d) (a:all≠[]) :
  ∃d,all[cJ all]? = some d/\(∀(m:Nat) (e:Zf),all[m]? = some e->ltv e d=false)/\∀(m:Nat) (e:Zf),m<cJ all->all[m]? = some e->ltv d e=true:=by
 cases all with
 | nil=>exact(a rfl).elim
 | cons d r=>
  refine oK o r (d::r) d 0 1 hS rfl Nat.zero_lt_one rfl (λm e c b=>?_) (λm e c b=>absurd c (Nat.not_lt_zero _));have:m=0:=by lia
  subst this;cases b;exact o.irr d (hS d (UM ..))
theorem Jz {Q:VK}{l:Za} (o:ve S) (J:SqL K H0 l xs):∀(r:Uj) (kr:UF) (i j:Nat) (b kb:V) (db:Zf) (H:Hp),r.length=kr.length->af H0 H->Den K H kb db->S db->(∀d∈kr,S d/\d.depth<=100)->xs.drop j=r->xs[i]? = some b ->
  (∀(m:Nat) (x:V) (d:Zf) (H:Hp) (Q:VK),r[m]? = some x->kr[m]? = some d->af H0 H->(∀k H',af H H'->Den K H' k d->Q k H')->sp [x] H Q E0)->(∀H',af H0 H'->Q (xs.getD (gM db i j kr) .non) H')->xt K sp l xs r b kb H Q:=by
 intro r
 induction r with
 | nil=>
  intro kr i j b kb db H q s D B hS f A a u;cases kr with
  | nil=>exact⟨s.seq J,by have:=u H s;simpa[gM,YA,A]using this⟩
  | cons d kr=>cases q
 | cons x r I=>
  intro kr i j b kb db H q s D B hS f A a u;cases kr with
  | nil=>cases q
  | cons d kr=>
   have t:j<xs.length:=by
    rcases Vs j xs.length with z | z
    ·exact z
    ·rw[Vy z]at f;cases f
   have G:=Vk t;rw[f]at G;injection G with e1 e2;have F:xs[j]? = some x:=by rw[UB t,e1]
   have w:=hS d (UM ..);refine⟨s.seq J,a 0 x d H _ rfl rfl s λk H' v n=>⟨d,db,n,D.same v,o.cmp d db w.1 B,w.2,?_⟩⟩;have p:∀e∈kr,S e/\e.depth<=100:=λe L=>hS e (UJ _ L);by_cases c:ltv d db=true
   ·rw[Zn c];refine I kr j (j+1) x k d H' (by simpa using q) (s.trans v) n w.1 p e2.symm F (λm y e g E C h=>a (m+1) y e g E (by simpa using C) (by simpa using h)) λg h=>?_;have:=u g h;unfold gM at this
    rwa [Zn c]at this
   ·rw[Zo c];refine I kr i (j+1) b kb db H' (by simpa using q) (s.trans v) (D.same v) B p e2.symm A (λm y e g E C h=>a (m+1) y e g E (by simpa using C) (by simpa using h)) λg h=>?_;have:=u g h;unfold gM at this
    rwa [Zo c]at this
theorem wQ {Q:VK}{l:Za} (o:ve S) (f:SqL K H l xs) (c:xs.length=kds.length) (hS:∀d∈kds,S d/\d.depth<=100)
  (a:∀(m:Nat) (x:V) (d:Zf) (H2:Hp) (Q:VK),xs[m]? = some x->kds[m]? = some d->af H H2->(∀k H',af H2 H'->Den K H' k d->Q k H')->sp [x] H2 Q E0) (n:xs=[]->Q .non H) (h:xs≠[]->∀H',af H H'->Q (xs.getD (cJ kds) .non) H'):xD K sp (.ref l) H Q:=by
 refine⟨l,xs,rfl,f,?_⟩;cases xs with
 | nil=>exact n rfl
 | cons x r=>
  cases kds with
  | nil=>cases c
  | cons d i=>
   refine a 0 x d H _ rfl rfl (af.refl _) λk H' s p=>?_;refine Jz o f r i 0 1 x k d H' (by simpa using c) s p (hS d (UM ..)).1 (λe g=>hS e (UJ _ g)) rfl rfl (λm y e H2 q j b=>a (m+1) y e H2 q (by simpa using j) (by simpa using b)) λH2 b=>?_;exact h (by intro z;cases z) H2 b
end
def dU (K:Xz):Uj->Hp->VK->Prop:=λxs H Q=>∃p ys,xs=[.ref p]/\(SqL K H p ys\/SqT K H p ys)/\Q (.int ys.length) H
theorem bg:jo X (.builtin "len") (dU X.K):=x9
theorem gJ:bootBuiltins "isinstance" = some (.builtin "isinstance"):=by decide +kernel
theorem GF:bootBuiltins "str" = some (.type "str"):=by decide +kernel
theorem Hv:bootBuiltins "int" = some (.type "int"):=by decide +kernel
theorem Ba:bootBuiltins "tuple" = some (.type "tuple"):=by decide +kernel
theorem Gu {x y:V} (c:SqT K H a [x,y]) (h:F ((σ.set 0 (some x)).set 1 (some y)) H) :
  u7 K 2 (eR (aZ 0) (eR (aZ 1) vY)) (.ref a) σ H λσ2 H2=>Nd σ2 H2 λb H3=>if b=true then F σ2 H3 else G σ2 H3:=by
 refine⟨a,_,rfl,c,rfl,_,_,rfl,_,_,rfl,rfl,?_⟩;show(if true=true then F ((σ.set 0 (some x)).set 1 (some y)) H else G ((σ.set 0 (some x)).set 1 (some y)) H);rw[Zn rfl];exact h
theorem C8 {o:Expr}{es:List Expr}{to:TE}{apos dD:Pos}{T id:String} (c:X.K=K) (pa:PlainAttrs T) (slot:Slot T name id) (a:typeOf (.builtin id)=pure (.type "method_descriptor")) (k:MtR X id r) (j:PE X o to) (h:PA X (e::es) t)
  (i:attributeBase o name X.env (eval o X.env)=eval o X.env:=by rfl)
  (d:((backTo dD (Zi (e::es) X.env)).all (λx=>!x.1) && (backToKw dD (keywordEach [] X.env)).all (λx=>x.1.isSome)
   && decide ((e::es).length+([]:List Keyword).length+(if ([]:List Keyword).isEmpty then 0 else 1)<30))=true:=by rfl)
  (f:(apos.endLine == dD.line)=true:=by rfl) (g:Zi (e::es) X.env=(false,eval e X.env)::Zi es X.env:=by rfl) (b:(backTo dD (Zi es X.env)).any (·.1)=false:=by rfl) :
  PE X (.Call (.Attribute o name apos) (e::es) [] dD) (tBM K T r to t):=by
 subst c;exact ee pa slot a k j h i d f g b
def PF (sc osc:Scope):Scope:={ sc with names:=sc.names.map λ(n,k)=>if (k == .free && osc.kind == .function && osc.names.lookup n == some .cell)then(n,.cell)else(n,k) }
theorem tU {c:Cx}{d a:Scope}{b:Uq}{s:Xx}{H:Hp}{fp:Uz} (osc:Scope) (h:M6 d (PF a osc) b N' n fi=true) (e:c.env.scope=osc:=by rfl):mh (gb c a b s H fp) d N' n fi:=by
 subst e;exact bf (PF a c.env.scope) b h rfl rfl
theorem SqT.Qn {b:Hp} (d:LL H0 b) (s:af b H') (h:SqT K b a xs):SqT K (L2.lim H0 H') a xs:=by
 have c:∀o:HO,b a=some o->(∀zs,o ≠ .lst zs)->∀zs,H0 a≠some (.lst zs):=λo i f zs e=>by
  obtain⟨g,q⟩:=d a zs e;rw[i]at q;cases q;exact f g rfl
 rcases h with(h | ⟨o,h⟩) | h
 ·exact .inl (.inl (by rw[bO (c _ h λzs z=>by cases z)];exact s _ _ h))
 ·exact .inl (.inr ⟨o,by rw[bO (c _ h λzs z=>by cases z)];exact s _ _ h⟩)
 ·exact .inr h
section
open PySem.SeqAt
open PySem.AutoSeq1 (wpAny_loadPart')
open PySem.MeetsSeq PySem.MeetsSeq2 PySem.MeetsSeq3
end
section
open PySem.SeqAt
open PySem.MeetsSeq PySem.MeetsSeq2 PySem.MeetsSeq3
end
def Cy (K:Xz) (neg:Bool):R2:=λx y H Q=>∃(xs:UF) (d:Zf),Den K H y (.list xs)/\Den K H x d/\d.depth<=100/\Q (.bl (if neg then !xs.any λe=>Yc e d else xs.any λe=>Yc e d)) H
theorem zd {k:Nat} (hr:bM k A) {a b:Nat} (h:b<=100):A.units+1+min a b<cLine:=by
 have h1:=hr.un;have h2:=Nat.min_le_right a b;lia
theorem Nq {k:Nat} (j:bM k X.A):OpR X (compareOp .In) (Cy X.K false):=by
 intro _ s _ H x y v u Q I f e h;obtain⟨_,d,b,a,c,q⟩:=h;obtain⟨_,i⟩:=I.reads b e;obtain⟨_,g⟩:=I.reads a f;exact SeqAt.in_list_reads i g (by simpa[PyData.canLay0]using b.lay) a.lay (zd j c) ⟨.bl _,H,I,rfl,q⟩
theorem nL {k:Nat} (j:bM k X.A):OpR X (compareOp .NotIn) (Cy X.K true):=by
 intro _ s _ H x y v u Q I f e h;obtain⟨_,d,b,a,c,q⟩:=h;obtain⟨_,i⟩:=I.reads b e;obtain⟨_,g⟩:=I.reads a f;exact SeqAt.notIn_list_reads i g (by simpa[PyData.canLay0]using b.lay) a.lay (zd j c) ⟨.bl _,H,I,rfl,q⟩
section
open PySem.MeetsSeq PySem.MeetsSeq2 PySem.MeetsSeq3
def uh (K:Xz):R2:=λx y H Q=>∃l b xs zs,x = .ref l/\y = .ref b/\SqL K H l xs/\SqL K H b zs/\xs.length+zs.length<=Zg/\∀p,H p=none->Q (.ref p) (upd H p (.lst (xs++zs)))
theorem nv:OpR X (binaryOp .Add) (uh X.K):=by
 intro _ s _ H x y v u Q I A t h;obtain⟨l,b,_,_,rfl,rfl,D,w,_,q⟩:=h;cases A;cases t;obtain⟨c,r,z,_⟩:=I.list D;obtain⟨a,m,g,_⟩:=I.list w;have L:=r.length;have J:=m.length;obtain⟨⟨_,E,_,G⟩,n,p,o,_,k⟩:=z;obtain⟨⟨_,i,_,j⟩,B,f,d,_,e⟩:=g;simp only at o k d e;subst o k d e;have C:c.toArray++a.toArray=(c++a).toArray:=by simp
 refine concat_meets ⟨_,p,rfl⟩ ⟨_,f,rfl⟩ noFill_list_add seq_list_add PySem.F.slot_list_add PySem.F.entry_list_add (PySem.F.args_list_add_2 _ _) (list_addW l b c.toArray a.toArray n B E i G j (by simp;lia)) ⟨p,f,?_⟩;rw[C];exact⟨.ref _,_,I.Sn (t':=s.toks) (r.append m) (by rw[UH];lia),rfl,q _ I.fresh⟩
end
section
variable {tg2 To:Expr}{Uu:List Expr}
end
section
open PySem.W
theorem LQ {k:Key} (h:(a9 P w).is k u=true):RelV (kV k) u:=by
 rcases ck (show uR k u=true from h)with⟨i,t,rfl,rfl⟩ | ⟨x,t,rfl,rfl⟩
 ·exact⟨t,rfl⟩
 ·exact⟨t,rfl⟩
theorem xA:∀{kvs:List (Key×V)}{vs:List (Key×Xy)}{us:WF}{P:Zd}{w:Ze},KV kvs vs->us.length=kvs.length->(∀(j:Nat) (v:Xy),us[j]? = some v->∃k x,vs[j]? = some (k,x)/\(a9 P w).is k v=true)->aQ (kvs.map λkv=>kV kv.1) us
 | _,_,[],_,_,.nil,_,_=>.nil
 | _,_,_::_,_,_,.nil,h,_=>by simp at h
 | _,_,[],_,_,.cons _ _,h,_=>by simp at h
 | _,_,u::us,_,_,.cons r t,h,k=>by
  obtain⟨_,_,c,d⟩:=k 0 u rfl;have a:=Ye c;have b:=r.1;rw[a]at b;refine .cons ?_ (xA t (by simpa using h) λj v e=>k (j+1) v e);show RelV (kV _) u;rw[b];exact LQ d
end
def SQ:Zf->Str
 | .str x=>x
 | d=>d.shown
structure TJ (d:Zf):Prop where
 T7:d.showable=true
 nod:d.hasDict=false
 dep:d.depth<=100
 len:(∀x,d ≠ .str x)->d.shown.length<=Zg
structure PAj (X:Cx) (es:List Expr) (t:TA):Prop where
 go:PA X es t
structure PSj (X:Cx) (st:Stmt) (t:TS):Prop where
 go:PS X st t
structure TN (X:Cx) (st:List Stmt) (t:TS):Prop where
 go:PSs X st t
theorem xM {x:V}:∀{xs:Uj}{us:WF},aQ xs us->xs.all iU=true->us.countP (eqU x)=xs.countP λy=>eqV y x
 | _,_,.nil,_=>rfl
 | y::xs,u::us,.cons r t,f=>by
  rw[Wp,Vm]at f;rw[VL,VL,B8 r f.1,xM t f.2]
def IF (K:Xz):V->Uj->Hp->VK->Prop:=λx vs H Q=>∃p xs y,x = .ref p/\vs=[y]/\SqL K H p xs/\iU y=true/\xs.all iU=true/\Q (.int (xs.countP λz=>eqV z y:Nat)) H
theorem F9:MtR X "list.count" (IF X.K):=by
 intro _ s _ H x _ v _ Q I i j h;obtain⟨p,_,y,rfl,rfl,t,m,b,q⟩:=h;cases i;obtain⟨u,rfl,l⟩:=j.one;obtain⟨a,r,e,_⟩:=I.list t;obtain⟨o,n,c,k,d,f⟩:=e;cases o;cases k;cases d;cases f;refine call_meets Z4 ⟨_,c,rfl⟩ PySem.F.entry_list_count (PySem.F.args_list_count_2 _ _) (SeqAt.list_countAt p a.toArray n _ _ u (eqU y)) ⟨c,λw g=>pX l m r b w (by simpa using g),?_⟩;refine⟨.int _,H,I.tok _,⟨_,rfl⟩,?_⟩;rw[show a.toArray.toList=a from rfl,xM r b];exact q
section
variable {k:Key}{x:V}{r:Xy}
theorem GS (I:Inv X pins σ H s) (e:H a=some (.dK kvs)) (m:RelV (kV k) u) (p:RelV x r) (t:kvs.length<Zg)
  (h1:∀v,fB kvs k=some v->∀w' s',Inv X pins σ H s'->RelV v w'->Q w' s') (h2:fB kvs k=none->∀s',Inv X pins σ (upd H a (.dK (putK kvs k x))) s'->Q r s') :
  Zh (model X.prog X.w) A (call (.builtin "dict.setdefault") [.ref a,u,r]) Q E s:=by
 obtain⟨z,f,j,c,g⟩:=Mj I.hok e;have b:=c.val k;refine call_meetsIn PySem.F.slot_dict_setdefault g.typeIs PySem.F.entry_dict_setdefault (PySem.F.args_dict_setdefault_3 _ _ _) (kt_meets_setdefault (a9 X.prog X.w) a (A7 m) f r)
  ⟨j,g,by rw[<-c.length];exact z,λw' o=>?_,λh l d n=>?_⟩
 ·rw[o]at b;cases q:fB kvs k with
  | none=>rw[q]at b;exact absurd b (by simp[jZ])
  | some v=>rw[q]at b;exact h1 v q _ _ (I.tok _) b
 ·rw[h]at b;cases q:fB kvs k with
  | some v=>rw[q]at b;exact absurd b (by simp[jZ])
  | none=>
   have i:∃q,l.get? a=some q:=let ⟨q,_,_,hq,_⟩:=d;⟨q,hq⟩;exact h2 q _ (ym I (by rw[e];exact True.intro) n i (IV (by have:=mL kvs k x;lia) f (c.put k p) d))
end
def Q1 (td ty tx:TE):TE:=λσ H Q=>td σ H λx H1=>∃a,x = .ref a/\IsD H1 a/\ty σ H1 λy H2=>tx σ H2 λz H3=>∃kvs k,H3 a=some (.dK kvs)/\y=kV k/\kvs.length<Zg /\
 (∀v,fB kvs k=some v->Q v H3)/\(fB kvs k=none->Q z (upd H3 a (.dK (putK kvs k z))))
section
variable {o f:Expr}
theorem J0 (R:PE X o td) (q:PE X e ty) (w:PE X f tx) (m:M2 X o "setdefault" apos e f dD):PE X (.Call (.Attribute o "setdefault" apos) [e,f] [] dD) (Q1 td ty tx):=by
 intro b s g H Q I h;refine wpAny_Call_method m.base m.few m.line PySem.F.plainAttrs_dict PySem.F.slot_dict_setdefault PySem.F.type_dict_setdefault (thn (R b s g H _ I h) λu E ⟨x,M,j,r,a,K,d,V⟩=>?_);subst K;obtain rfl:u=Value.ref a:=r;obtain⟨D,C,_⟩:=Dg j d;refine⟨D,C,?_⟩;rw[m.HJ];refine YM rfl (Calls.evalArgs_plain (YD (thn (q b E g M _ j V) λ_ U ⟨y,n,B,p,P⟩=>
  YD (thn (w b U g n _ B P) λ_ _ ⟨z,L,N,l,_,k,G,T,J,W,O⟩=>YU ?_))))
 subst T;exact GS N G p l J (λv t _ A i c=>⟨v,L,i,c,W v t⟩) λS A i=>⟨z,_,i,l,O S⟩
end
theorem KV.vals {vs:List (Key×Xy)} (r:KV kvs vs):aQ (kvs.map (·.2)) (vs.map (·.2)):=by
 induction r with
 | nil=>exact .nil
 | cons h _ ih=>exact .cons h.2 ih
def tLV (td:TE):TE:=λσ H Q=>td σ H λx H1=>∃a kvs,x = .ref a/\Rd H1 a (.dK kvs)/\∀p,H1 p=none->Q (.ref p) (upd H1 p (.lst (kvs.map (·.2))))
section
variable {p:Pos}{o:Expr}
theorem HC (E:X.calm=true) (Y:Gl X x) (J:X.mg x=none) (G:bootBuiltins x=some (.type "list")) (S:PE X o td)
  (T:x ≠ "__name__" :=by decide) (k:(x == ("__debug__" : Str))=false:=by decide) (R:attributeBase o "values" X.env (eval o X.env)=eval o X.env:=by rfl) (P:(apos.endLine == dD.line)=true:=by rfl)
  (n:Zi [Expr.Call (.Attribute o "values" apos) [] [] dD] X.env=(false,eval (Expr.Call (.Attribute o "values" apos) [] [] dD) X.env)::Zi [] X.env:=by rfl) :
  PE X (.Call (.Name x p) [.Call (.Attribute o "values" apos) [] [] dD] [] pos) (tLV td):=by
 intro c s O H Q I h;refine wpAny_Call_Name_kw (fm I Y J G ?_ T k);refine Ym ?_ n rfl;rw[n];refine YD (wpAny_Call_method0_late R P (thn (S c s O H _ I h) λu A ⟨y,_,e,D,a,kvs,U,d,V⟩=>?_));subst U;obtain rfl:u=Value.ref a:=D;obtain⟨L,K,_⟩:=Dg e (.inl ⟨kvs,d⟩);obtain⟨z,B,m,b,l⟩:=uL e.hok d;refine⟨"dict","dict.values",PySem.F.plainAttrs_dict,PySem.F.slot_dict_values,PySem.F.type_dict_values,L,K,YM rfl (PySem.evalArgs_none ?_)⟩;refine call_meetsIn PySem.F.slot_dict_values l.typeIs PySem.F.entry_dict_values (PySem.F.args_dict_values_1 _) (meets_dict_values (a9 X.prog X.w) a B) ⟨⟨m,l⟩,YU ?_⟩;obtain⟨ep,f⟩:=(l.push { cls:=.type "dict_values",data:=.fields #[.ref a] }).dictAt;have r:=e.kept (t':=A.toks) (h':=A.heap.push { cls:=.type "dict_values",data:=.fields #[.ref a] }) λ_ _ q=>Xu _ q;have Z:=b.length;refine W.kdl_call (W.kdl_values (knd:=a9 X.prog X.w) (kvs:=m) (ep:=ep)) (e.ok.hd E) ⟨⟨_,Y3 _ rfl,rfl,rfl⟩,f⟩ (by lia) λh' _ g M C hS t=>?_;have i:g.toList=m.map (·.2):=W.kdl_vals_eq g.toList (by rw[UZ];exact t.1) λj v N=>t.2 j v (by rw[<-Vn];exact N)
 refine⟨.ref _,_,r.laid (o:=.lst (kvs.map (·.2))) C (UD _) ⟨by rw[UA];exact z,g.toList,M,by rw[i];exact b.vals,by rw[Array.toArray_toList];exact hS⟩,rfl,V _ (r.hok.fresh (UD _))⟩
end
section
open SetTable
def way (t:Zj) (h:Int):Nat->Probe
 | 0=>t.probeStart h
 | n+1=>t.advance (way t h n)
end
section
open SetTable
variable {mask:Nat}
end
section
abbrev tK (P:Zd) (w:Ze):=tupleKind (a9 P w)
variable {x:Za}{o:Obj}{t:Zj}
def hK (P:Zd) (w:Ze) (k:Int×Str):Int:=(tK P w).hash [.inl k.1,.inr k.2]
end
def wV:Xy->Str
 | .str x _=>x
 | _=>Yh
theorem LI (t:Zj) (es:Array (Int×Xy)) (h:Int) (x:Xy):(layNew t es h x).2.1.led=t.led:=by
 unfold layNew
 split
 ·simp only[SetTable.put,SetTable.orStandIn,SetTable.standIn]
  repeat (first | rfl | split)
 ·rfl
theorem wM (t:Zj) (es:Array (Int×Xy)) (n:Nat):(relayAll t es n).2.1.led=t.led/\(t.plain=false->(relayAll t es n).2.1.plain=false):=by
 unfold relayAll
 split
 ·rename_i t' order e;simp only[SetTable.relaid,SetTable.laid]at e;have:t'.led=t.led/\t'.plain=t.plain:=by
   cases h:SetTable.layClean (SetTable.sizeAbove n - 1) (es.map (·.1))with
   | none=>rw[h]at e;cases e
   | some o=>
    rw[h]at e;cases e;exact⟨rfl,rfl⟩
  dsimp only
  split
  ·exact⟨this.1,λz=>by rw[this.2];exact z⟩
  ·exact⟨rfl,λ_=>rfl⟩
 ·exact⟨rfl,λ_=>rfl⟩
def l3 (P:Zd) (w:Ze) (byT:Bool) (h:Heap) (a:Za) (us:Uq):Prop:=∃o es ep t,h.get? a=some o/\o.ExactSet/\o.data = .set es ep t/\ElemsOf (a9 P w) es.toList/\es.size<scanBound/\t.fits es.size=true/\t.led=(!byT)/\(us≠[]->t.plain=false)/\(∀e∈es.toList,∃x tk,e.2 = .str x tk)/\(es.toList.map λe=>wV e.2).Perm us
theorem l3.keep {us:Uq} (x:l3 P w byT h a us) (k:∀o,h.get? a=some o->h'.get? a=some o):l3 P w byT h' a us:=by
 obtain⟨o,b,d,t,c,r⟩:=x;exact⟨o,b,d,t,k o c,r⟩
theorem Dd {byT:Bool} (c:h.get? a=some { cls:=.type "set",dict:=none,data:=.set #[] 0 (.fresh 0 0 (!byT)) }):l3 P w byT h a []:=
 ⟨_,#[],0,_,c,⟨rfl,rfl,rfl⟩,rfl,(λe b=>by simp at b),by decide,by rfl,rfl,λz=>(z rfl).elim,(λe b=>by simp at b),by simp⟩
theorem kZ {o:Obj}{b:Array (Int×Xy)}{t t':Zj}{us:Uq} (m:h.get? a=some o) (c:o.ExactSet) (f:o.data = .set es ep t)
  (d:ElemsOf (a9 P w) b.toList) (i:b.size<scanBound) (l:t'.fits b.size=true) (k:t'.led = !byT) (g:us≠[]->t'.plain=false) (j:∀e∈b.toList,∃x tk,e.2 = .str x tk) (n:(b.toList.map λe=>wV e.2).Perm us) :
  (h.update a (Obj.putSet b t')).get? a=some { o with data:=.set b (ep+1) t' }/\l3 P w byT (h.update a (Obj.putSet b t')) a us:=by
 have q:=Heap.get?_update_self (Obj.putSet b t') m (by rw[putSet_of b t' f];rfl);rw[putSet_of b t' f]at q;exact⟨q,_,b,ep+1,t',q,c,rfl,d,i,l,k,g,j,n⟩
theorem Gg {byT:Bool}{h:Heap}{a:Za}{us:Uq} (f:∀e∈es.toList,∃x tk,e.2 = .str x tk) (g:(es.toList.map λe=>wV e.2).Perm us):(∃e∈es.toList,(a9 P w).is (.inr x) e.2=true)↔x∈us:=by
 rw[<-g.mem_iff,UE];constructor
 ·rintro⟨e,c,b⟩;obtain⟨tk,d⟩:=LQ b;exact⟨e,c,by rw[d];rfl⟩
 ·rintro⟨e,c,b⟩;obtain⟨y,tk,d⟩:=f e c;rw[d]at b;have:y=x:=b;refine⟨e,c,?_⟩;rw[d,this];exact jy P w x tk
theorem IH {us:Uq}{tk:Tok}{Q:Bool->Xx->Prop} (hS:l3 P w byT s.heap a us) (Pw:us.length+1<scanBound)
  (h:∀h' b,YI a s.heap h'->l3 P w byT h' a (if x∈us then us else us++[x])->Q b { s with heap:=h' }) :
  Zh (model P w) A (setAddHashed a (.str x tk) ((a9 P w).hash (.inr x))) Q E s:=by
 obtain⟨o,u,_,t,K,n,I,F,hb,hf,hl,_,hs,W⟩:=id hS;have Kv:(a9 P w).is (.inr x) (.str x tk)=true:=jy P w x tk;have v:(Value.str x tk).scannable=true:=rfl;have hn:u.size=us.length:=by
  have:=W.length_eq;rw[UA,UZ]at this;exact this
 have a0:u.size+1<scanBound:=hn ▸ Pw;have d:=byScan_of v hb F;unfold setAddHashed;refine Xr ?_;unfold setAddHashedIn;refine Xw (wpAny_setState_of K I hf ?_);dsimp only;rw[d,Zn rfl];unfold setAddByScan;refine Xw (Xw (wpAny_rule (Xw (wpAny_setScan_of Kv K I hf F ?_))));have QF:=Gg (P:=P) (w:=w) (byT:=byT) (h:=s.heap) (a:=a) (x:=x) hs W;cases hr:List.findIdx? (λe=>(a9 P w).is (.inr x) e.2) u.toList with
 | some j=>
  dsimp only;obtain⟨hj,Y,_⟩:=List.findIdx?_eq_some_iff_getElem.mp hr;have D:x∈us:=QF.mp ⟨u.toList[j],Vh hj,Y⟩;have N:=h s.heap false (Heap.SameBut.refl a s.heap) (by rw[Zn D];exact hS);exact Xv (Xv N)
 | none=>
  dsimp only;have D:x∉us:=λz=>by
   obtain⟨e,y,hk⟩:=QF.mpr z;have:=List.findIdx?_eq_none_iff.mp hr e y;rw[hk]at this;cases this
  have B:∀(b:Bool) {s₁:Xx}{Q':Unit->Xx->Prop},Q' () s₁->Zh (model P w) A (match b with | true=>rule "set.scan.the-table-gave-way" | false=>pure ()) Q' E s₁:=
   λb _ _ q=>match b with
    | true=>wpAny_rule q
    | false=>Xv q
  have C:=layNew_perm t u ((a9 P w).hash (.inr x)) (.str x tk);have S:=layNew_fits t u ((a9 P w).hash (.inr x)) (.str x tk);have U:=LI t u ((a9 P w).hash (.inr x)) (.str x tk);generalize layNew t u ((a9 P w).hash (.inr x)) (.str x tk)=L at C S U ⊢;obtain⟨es1,m,_,_⟩:=L;dsimp only at C S U ⊢;rw[Array.toList_push]at C;have T:ElemsOf (a9 P w) es1.toList:=(F.push Kv v).perm C;have p:∀e∈es1.toList,∃x tk,e.2 = .str x tk:=λe y=>by
   rcases UY.mp (C.mem_iff.mp y)with z | z
   ·exact hs e z
   ·rw[UG.mp z];exact⟨x,tk,rfl⟩
  have r:(es1.toList.map λe=>wV e.2).Perm (us++[x]):=by
   refine(C.map _).trans ?_;rw[UL];exact W.append_right _
  have J:es1.size<scanBound:=by rw[<-UZ,C.length_eq,UH,UZ];simpa using a0
  refine Xw (B _ ?_);have R:∀h',YI a s.heap h'->l3 P w byT h' a (us++[x])->Q true { s with heap:=h' }:=λh' sb hx=>h h' true sb (by rw[Zo D];exact hx);have pk:plainKind (.str x tk)=false:=rfl;have V:({ m with plain:=false }:Zj).fits es1.size=true/\({ m with plain:=false }:Zj).led=(!byT)/\({ m with plain:=false }:Zj).plain=false:=⟨SetTable.fits_plain_off S,U.trans hl,rfl⟩;have X:m.plain=false->m.fits es1.size=true/\m.led=(!byT)/\m.plain=false:=λz=>⟨S,U.trans hl,z⟩;cases hpl:m.plain
  ·have c:=X hpl;clear X V;rw[Zo (by decide)];refine Xw (Xv ?_);simp only[if_true];generalize m=t2 at c ⊢;obtain⟨k,H⟩:=kZ (P:=P) (w:=w) (us:=us++[x]) K n I T J c.1 c.2.1 (λ_=>c.2.2) p r;have f:=Yi s.heap a (Obj.putSet es1 t2);refine Xw (wpAny_storeSet_of K I ?_ (fits_of_scanBound J));refine wpAny_ite_split (λ_=>?_) λ_=>Xv (Xv (R _ f H));obtain⟨l,O⟩:=And.intro (relayAll_perm t2 es1 (YQ es1.size)) (relayAll_fits t2 es1 (YQ es1.size));obtain⟨g,i⟩:=wM t2 es1 (YQ es1.size);generalize relayAll t2 es1 (YQ es1.size)=Z at l O g i ⊢;have M:Z.1.size<scanBound:=by
    have e:=l.length_eq;rw[UZ,UZ]at e;rw[e];exact J
   obtain⟨_,G⟩:=kZ (P:=P) (w:=w) (us:=us++[x]) k n rfl (T.perm l) M O (g.trans c.2.1) (λ_=>i c.2.2) (λe y=>p e (l.mem_iff.mp y)) ((l.map _).trans r);refine Xw (B _ (Xw (wpAny_storeSet_of k rfl ?_ (fits_of_scanBound M))));exact Xv (Xv (R _ (f.trans (Yi _ a _)) G))
  ·have c:=V;clear X V;rw[Zn rfl,hashByValue_scannable 8 v];refine Xw (Xv ?_);simp only[pk,Ve,if_false];generalize({ m with plain:=false }:Zj)=t2 at c ⊢;obtain⟨k,H⟩:=kZ (P:=P) (w:=w) (us:=us++[x]) K n I T J c.1 c.2.1 (λ_=>c.2.2) p r;have f:=Yi s.heap a (Obj.putSet es1 t2);refine Xw (wpAny_storeSet_of K I ?_ (fits_of_scanBound J));refine wpAny_ite_split (λ_=>?_) λ_=>Xv (Xv (R _ f H));obtain⟨l,O⟩:=And.intro (relayAll_perm t2 es1 (YQ es1.size)) (relayAll_fits t2 es1 (YQ es1.size));obtain⟨g,i⟩:=wM t2 es1 (YQ es1.size);generalize relayAll t2 es1 (YQ es1.size)=Z at l O g i ⊢;have M:Z.1.size<scanBound:=by
    have e:=l.length_eq;rw[UZ,UZ]at e;rw[e];exact J
   obtain⟨_,G⟩:=kZ (P:=P) (w:=w) (us:=us++[x]) k n rfl (T.perm l) M O (g.trans c.2.1) (λ_=>i c.2.2) (λe y=>p e (l.mem_iff.mp y)) ((l.map _).trans r);refine Xw (B _ (Xw (wpAny_storeSet_of k rfl ?_ (fits_of_scanBound M))));exact Xv (Xv (R _ (f.trans (Yi _ a _)) G))
def fA:Uq->Uq->Uq
 | us,[]=>us
 | us,x::r=>fA (if x∈us then us else us++[x]) r
theorem Dz:∀(zs us:Uq),(fA us zs).length<=us.length+zs.length
 | [],us=>UD _
 | x::r,us=>by
  have:=Dz r (if x∈us then us else us++[x]);unfold fA
  split at this
  ·rw[if_pos ‹_›];simp at *;lia
  ·rw[if_neg ‹_›];simp at *;lia
theorem iF:∀(zs us:Uq),us.Nodup->(fA us zs).Nodup
 | [],us,h=>h
 | y::r,us,h=>by
  unfold fA;refine iF r _ ?_
  split
  ·exact h
  ·rename_i hn;exact VE.mpr ⟨h,by simp,λa d b c e=>hn (by rw[UG.mp c]at e;rw[<-e];exact d)⟩
theorem EO {G:Array GenState->Array GenState->Prop}{L:Nat->Xy->Prop}{St:Nat->Xx->Prop} (W:WalksS P w A.in1 I fp wr G n L St) (S:Za) (g:S∉fp)
  (zs:Uq) (hz:zs.length=n) (Q:∀i v,L i v->∃x t,zs[i]? = some x/\v = .str x t) (q:n+1<scanBound) :
  ∀(r:Uq) (i:Nat) (s:Xx) (us:Uq),r=zs.drop i->i<=n->us.length<=i->St i s->l3 P w byT s.heap S us ->
   (∀s',Moved (S::wr) G s s'->l3 P w byT s'.heap S (fA us r)->R (.ok (.ret .none)) s') ->
   codeAny (model P w) A (.builtin "set.update.loop" ⟨[.ref S,.ref I],[]⟩) R s:=by
 have p:S∉wr:=mt (W.sub S) g;have J:=λb (z:b∈wr)=>UJ S z;intro r
 induction r with
 | nil=>
  intro i s us c M H a hS E;have D:i=n:=by
   have:=WE.mp c.symm;lia
  subst D;refine codeAny_builtin PyProof.Rows.F.entry_set_update_loop ?_;rw[Yg YL _];refine Xw (m:=pyNext (.ref I)) (W.done s _ _ a λs' d=>?_);exact Xv (E s' (d.mono J) (hS.keep λo e=>d.heap S _ p e))
 | cons x r V=>
  intro i s us c M H a hS E;have f:i<zs.length:=by
   rcases Vs i zs.length with z | z
   ·exact z
   ·rw[Vy z]at c;cases c
  have j:zs[i]? = some x/\r=zs.drop (i+1):=by
   rw[Vk f]at c;injection c with e1 e2;exact⟨by rw[UB f,<-e1],e2⟩
  refine codeAny_builtin PyProof.Rows.F.entry_set_update_loop ?_;rw[Yg YL _];refine Xw (m:=pyNext (.ref I)) (W.item i s _ _ (by lia) a λv s' U O d=>?_);obtain⟨_,t,l,rfl⟩:=Q i v U;rw[j.1]at l;cases l;have y:l3 P w byT s'.heap S us:=hS.keep λo e=>d.heap S _ p e;show Zh _ A.in1 (holding [Value.str x t] (setAdd S (.str x t)) >>= _) _ _ s';refine Xw (Xr ?_);unfold setAdd;refine Xr ?_;refine Xw ((a9 P w).pyHash (k:=.inr x) (jy P w x t) ?_);refine IH (s:={ s' with toks:=s'.toks+1 }) y (by lia) λh' b K B=>?_;refine Xv ⟨plainId_quiet YL _,V (i+1) _ _ j.2 (by lia) ?_ (W.frame _ s' _ _ O (VX _) λb q o e=>?_) B λu T N=>?_⟩
  ·split
   ·lia
   ·simp;lia
  ·rw[K.2 b (λh:b=S=>g (by rw[<-h];exact q))];exact e
  ·have first:=d.mono J
   have C:=first.then_heap (VX s'.toks) (h':=h') λb o q e=>(K.2 b λz=>q (z ▸ UM)).trans e;exact E u (Moved.trans W.gtrans C T) N
def jR (w:Ze):Bool:=w.params.followText "set-order"
def Fj (w:Ze):Obj:={ cls:=.type "set",dict:=none,data:=.set #[] 0 (.fresh 0 0 (!jR w)) }
theorem Lr (a:Xy) {Q₁:Xy->Xx->Prop} (h:Q₁ (.ref s.heap.objs.size) { s with heap:=s.heap.push (Fj w) }) :
  codeAny (model P w) A (.call (.builtin "set.__new__") ⟨[.type "set",a],[]⟩) (wants Q₁ E) s:=by
 have c:∀b,b=(!jR w)->Q₁ (.ref s.heap.objs.size) { s with heap:=s.heap.push { cls:=.type "set",dict:=none,data:=.set #[] 0 (.fresh 0 0 b) } }:=λb e=>by subst e;exact h
 refine codeAny_of_tree (Xw (m:=checkBuiltinCall "set.__new__" ⟨[.type "set",a],[]⟩) (wpAny_of_eq (PySem.F.newCall_set_1 a) (Xv ⟨plainId_quiet PySem.F.plain_set_new _,codeAny_builtin PySem.F.entry_set_new ?_⟩)));rw[Yg PySem.F.plain_set_new _];unfold Builtin.«set.__new__» Builtin.Frozenset.newClass;have f:=sub_set_self;clear h;obtain⟨_,g,d,_,_⟩:=s;dsimp only at c ⊢
 wp_walk
 refine wpAny_askSetting (Xv ?_);dsimp only;simp only[newObj];exact Xw (wpAny_alloc (Xv (Xv (c _ rfl))))
theorem JB {l:Za}{Q:PySem.Fin->Xx->Prop} (K:A.handled=none) (q:s.heap.IsList l items) (hi:aQ (zs.map V.str) items.toList) (m:items.size+1<scanBound) (H:s.heap.get? a=some (Fj w)) (y:l≠a)
  (h:∀(h':Heap) (tk:Nat),l3 P w (jR w) h' a (fA [] zs)->(∀b o,b≠a->s.heap.get? b=some o->h'.get? b=some o)->Q (.done (.ret .none)) { s with heap:=h',toks:=tk }) :
  Zh (model P w) A (Builtin.«set.__init__» ⟨[.ref a,.ref l],[]⟩) Q E s:=by
 have hT:s.TypeIs (.ref a) "set" :=⟨_,H,rfl⟩;obtain⟨T,B,g,_,f⟩:=id q;obtain⟨_,_,_,_⟩:=T;simp only at g f;subst g f;have U:=PySem.F.sub_list_set;have W:=PySem.F.sub_list_frozenset;have R:(Value.type "list" == Value.type "dict")=false:=by decide
 have D:s.heap.get? a=some { cls:=.type "set",dict:=none,data:=.set #[] 0 (.fresh 0 0 (!jR w)) }:=H;unfold Builtin.«set.__init__» noKeywords Builtin.Frozenset.updateFrom;generalize hPI:pyIter=PI
 wp_walk
 subst hPI;refine wpAny_pyIter_list q (Xw (wpAny_runValue ?_));have C:l<s.heap.objs.size:=Y2 B;have r:a<s.heap.objs.size:=Y2 H;have c:zs.length=items.size:=by have:=hi.length;rw[UA,UZ]at this;exact this
 refine EO (byT:=jR w) ((Walks.list (show A.in1.handled=none from K) s.heap.objs.size l (U2 C) items).toS) a (by simp only[UR,VI,or_false,not_or];exact⟨U2 r,y.symm⟩) zs c (λi v L=>?_) m zs 0 _ [] rfl (UU _) (UD _)
  ⟨⟨_,Y3 _ rfl,rfl,rfl⟩,q.push _⟩ (Dd (Xu _ D)) λS j k=>?_
 ·have d:items.toList[i]? = some v:=by rw[Vn];exact L
  have n:i<zs.length:=by rw[c];rw[Vn]at d;exact(Array.getElem?_eq_some_iff.mp d).1
  obtain⟨x,I⟩:∃x,zs[i]? = some x:=⟨zs[i],UB n⟩;obtain⟨u,J,O⟩:=hi.get (i:=i) (x:=.str x) (by rw[UI,I];rfl);rw[d]at J;cases J;obtain⟨t,rfl⟩:=O;exact⟨x,t,I,rfl⟩
 ·obtain⟨h',N,M,G,p⟩:=S;obtain rfl:N = s.gens:=j.gens;obtain rfl:M = s.drawn:=j.drawn;obtain rfl:p = s.os:=j.os;refine Xv (Xv (h h' G k λb o m e=>j.heap b o (λz=>?_) (Xu _ e)));rcases UR.mp z with z | z
  ·exact m z
  ·exact absurd (Y2 e) (by rw[UG.mp z];exact Vv _)
theorem wx {l:Za} (u:A.handled=none) (n:s.heap.IsList l items) (hi:aQ (zs.map V.str) items.toList) (t:items.size+1<scanBound)
  (h:∀(h':Heap) (tk:Nat),l3 P w (jR w) h' s.heap.objs.size (fA [] zs)->(∀b o,s.heap.get? b=some o->h'.get? b=some o)->Q (.ref s.heap.objs.size) { s with heap:=h',toks:=tk }) :
  Zh (model P w) A (call (.type "set") [.ref l]) Q E s:=by
 obtain⟨c,_,_⟩:=PySem.F.called_set.mro;have G:=PySem.F.called_set.made;have C:=PySem.F.called_set.sub;have D:=PySem.F.called_set.notType;have B:=PySem.F.called_set.canCreate;have x:=PySem.F.typeCall_set_1 (.ref l);refine wpAny_call (codeAny_of_tree (show Zh _ _ (callAny (.type "set") _) _ _ _ from Xv ⟨Code.quiet_builtin _ (by decide +kernel),codeAny_builtin PySem.F.entry_type_call ?_⟩));rw[Around.under_plain (weight_type_call_type "set" [.ref l] []) rfl]
 repeat any_goals (first | assumption | wp_step)
 refine codeAny_mono (Lr (P:=P) (w:=w) (.ref l) (E:=E) (Q₁:=λj f=>j = .ref s.heap.objs.size/\f={ s with heap:=s.heap.push (Fj w) }) ⟨rfl,rfl⟩) λr f m=>?_;cases r with
 | error e=>exact m
 | ok z=>
  cases z with
  | ret j=>
   obtain⟨rfl,rfl⟩:=m;have hS:(s.heap.push (Fj w)).get? s.heap.objs.size=some (Fj w):=Y3 _ rfl;have hT:Shared.TypeIs { s with heap:=s.heap.push (Fj w) } (.ref s.heap.objs.size) "set" :=⟨_,hS,rfl⟩;have y:=PySem.F.called_set.init.lookup;have p:=PySem.F.called_set.init.bind (.ref s.heap.objs.size)
   repeat any_goals (first | assumption | wp_step)
   refine codeAny_mono (codeAny_call_builtin (R:=wants (λr d=>r = .none/\Q (.ref s.heap.objs.size) d) E) PySem.F.called_set.init.plain PySem.F.entry_set_init (check_set_init_1 hT ?_)) λi d a=>?_
   ·have k:l<s.heap.objs.size:=by obtain⟨_,e,_⟩:=n;exact Y2 e
    refine JB (A:=A.in1.in1) u (n.push _) hi t hS (U2 k) λh' tk v q=>?_;exact⟨rfl,h h' tk v λb o e=>q b o (U2 (Y2 e)) (Xu _ e)⟩
   ·cases i with
    | error e=>exact a
    | ok g=>
     cases g with
     | ret r=>
      obtain⟨rfl,_⟩:=a
      repeat any_goals (first | assumption | wp_step)
     | _=>exact a.elim
  | _=>exact m.elim
section
open PySem.W
namespace SF
theorem slot_next:Slot "set_iterator" "__next__" "set_iterator.__next__" :=
 .of (owner:= "set_iterator") (n:= "__next__") (by rw[typeLookup_type,builtinLookup_eq_fast];kernel_rfl) (by decide +kernel) (by decide +kernel) (by decide +kernel) (by first | exact .inl (by decide +kernel) | exact .inr (by decide +kernel)) (by rw[isSubtype_type];kernel_rfl)
theorem wY:Slot "set_iterator" "__iter__" "set_iterator.__iter__" :=
 .of (owner:= "set_iterator") (n:= "__iter__") (by rw[typeLookup_type,builtinLookup_eq_fast];kernel_rfl) (by decide +kernel) (by decide +kernel) (by decide +kernel) (by first | exact .inl (by decide +kernel) | exact .inr (by decide +kernel)) (by rw[isSubtype_type];kernel_rfl)
theorem entry_next:entryFor table "set_iterator.__next__" = some Builtin.«set_iterator.__next__»:=entryFor_of_tree (by kernel_rfl)
theorem args_next (a:Xy):argsOk "set_iterator.__next__" ⟨[a],[]⟩:=by unfold argsOk;kernel_rfl
theorem E4 (a:Xy):argsOk "set_iterator.__iter__" ⟨[a],[]⟩:=by unfold argsOk;kernel_rfl
theorem vw:entryFor table "set.__iter__" = some Builtin.«frozenset.__iter__»:=entryFor_alias (id':= "frozenset.__iter__") (by kernel_rfl) rfl (by decide +kernel) (by kernel_rfl)
theorem CQ:entryFor table "set_iterator.__iter__" = some Builtin.«dict_keyiterator.__iter__»:=entryFor_alias (id':= "dict_keyiterator.__iter__") (by kernel_rfl) rfl (by decide +kernel) (by kernel_rfl)
end SF
theorem yr {M:Model}{a:Source}{Q:Nat->Xx->Prop} (b:n≠0) (h:∀i d,i<n->Q i { s with drawn:=d }):Zh M A (choose a n) Q E s:=λc p hc=>by
 unfold choose;rw[Sem.wp_choose];exact⟨b,h _ _ (Nat.mod_lt _ (Nat.pos_of_ne_zero b))⟩
theorem oX {α:Type}:∀(l:List α) (i:Nat) (h:i<l.length),(l[i]::l.eraseIdx i).Perm l
 | [],_,h=>by cases h
 | x::r,0,_=>Z8 _
 | x::r,i+1,h=>by
  have a:=oX r i (by simpa using h);exact(List.Perm.swap _ _ _).trans (List.Perm.cons _ a)
theorem lR {M:Model}{α:Type}:∀(n:Nat) (xs:List α) (s:Xx) {Q:List α->Xx->Prop},xs.length=n->(∀ys d,ys.Perm xs->Q ys { s with drawn:=d })->Zh M A (drawOrder n xs) Q E s
 | 0,xs,s,Q,hn,h=>by
  have:xs=[]:=V6.mp hn;subst this;exact Xv (h [] s.drawn (Z8 _))
 | n+1,[],s,Q,hn,h=>by cases hn
 | n+1,x::xs,s,Q,hn,h=>by
  unfold drawOrder;refine Xw (yr (by simp) λi d a=>?_);rw[UB a];dsimp only;refine Xw (lR n _ _ (by rw[WL a];simpa using hn) λys c b=>Xv (h _ c ?_));exact(List.Perm.cons _ b).trans (oX _ i a)
def mQ (first:Xy) (i:Nat) (a:Za) (n ep:Nat):Obj:={ cls:=.type "set_iterator",data:=.fields #[first,.int i 0,.ref a,.int n 0,.int ep 0] }
structure SAt (h:Heap) (a:Za) (es:Array (Int×Xy)) (ep:Nat) (t:Zj):Prop where
 ob:∃o,h.get? a=some o/\o.ExactSet/\o.data = .set es ep t
 ft:t.fits es.size=true
theorem eO {Q:Array (Int×Xy)->Xx->Prop} (b:SAt s.heap a es ep tb) (h:Q es s):Zh (model P w) A (setEntries a) Q E s:=by
 obtain⟨o,d,_,c⟩:=b.ob;exact Xw (wpAny_setState_of d c b.ft (Xv h))
theorem nA (n:Nat):¬ (((n:Int) != (n:Int))=true):=by simp
theorem AK {M:Model}{R:α->Xx->Prop} (c:A.handled=none) (h:∀h' e o,(∀b o,s.heap.get? b=some o->h'.get? b=some o)->h'.get? e=some o->o.cls = .type "StopIteration" -> E (.ref e) { s with heap:=h' }):Zh M A (newExc (.type "StopIteration") [] >>= λe=>(raiseNew e:Sem α)) R E s:=by
 refine Xw ?_;unfold newExc newTuple;refine Xw (wpAny_newObj_type ?_ (by size_fits));have a:(firstArgMember (.type "StopIteration") []:Sem Xy)=pure Value.none:=by first | rfl | (unfold firstArgMember;rfl)
 rw[a];refine Xw (Xv (wpAny_newObj_type ?_ (by size_fits)));unfold raiseNew;refine Xw (wpAny_handled ?_);rw[c];exact Xw (Xv (wpAny_throw (h _ _ _ (λb o e=>Xu _ (Xu _ e)) (Y3 _ rfl) rfl)))
theorem pU {Q:Option Xy->Xx->Prop} (d:s.heap.get? it=some (mQ first i a n ep))
  (h:Zh (model P w) A.in1 (Builtin.«set_iterator.__next__» ⟨[.ref it],[]⟩) (λf s'=>∃v,f = .done (.ret v)/\Q (some v) s') (λe s'=>∃b o,e = .ref b/\s'.heap.get? b=some o/\o.cls = .type "StopIteration" /\ Q none s') s) :
  Zh (model P w) A (pyNext (.ref it)) Q E s:=by
 have c:s.TypeIs (.ref it) "set_iterator" :=⟨_,d,rfl⟩;unfold pyNext;refine Xw (wpAny_attempt (wpAny_callSpecial?_slot (name:=Yo "__next__") c SF.slot_next (wpAny_call_entry SF.slot_next c SF.entry_next ?_ (SF.args_next _))));refine Xs h (λf s' ⟨v,e,q⟩=>?_) λe s' ⟨b,o,g,k,j,q⟩=>?_
 ·exact⟨v,e,Xv q⟩
 ·subst g;exact Xw (wpAny_isInstance (T:= "StopIteration") (b:=true) ⟨o,k,j⟩ isSubtype_stop (Xv q))
theorem ny {a:Za}{first x:Xy}{i n ep k:Nat}{vs:Uy}{Q:Unit->Xx->Prop} (b:s.heap.get? it=some { cls:=.type "set_iterator",data:=.fields vs }) (d:k<vs.size)
  (h:∀h',YI it s.heap h'->h'.get? it=some { cls:=.type "set_iterator",data:=.fields (vs.setIfInBounds k x) }->Q () { s with heap:=h' }):Zh (model P w) A (setField (.ref it) k x) Q E s:=
 wpAny_setField_rec b d λh' e c=>h h' c e
theorem zD {nx:Nat}{x:Xy}{Q:Option Xy->Xx->Prop} (b:s.heap.get? it=some (mQ (.int slot 0) i a es.size ep)) (k:SAt s.heap a es ep tb)
  (f:∀(A:Zc) (E:Xy->Xx->Prop) (R:Option (Xy×Nat)->Xx->Prop),R (some (x,nx)) s->Zh (model P w) A (setNext a slot i ep) R E s)
  (h:∀h',YI it s.heap h'->h'.get? it=some (mQ (.int nx 0) (i+1:Nat) a es.size ep)->Q (some x) { s with heap:=h' }):Zh (model P w) A (pyNext (.ref it)) Q E s:=by
 refine pU b ?_;unfold Builtin.«set_iterator.__next__»;refine Xw (Xv ?_);refine Xw (wpAny_fieldsOf b rfl ?_);show Zh _ _ (setEntries a >>= _) _ _ _;refine Xw (eO k ?_);rw[Zo (nA es.size)];show Zh _ _ (setNext a slot i ep >>= _) _ _ _;refine Xw (f _ _ _ ?_);dsimp only;refine Xw (ny (a:=a) (first:=x) (i:=i) (n:=0) (ep:=ep) b (by simp) λ_ c e=>?_);refine Xw (ny (a:=a) (first:=x) (i:=i) (n:=0) (ep:=ep) e (by simp) λj d g=>?_);exact Xv ⟨x,rfl,h j (c.trans d) g⟩
theorem Bv {Q:Option Xy->Xx->Prop} (q:A.handled=none) (c:s.heap.get? it=some (mQ (.int slot 0) i a es.size ep)) (p:SAt s.heap a es ep tb)
  (g:∀(A:Zc) (E:Xy->Xx->Prop) (R:Option (Xy×Nat)->Xx->Prop),R none s->Zh (model P w) A (setNext a slot i ep) R E s)
  (h:∀h',(∀b o,b≠it->s.heap.get? b=some o->h'.get? b=some o)->Q none { s with heap:=h' }):Zh (model P w) A (pyNext (.ref it)) Q E s:=by
 refine pU c ?_;unfold Builtin.«set_iterator.__next__»;refine Xw (Xv ?_);refine Xw (wpAny_fieldsOf c rfl ?_);show Zh _ _ (setEntries a >>= _) _ _ _;refine Xw (eO p ?_);rw[Zo (nA es.size)];show Zh _ _ (setNext a slot i ep >>= _) _ _ _;refine Xw (g _ _ _ ?_);dsimp only;refine Xw (ny (a:=a) (first:=.none) (i:=i) (n:=0) (ep:=ep) c (by simp) λf d _=>?_);refine AK (s:={ s with heap:=f }) (show A.in1.handled=none from q) λh' e o l t j=>⟨e,o,rfl,t,j,h h' λb k m r=>l b k ((d.2 b m).trans r)⟩
theorem ED {k:Nat}{hx:Int}{x:Xy}{ps:List Nat}{q:Nat}{Q:Option Xy->Xx->Prop} (b:s.heap.get? it=some (mQ (.ref T) i a es.size ep)) (d:SAt s.heap a es ep tb)
  (hT:s.heap.get? T=some oT) (f:oT.data = .seq (ps.map λ(j:Nat)=>rawInt j).toArray q) (l:ps[i]? = some k) (m:es[k]? = some (hx,x)) (h:∀h',YI it s.heap h'->h'.get? it=some (mQ (.ref T) (i+1:Nat) a es.size ep)->Q (some x) { s with heap:=h' }) :
  Zh (model P w) A (pyNext (.ref it)) Q E s:=by
 refine pU b ?_;unfold Builtin.«set_iterator.__next__»;refine Xw (Xv ?_);refine Xw (wpAny_fieldsOf b rfl ?_);show Zh _ _ (setEntries a >>= _) _ _ _;refine Xw (eO d ?_);rw[Zo (nA es.size)];show Zh _ _ (seqItems? (.ref T) >>= _) _ _ _;refine Xw (wpAny_seqItems hT f ?_);have p:(ps.map λ(j:Nat)=>rawInt j).toArray[(i:Int).toNat]? = some (.int k 0):=by
  rw[VF,Wf,UI,l];rfl
 dsimp only;rw[p];dsimp only;refine Xw ?_;unfold setNextDrawn;obtain⟨o,r,_,e⟩:=d.ob;refine Xw (wpAny_setState_of r e d.ft ?_);dsimp only;rw[Zo (by simp)];refine Xw (Xv ?_);rw[VF,m];refine Xv ?_;refine Xw (ny (a:=a) (first:=x) (i:=i) (n:=0) (ep:=ep) b (by simp) λg c t=>?_);exact Xv ⟨x,rfl,h g c t⟩
theorem EQ {ps:List Nat}{q:Nat}{Q:Option Xy->Xx->Prop} (r:A.handled=none) (c:s.heap.get? it=some (mQ (.ref T) i a es.size ep)) (t:SAt s.heap a es ep tb)
  (hT:s.heap.get? T=some oT) (g:oT.data = .seq (ps.map λ(j:Nat)=>rawInt j).toArray q) (v:ps[i]? = none) (h:∀h',(∀b o,b≠it->s.heap.get? b=some o->h'.get? b=some o)->Q none { s with heap:=h' }) :
  Zh (model P w) A (pyNext (.ref it)) Q E s:=by
 refine pU c ?_;unfold Builtin.«set_iterator.__next__»;refine Xw (Xv ?_);refine Xw (wpAny_fieldsOf c rfl ?_);show Zh _ _ (setEntries a >>= _) _ _ _;refine Xw (eO t ?_);rw[Zo (nA es.size)];show Zh _ _ (seqItems? (.ref T) >>= _) _ _ _;refine Xw (wpAny_seqItems hT g ?_);have B:(ps.map λ(j:Nat)=>rawInt j).toArray[(i:Int).toNat]? = none:=by
  rw[VF,Wf,UI,v];rfl
 dsimp only;rw[B];dsimp only;refine Xw (ny (a:=a) (first:=.none) (i:=i) (n:=0) (ep:=ep) c (by simp) λ_ f x=>?_);refine Xw (ny (a:=a) (first:=.none) (i:=i) (n:=0) (ep:=ep) x (by simp) λp d _=>?_);refine AK (s:={ s with heap:=p }) (show A.in1.handled=none from r) λh' e o l z y=>⟨e,o,rfl,z,y,h h' λb k m u=>l b k (((f.trans d).2 b m).trans u)⟩
theorem nM {α:Type} (next:Nat->Nat):∀(n k:Nat) (l:List α) (out:Array α),l.length=n->((pickOrder.go next n k l out).toList).Perm (out.toList++l)
 | 0,k,l,out,hn=>by
  have:l=[]:=V6.mp hn;subst this;unfold pickOrder.go;simp
 | n+1,k,l,out,hn=>by
  unfold pickOrder.go;have a:next k % l.length<l.length:=Nat.mod_lt _ (by lia);rw[UB a];dsimp only;refine(nM next n (k+1) _ _ (by rw[WL a];lia)).trans ?_;rw[Array.toList_push,WW];exact List.Perm.append_left _ (oX l _ a)
theorem pP {R:Option (Xy×Nat)->Xx->Prop} (d:jR w=true) (b:SAt s.heap a es ep tb)
  (h:R (((pickOrder (w.params.setOrder a ep) es)[i]?).map λe=>(e.2,slot)) s):Zh (model P w) A (setNext a slot i ep) R E s:=by
 obtain⟨o,f,_,c⟩:=b.ob;unfold setNext setsByText;refine Xw (wpAny_setState_of f c b.ft ?_);dsimp only;refine Xw (Xw (wpAny_askSetting (Xv ?_)));show Zh _ _ (if jR w=true then _ else _) _ _ _;rw[Zn d,Zo (by simp)];refine Xw ?_;unfold setWalk setsByText;refine Xw (wpAny_setState_of f c b.ft ?_);dsimp only;refine Xw (Xw (wpAny_askSetting (Xv ?_)));show Zh _ _ (if jR w=true then _ else _) _ _ _;rw[Zn d];exact Xw (wpAny_askSetting (Xv (Xv h)))
theorem rY {R:Option (Xy×Nat)->Xx->Prop} (d:jR w=false) (e:tb.led=true) (h1:es.size<=1) (b:SAt s.heap a es ep tb)
  (h:R (match es[Z9 tb.place slot]?,tb.place[Z9 tb.place slot]? with | some (_,x),some j=>some (x,j+1) | _,_=>none) s):Zh (model P w) A (setNext a slot i ep) R E s:=by
 obtain⟨o,f,_,c⟩:=b.ob;unfold setNext setsByText;refine Xw (wpAny_setState_of f c b.ft ?_);dsimp only;refine Xw (Xw (wpAny_askSetting (Xv ?_)));show Zh _ _ (if jR w=true then _ else _) _ _ _;rw[Zo (by rw[d];decide)];refine Xw (Xv ?_);show Zh _ _ (if (!tb.plain && decide (es.size > 1))=true then _ else _) _ _ _;rw[Zo (by simp;lia)];refine Xw ?_;show Zh _ _ (if (!tb.led && !es.isEmpty)=true then _ else _) _ _ _;rw[Zo (by simp[e])];exact Xv (Xv h)
theorem uf (xs:Array Nat) (h:xs.size<=1):Z9 xs 0=0:=by
 unfold Z9;have:xs.size=0\/xs.size=1:=by lia
 rcases this with e | e
 ·rw[e];rfl
 ·rw[e];show YW xs 0 1 0 1=0;unfold YW;simp[YW]
theorem CB (j:Nat):Z9 #[j] (j+1)=1:=by
 unfold Z9;show YW #[j] (j+1) 1 0 1=1;unfold YW;simp[YW]
structure Handed (es:Array (Int×Xy)) (vs:WF):Prop where
 perm:vs.Perm (es.toList.map (·.2))
theorem eX {t:Zj} (x:SAt h a es ep t) (k:∀o,h.get? a=some o->h'.get? a=some o):SAt h' a es ep t:=by
 obtain⟨o,e,r⟩:=x.ob;exact⟨⟨o,k o e,r⟩,x.ft⟩
theorem ur (c:s.heap.get? it=some (mQ first i a n ep)) (h:Q (.ref it) s):Zh (model P w) A (pyIter (.ref it)) Q E s:=by
 have b:s.TypeIs (.ref it) "set_iterator" :=⟨_,c,rfl⟩;refine wpAny_pyIter_slot b SF.wY (wpAny_call_entry SF.wY b SF.CQ ?_ (SF.E4 _));exact Xv ⟨_,rfl,"set_iterator",_,b,SF.slot_next.lookup,h⟩
theorem F3 (q:A.handled=none) (n:a≠it) (d:jR w=true) :
  Walks P w A it [it,a] [it] es.size (λi v=>((pickOrder (w.params.setOrder a ep) es).toList.map (·.2))[i]? = some v) (λi h=>h.get? it=some (mQ (.int 0 0) i a es.size ep)/\SAt h a es ep tb) where
 sub:=λb d=>by rw[UG.mp d];exact .head _
 frame:=λi h g c k=>⟨k it (by simp) _ c.1,eX c.2 λo e=>k a (by simp) o e⟩
 item:=λi s Q E _ c l=>by
  have r:(pickOrder (w.params.setOrder a ep) es).size=es.size:=by
   have:=(nM (w.params.setOrder a ep) es.size 0 es.toList #[] (by simp)).length_eq;unfold pickOrder;simpa using this
  have f:i<(pickOrder (w.params.setOrder a ep) es).size:=by lia
  refine zD (slot:=0) (nx:=0) (x:=(pickOrder (w.params.setOrder a ep) es)[i].2) c.1 c.2 (λA E R m=>pP d c.2 (by rw[Vg f];exact m)) λg p j=>?_;refine l _ g s.toks ?_ ⟨j,eX c.2 λo e=>(p.2 a n).trans e⟩ λb o d e=>(p.2 b (by simpa using d)).trans e;rw[UI,Vn,Vg f];rfl
 done:=λs Q E c l=>by
  have r:(pickOrder (w.params.setOrder a ep) es).size=es.size:=by
   have:=(nM (w.params.setOrder a ep) es.size 0 es.toList #[] (by simp)).length_eq;unfold pickOrder;simpa using this
  refine Bv (slot:=0) q c.1 c.2 (λA E R m=>pP d c.2 (by rw[VV (by lia)];exact m)) λg k=>l g s.toks λb o d e=>k b o (by simpa using d) e
 self:=λi s Q E c h=>ur c.1 h
theorem CC {y:Nat}{ps:List Nat} (z:A.handled=none) (r:a≠it) (q:T≠it) (p:ps.Perm (Y7 es.size)) (t:oT.data = .seq (ps.map λ(j:Nat)=>rawInt j).toArray y) :
  Walks P w A it [it,a,T] [it] es.size (λi v=>(ps.map λk=>(es.getD k (0,.none)).2)[i]? = some v) (λi h=>h.get? it=some (mQ (.ref T) i a es.size ep)/\SAt h a es ep tb/\h.get? T=some oT) where
 sub:=λb f=>by rw[UG.mp f];exact .head _
 frame:=λi h g c k=>⟨k it (by simp) _ c.1,eX c.2.1 λo e=>k a (by simp) o e,k T (by simp) _ c.2.2⟩
 item:=λi s Q E _ c m=>by
  have B:ps.length=es.size:=by rw[p.length_eq];simp
  have d:i<ps.length:=by lia
  have u:ps[i]<es.size:=by have:=p.mem_iff.mp (Vh d);simpa using this
  refine ED (hx:=es[ps[i]].1) (x:=es[ps[i]].2) c.1 c.2.1 c.2.2 t (UB d) (Vg u) λg n l=>?_;refine m _ g s.toks ?_ ⟨l,eX c.2.1 λo e=>(n.2 a r).trans e,(n.2 T q).trans c.2.2⟩ λb o f e=>(n.2 b (by simpa using f)).trans e;rw[UI,UB d,Option.map_some];simp[Z6,u]
 done:=λs Q E c m=>by
  have B:ps.length=es.size:=by rw[p.length_eq];simp
  refine EQ z c.1 c.2.1 c.2.2 t (Vp (by lia)) λg k=>m g s.toks λb o f e=>k b o (by simpa using f) e
 self:=λi s Q E c h=>ur c.1 h
theorem F6 (B:A.handled=none) (r:a≠it) (d:jR w=false) (y:tb.led=true) (h1:es.size<=1) (l:tb.fits es.size=true) :
  Walks P w A it [it,a] [it] es.size (λi v=>(es.toList.map (·.2))[i]? = some v) (λi h=>h.get? it=some (mQ (.int (if i=0 then 0 else tb.place.getD 0 0+1:Nat) 0) i a es.size ep)/\SAt h a es ep tb) where
 sub:=λb d=>by rw[UG.mp d];exact .head _
 frame:=λi h g c k=>⟨k it (by simp) _ c.1,eX c.2 λo e=>k a (by simp) o e⟩
 item:=λi s Q E t c p=>by
  obtain rfl:i=0:=by lia
  have q:tb.place.size=es.size:=by simp only[SetTable.fits,Vm,beq_iff_eq]at l;exact l.1
  have C:=uf tb.place (by lia);have f:0<tb.place.size:=by lia
  refine zD (slot:=0) (nx:=tb.place[0]+1) (x:=es[0].2) c.1 c.2 (λA E R m=>rY d y h1 c.2 (by rw[C,Vg t,Vg f];exact m)) λg u n=>?_;refine p _ g s.toks ?_ ⟨?_,eX c.2 λo e=>(u.2 a r).trans e⟩ λb o d e=>(u.2 b (by simpa using d)).trans e
  ·rw[UI,Vn,Vg t];rfl
  ·rw[n];simp[Z6,f]
 done:=λs Q E c p=>by
  have q:tb.place.size=es.size:=by simp only[SetTable.fits,Vm,beq_iff_eq]at l;exact l.1
  refine Bv B c.1 c.2 (λA E R m=>rY d y h1 c.2 ?_) λg k=>p g s.toks λb o d e=>k b o (by simpa using d) e;rcases Vs 0 es.size with z | z
  ·have F:es.size=1:=by lia
   obtain⟨j,D⟩:∃j,tb.place = #[j]:=by
    match hq:tb.place,(show tb.place.size=1 by lia)with
    | ⟨[j]⟩,_=>exact⟨j,rfl⟩
   rw[Zo (by lia),D];have:(#[j]:Array Nat).getD 0 0=j:=rfl;rw[this,CB,VV (by lia)];exact m
  ·rw[Zn (by lia),uf tb.place (by lia),VV z];exact m
 self:=λi s Q E c h=>ur c.1 h
theorem A0 {Q:Bool->Xx->Prop} (b:SAt s.heap a es ep tb) (h:Q (!jR w && (!tb.plain && decide (es.size > 1))) s):Zh (model P w) A (setDrawn a) Q E s:=by
 obtain⟨o,d,_,c⟩:=b.ob;unfold setDrawn setsByText;refine Xw (wpAny_setState_of d c b.ft ?_);dsimp only;exact Xw (Xw (wpAny_askSetting (Xv (Xv h))))
theorem Dn {ps:List Nat} (b:ps.Perm (Y7 es.size)):(ps.map λk=>(es.getD k (0,.none)).2).Perm (es.toList.map (·.2)):=by
 refine(b.map _).trans ?_;have e:(Y7 es.size).map (λk=>(es.getD k (0,.none)).2)=es.toList.map (·.2):=by
  apply List.ext_getElem?;intro i;rw[UI,UI];by_cases a:i<es.size
  ·rw[List.getElem?_range a];simp[Z6,a]
  ·rw[Vp (by simp;lia),Vp (by simp;lia)];rfl
 rw[e]
theorem Js {us:Uq} (R:A.handled=none) (hS:l3 P w (jR w) s.heap a us)
  (h:∀(I:Za) (vs:WF) (h':Heap) (d:Drawn) (fp:Uz) (St:Nat->Heap->Prop),(∀b o,s.heap.get? b=some o->h'.get? b=some o)->(∀b∈fp,b=a\/s.heap.objs.size<=b)->s.heap.objs.size<=I->vs.length=us.length->(∃us':Uq,us'.Perm us/\aQ (us'.map V.str) vs) ->
   Walks P w A I fp [I] vs.length (λi v=>vs[i]? = some v) St->St 0 h'->Q (.ref I) { s with heap:=h',drawn:=d }) :
  Zh (model P w) A (pyIter (.ref a)) Q E s:=by
 obtain⟨o,es,ep,t,H,L,O,_,q,M,hl,hp,hs,Z⟩:=id hS;have g:SAt s.heap a es ep t:=⟨⟨o,H,L,O⟩,M⟩;have hT:s.TypeIs (.ref a) "set" :=⟨o,H,L.1⟩;have S:es.size=us.length:=by
  have:=Z.length_eq;rw[UA,UZ]at this;exact this
 have j:∀vs:WF,vs.Perm (es.toList.map (·.2))->vs.length=us.length/\∃us':Uq,us'.Perm us/\aQ (us'.map V.str) vs:=λvs y=>by
  refine⟨by rw[y.length_eq,UA,UZ,S],vs.map wV,((y.map wV).trans (by rw[Vc];exact Z)),?_⟩;have gf:∀v∈vs,∃x tk,v = .str x tk:=λv Y=>by
   obtain⟨e,he,rfl⟩:=UE.mp (y.mem_iff.mp Y);exact hs e he
  clear y
  induction vs with
  | nil=>exact .nil
  | cons v r ih=>
   obtain⟨x,tk,rfl⟩:=gf v (.head _);exact .cons ⟨tk,rfl⟩ (ih λv y=>gf v (.tail _ y))
 refine wpAny_pyIter_slot hT PySem.F.slot_set_iter (wpAny_call_entry PySem.F.slot_set_iter hT SF.vw ?_ (PySem.F.args_set_iter_1 _));unfold Builtin.«frozenset.__iter__»;refine Xw (Xv ?_);refine Xw (m:=Builtin.Frozenset.sizeOf a) (Xw (eO g (Xv ?_)));refine Xw (A0 g ?_);dsimp only;have u:a<s.heap.objs.size:=Y2 H;by_cases l:(!jR w && (!t.plain && decide (es.size > 1)))=true
 ·rw[Zn l];refine Xw (lR es.size _ s (by simp) λC d n=>?_);refine Xw (wpAny_newTuple ?_ (by rw[UA,n.length_eq,VN,sizeLine_eq];unfold scanBound at q;lia));have B:(s.heap.push { cls:=.type "tuple",data:=.seq (C.map λ(i:Nat)=>rawInt i).toArray }).get? s.heap.objs.size=some { cls:=.type "tuple",data:=.seq (C.map λ(i:Nat)=>rawInt i).toArray }:=Y3 _ rfl;generalize hh1:s.heap.push { cls:=.type "tuple",data:=.seq (C.map λ(i:Nat)=>rawInt i).toArray }=h1 at B ⊢;have U:∀b o,s.heap.get? b=some o->h1.get? b=some o:=λb o e=>by rw[<-hh1];exact Xu _ e
  have Ss:SAt h1 a es ep t:=eX g (U a);have N:h1.objs.size=s.heap.objs.size+1:=by rw[<-hh1,YZ]
  refine Xw (wpAny_setEpoch_of (s:={ s with heap:=h1,drawn:=d }) (U a o H) O M ?_);refine Xw (wpAny_newObj_type ?_ (by size_fits));have f:(h1.push (mQ (.ref s.heap.objs.size) (0:Nat) a es.size ep)).get? h1.objs.size=some (mQ (.ref s.heap.objs.size) (0:Nat) a es.size ep):=Y3 _ rfl;have p:∀b o,h1.get? b=some o->(h1.push (mQ (.ref s.heap.objs.size) (0:Nat) a es.size ep)).get? b=some o:=λb o e=>Xu _ e;obtain⟨D,K⟩:=j _ (Dn n);have c:(C.map λk=>(es.getD k (0,Value.none)).2).length=es.size:=by rw[UA,n.length_eq,VN]
  have W:=CC (P:=P) (w:=w) (A:=A) (it:=h1.objs.size) (a:=a) (T:=s.heap.objs.size) (ep:=ep) (tb:=t) R (U2 (by rw[N];exact WT u)) (U2 (by rw[N];exact Wl _)) n (oT:={ cls:=.type "tuple",data:=.seq (C.map λ(i:Nat)=>rawInt i).toArray }) rfl;rw[<-c]at W;refine Xv ⟨_,rfl,"set_iterator",_,⟨_,f,rfl⟩,SF.slot_next.lookup,?_⟩;refine h h1.objs.size _ _ d [h1.objs.size,a,s.heap.objs.size] _ (λb o e=>p b o (U b o e)) (λb q=>?_) (by rw[N];exact VX _) D K W ⟨?_,eX Ss (p a),p _ _ B⟩
  ·simp only[UR,VI,or_false]at q;rcases q with e | e | e
   ·exact .inr (by rw[e,N];exact VX _)
   ·exact .inl e
   ·exact .inr (by rw[e];exact UD _)
  ·rw[c];exact f
 ·rw[Zo l];refine Xw (Xv ?_);refine Xw (wpAny_setEpoch_of H O M ?_);refine Xw (wpAny_newObj_type ?_ (by size_fits));have f:(s.heap.push (mQ (.int (0:Nat) 0) (0:Nat) a es.size ep)).get? s.heap.objs.size=some (mQ (.int (0:Nat) 0) (0:Nat) a es.size ep):=Y3 _ rfl;have p:∀b o,s.heap.get? b=some o->(s.heap.push (mQ (.int (0:Nat) 0) (0:Nat) a es.size ep)).get? b=some o:=λb o e=>Xu _ e;refine Xv ⟨_,rfl,"set_iterator",_,⟨_,f,rfl⟩,SF.slot_next.lookup,?_⟩;have J:∀b∈[s.heap.objs.size,a],b=a\/s.heap.objs.size<=b:=λb q=>by
   simp only[UR,VI,or_false]at q;rcases q with e | e
   ·exact .inr (by rw[e];exact UD _)
   ·exact .inl e
  cases hbt:jR w with
  | true=>
   have G:(pickOrder (w.params.setOrder a ep) es).toList.Perm es.toList:=by
    have:=nM (w.params.setOrder a ep) es.size 0 es.toList #[] (by simp);unfold pickOrder;simpa using this
   obtain⟨D,K⟩:=j _ (G.map (·.2))
   have c:((pickOrder (w.params.setOrder a ep) es).toList.map (·.2)).length=es.size:=by rw[UA,G.length_eq,UZ]
   have W:=F3 (P:=P) (w:=w) (A:=A) (it:=s.heap.objs.size) (a:=a) (ep:=ep) (es:=es) (tb:=t) R (U2 u) hbt;rw[<-c]at W;refine h s.heap.objs.size _ _ s.drawn [s.heap.objs.size,a] _ p J (UD _) D K W ⟨?_,eX g (p a)⟩;rw[c];exact f
  | false=>
   have h1:es.size<=1:=by
    rcases Vs 1 es.size with z | z
    ·have X:us≠[]:=λe=>by rw[e]at S;rw[S]at z;exact absurd z (by decide)
     rw[hbt,hp X]at l;simp at l;lia
    ·exact z
   obtain⟨D,K⟩:=j _ (Z8 _);have c:(es.toList.map (·.2)).length=es.size:=by rw[UA,UZ]
   have W:=F6 (P:=P) (w:=w) (A:=A) (it:=s.heap.objs.size) (a:=a) (ep:=ep) (es:=es) (tb:=t) R (U2 u) hbt (by rw[hl,hbt];rfl) h1 M;rw[<-c]at W;refine h s.heap.objs.size _ _ s.drawn [s.heap.objs.size,a] _ p J (UD _) D K W ⟨?_,eX g (p a)⟩;rw[c];exact f
theorem HG {r:Za}{Q:Bool->Xx->Prop} (hT:s.TypeIs (.ref r) "set") (h:Q false s):Zh (model P w) A (Builtin.List.listLengthHint (.ref r)) Q E s:=by
 unfold Builtin.List.listLengthHint;refine Xw (wpAny_specialOf hT PySem.F.slot_set_len.lookup ?_);generalize hid:("set.__len__" : String)=id0
 wp_delta
 have a:splitId id0=some ("set","__len__"):=by subst hid;decide +kernel
 rw[a];subst hid;refine Xw (wpAny_isInstance (T:= "set") (b:=true) hT (by rw[isSubtype_type];kernel_rfl) ?_);refine wpAny_ite_split (λz=>absurd z (by decide)) λ_=>?_;refine wpAny_ite_split (λ_=>?_) λz=>absurd (by decide +kernel) z;exact Xw (wpAny_typeOf hT (Xv h))
theorem Bz {us:Uq}{R:WF->Xx->Prop} (hh:A.handled=none) (hS:l3 P w (jR w) s.heap a us) (hn:us.length<=Zg)
  (h:∀(h':Heap) (tk:Nat) (d:Drawn) (vs:WF) (us':Uq),(∀b o,s.heap.get? b=some o->h'.get? b=some o)->us'.Perm us->aQ (us'.map V.str) vs->R vs { s with heap:=h',toks:=tk,drawn:=d }) :
  Zh (model P w) A (collect (.ref a)) R E s:=by
 obtain⟨o,_,_,_,Q,u,_⟩:=id hS;have l:a<s.heap.objs.size:=Y2 Q;unfold collect;refine Xw (wpAny_runValue (codeAny_builtin entry_proto_collect' ?_));rw[Yg PySem.F.plain_proto_collect _];refine Xw (m:=newList []) (wpAny_newList ?_ (UU _));have oS:(s.heap.push (seqObj "list" #[] 0)).get? s.heap.objs.size=some (seqObj "list" #[] 0):=Y3 _ rfl;have r:∀b o,s.heap.get? b=some o->(s.heap.push (seqObj "list" #[] 0)).get? b=some o:=λb o e=>Xu _ e;have y:(s.heap.push (seqObj "list" #[] 0)).objs.size=s.heap.objs.size+1:=YZ _ _;refine Xv ⟨plainId_quiet PySem.F.plain_list_iadd _,codeAny_builtin entry_list_iadd' ?_⟩;rw[Yg PySem.F.plain_list_iadd _];show Zh _ _ (Yy (.ref s.heap.objs.size) (.ref a) (.ref s.heap.objs.size)) _ _ { s with heap:=s.heap.push (seqObj "list" #[] 0) };generalize s.heap.push (seqObj "list" #[] 0)=h1 at oS r y ⊢;have T:l3 P w (jR w) h1 a us:=hS.keep (r a);have H:Shared.TypeIs { s with heap:=h1 } (.ref a) "set" :=⟨o,r a o Q,u.1⟩;generalize hd1:s.heap.objs.size=S at oS y l ⊢;have n:S≠a:=Wj l;unfold Yy;refine Xw (wpAny_typeOf H ?_);have e1:YY (.ref S) (.ref a)=false:=by simp[YY,n]
 have e2:(Value.type "set" == Value.type "list")=false:=by decide
 have e3:(Value.type "set" == Value.type "tuple")=false:=by decide
 simp only[e1,e2,e3,Bool.or_false,Ve,if_false];refine Xw (Js (s:={ s with heap:=h1 }) (show A.in1.handled=none from hh) T λI vs G d fp St N O hI U L W st=>?_);obtain⟨us',X,Y⟩:=L;have D:S<I:=by rw[y]at hI;exact hI
 have j:S∉fp:=λz=>(O S z).elim n λz=>absurd z (by rw[y];exact Nat.not_succ_le_self _);have p:=N S _ oS;have C:∀(k:Heap) (c tk:Nat),St 0 k->(∀b o,b≠S->G.get? b=some o->k.get? b=some o)->k.get? S=some (seqObj "list" #[] c) ->
   codeAny (model P w) A (.builtin "list.extend.loop" ⟨[.ref S,.ref I,.ref S],[]⟩) (λq t=>∃(h':Heap) (tk:Nat) (acc:Uy) (c':Nat),q = .ok (.ret (.ref S))/\t = { s with heap:=h',toks:=tk,drawn:=d }/\(∀b o,s.heap.get? b=some o->h'.get? b=some o)/\h'.get? S=some (seqObj "list" acc c')/\acc.toList=vs) { s with heap:=k,toks:=tk,drawn:=d }:=λk c tk K B o3=>by
  refine codeAny_extend_loopS W.toS (by rw[U];exact hn) S j (.ref S) vs.length 0 _ #[] c rfl (UU _) K o3 (ItemsOf.nil _) λt acc c' hm M cL=>?_;rw[Moved.eq_with hm];refine⟨t.heap,t.toks,acc,c',rfl,rfl,λb o e=>?_,M,?_⟩
  ·have g:b<S:=by rw[<-hd1];exact Y2 e
   refine hm.heap b o (λz=>?_) (B b o (U2 g) (N b o (r b o e)));rcases UR.mp z with z | z
   ·exact absurd z (U2 g)
   ·exact absurd (UG.mp z) (U2 (Wk g D))
  ·apply List.ext_getElem?;intro i;rw[Vn];cases q:acc[i]? with
   | none=>
    have:=Array.getElem?_eq_none_iff.mp q;rw[cL.1]at this;exact(Vp this).symm
   | some v=>exact(cL.2 i v q).symm
 refine Xw (Xr (HG ⟨o,N a o (r a o Q),u.1⟩ ?_));rw[Zn (by decide)];refine Xw (wpAny_rule ?_);have Z:=get?_update_seq p λ(f:Uy)=>f.push Value.none;have u2:=get?_update_seq Z λ(f:Uy)=>f.pop;refine Xw (m:=Builtin.List.listTouch _) ?_;unfold Builtin.List.listTouch;refine Xw (listUpdate_at p rfl ?_ (UU _) (by show 1<=_;rw[sizeLine_eq];lia));refine listUpdate_at Z rfl ?_ (by show 1<=_;rw[sizeLine_eq];lia) (UU _);have B:∀b o,b≠S->G.get? b=some o->((G.update S (Y8 λf=>f.push Value.none)).update S (Y8 λf=>f.pop)).get? b=some o:=λb o x e=>(Yu _ _ (YR x)).trans ((Yu _ _ (YR x)).trans e);refine Xv ⟨plainId_quiet PySem.F.plain_extend_loop _,codeAny_mono (C _ _ s.toks (W.frame 0 _ _ st λb x o e=>B b o (λz=>j (z ▸ x)) e) B u2) λq t hq=>?_⟩;obtain⟨h',tk,acc,c',rfl,rfl,hk,J,hv⟩:=hq;refine Xw (wpAny_load J (Xv ?_));subst hv;exact h h' tk d acc.toList us' hk X Y
def UpS (ms:Uq):Prop:=ms.Pairwise λx y=>ltv (.str y) (.str x)=false
def HQ (X:Cx) (f:Xy) (r:Uq->Hp->VK->Prop):Prop:=
 ∀(pins:List (Za×Obj)) (s:Xx) (σ:St) (H:Hp) (D:Za) (us:Uq) (Q:VK),Inv X pins σ H s->l3 X.prog X.w (jR X.w) s.heap D us->r us H Q->Zh (model X.prog X.w) X.A (call f [.ref D]) (EP X pins σ Q) X.xe s
def tFS (r:Uq->Hp->VK->Prop) (t:TA):TE:=λσ H Q=>t σ H λvs H1=>∃a zs,vs=[.ref a]/\Rd H1 a (.lst (zs.map V.str))/\zs.length<4000/\r (fA [] zs) H1 Q
section
variable {p q:Pos}{id:String}{r:Uq->Hp->VK->Prop}
theorem Inv.MV {tk:Nat}{d:Drawn} (I:Inv X pins σ H s) (k:∀b o,s.heap.get? b=some o->h'.get? b=some o):Inv X pins σ H { s with heap:=h',toks:=tk,drawn:=d }:=by
 have J:=I.kept (t':=tk) k;exact⟨J.ok,J.os,J.bare,J.base,J.loc,J.cell,J.free,J.lT,J.pin,J.hok,J.len⟩
theorem y3 (K:HQ X (.builtin id) r) (E:X.calm=true) (S:Gl X x) (G:X.mg x=none) (F:bootBuiltins x=some (.builtin id)) (g:Gl X y) (z:X.mg y=none) (l:bootBuiltins y=some (.type "set")) (C:PA X [e] t)
  (O:x ≠ "__name__" :=by decide) (i:(x == ("__debug__" : Str))=false:=by decide) (m:y ≠ "__name__" :=by decide) (R:(y == ("__debug__" : Str))=false:=by decide)
  (A:Zi [Expr.Call (.Name y q) [e] [] wF] X.env=(false,eval (Expr.Call (.Name y q) [e] [] wF) X.env)::Zi [] X.env:=by rfl) (o:Zi [e] X.env=(false,eval e X.env)::Zi [] X.env:=by rfl) :
  PE X (.Call (.Name x p) [.Call (.Name y q) [e] [] wF] [] pos) (tFS r t):=by
 intro b s j H Q I h;refine wpAny_Call_Name_kw (fm I S G F ?_ O i);refine PyProof.Rows.callWith_builtin1 ?_ A rfl;rw[A];refine YD (thn (Q:=λv f=>∃D us H1,v = .ref D/\Inv X b j H1 f/\l3 X.prog X.w (jR X.w) f.heap D us/\r us H1 Q) ?_ λv f ⟨D,us,H1,J,c,hS,d⟩=>?_)
 ·refine wpAny_Call_Name_kw (fm I g z l ?_ m R);refine Ym (thn (C wF b s j H _ I h) λus _ ⟨_,H1,c,L,d⟩=>?_) o rfl;obtain⟨a,_,rfl,N,_,d⟩:=d;obtain⟨u,rfl,P⟩:=L.one;cases P;obtain⟨_,_,n,B,M⟩:=N.ok c.hok;have T:=B.length;rw[UA]at T;refine wx (c.ok.hd E) ⟨_,M,rfl,n,rfl⟩ B (by rw[UN];unfold scanBound;lia) λ_ _ hS k=>?_;exact⟨_,_,H1,rfl,c.MV k,hS,d⟩
 ·subst J;exact YU (K b f j H1 D us Q c hS d)
end
theorem ue:∀{ns:Uq}{us:WF},aQ (ns.map V.str) us->∀v∈us,∃i t,v=Value.str i t
 | [],_,r,v,hv=>by rw[VQ]at r;cases r;cases hv
 | n::ns,_,r,v,hv=>by
  rw[UW]at r;cases r with
  | cons h t=>
   obtain⟨a,rfl⟩:=h;rcases UR.mp hv with e | e
   ·exact⟨n,a,e⟩
   ·exact ue t v e
theorem Dt (f:aQ (ns.map V.str) us) (s':Xx) (G:Array Nat->Xx->Prop) (h2:2<=us.length)
  (h:∀p:Array Nat,p.toList.Perm (Y7 us.length)->(∀i j,i<=j->j<us.length->ltv ((ns.map PyData.str).getD (p.getD j 0) .none) ((ns.map PyData.str).getD (p.getD i 0) .none)=false)->G p s') :
  Zh (model P w) A (keyKind' us.toArray) (λκ s''=>(kas_sort us.length).kasWp (kas_ask P w A κ us) G s'') (λ_ _=>False) s':=by
 refine kas_kind (T:=.type "str") h2 (λv x=>?_) (by decide) (by decide) ?_
 ·obtain⟨i,t,rfl⟩:=ue f v x;exact .of_pure rfl
 have E:us.length=ns.length:=by rw[<-f.length,UA]
 have o:=Sh.ok .str;have g:∀i,i<us.length->(ns.map PyData.str).getD i .none = .str (ns.getD i Yh):=λi b=>by
  have c:i<ns.length:=by lia
  simp[US,c]
 have a:∀i,i<us.length->Sh.str.has ((ns.map PyData.str).getD i .none):=λi b=>⟨_,g i b⟩;refine DM (n:=us.length) (lt:=λi j=>ltv ((ns.map PyData.str).getD i .none) ((ns.map PyData.str).getD j .none)) (P:=λs''=>s'' = s') ⟨λi b=>o.irr _ (a i b),λi j k b d u q=>o.neg (a i b) (a j d) (a k u) q,λi j b d q=>o.asymm (a i b) (a j d) q⟩
  (λi j C s'' b d e q=>?_) (by lia) rfl λp s'' e y B=>by subst e;exact h p y B
 subst e;show Zh (model P w) A (keyLt' oneType' (us.getD i .none) (us.getD j .none)) C (λ_ _=>False) s'';have m:=jV f i;have s:=jV f j;have r:=q s'' rfl;rw[g i b,g j d]at r;have l:∀i,i<us.length->(ns.map V.str).getD i .non = .str (ns.getD i Yh):=λi b=>by
  have c:i<ns.length:=by lia
  simp[US,c]
 rw[l i b]at m;rw[l j d]at s;obtain⟨_,D⟩:=m;obtain⟨_,z⟩:=s;rw[D,z,keyLt'_oneType];exact oneLt_str r
theorem Gh {p:List Nat} (h:p.Perm (Y7 ns.length)):(p.map λi=>ns.getD i Yh).Perm ns:=by
 have e:=iu ns Yh;exact(h.map λi=>ns.getD i Yh).trans (by rw[e])
def OC:Uq->Hp->VK->Prop:=λus H Q=>us.length<64/\∀(D:Za) (ms:Uq),H D=none->ms.Perm us->UpS ms->Q (.ref D) (upd H D (.lst (ms.map V.str)))
theorem qo {k:Nat} (M:X.calm=true) (R:bM k X.A):HQ X (.builtin "sorted") OC:=by
 intro c s E H S us Q I hS h;obtain⟨_,q⟩:=h
 (refine Calls.call_function_entry kind_sorted plain_sorted entry_sorted (args_sorted1 _) ?_)
 unfold Builtin.«sorted»
 (refine Xw (m:=checkCount "sorted" 1 1 _) (Xv ?_))
 refine Xw (Bz (A:=X.A.in1) (show X.A.in1.handled=none from I.ok.hd M) hS (by rw[sizeLine_eq];lia) λh1 t d a us' y C v=>?_);have u:us'.length=us.length:=C.length_eq;have x:a.length=us'.length:=by rw[<-v.length,UA]
 (refine Xw (wpAny_newList ?_ (by rw[x,u,sizeLine_eq];lia)))
 have z:Inv X c E H { s with heap:=h1,toks:=t,drawn:=d }:=I.MV y;have f:(h1.push (seqObj "list" a.toArray 0)).get? h1.objs.size=some (seqObj "list" a.toArray 0):=Y3 _ rfl;have g:∀b o,s.heap.get? b=some o->(h1.push (seqObj "list" a.toArray 0)).get? b=some o:=λb o e=>Xu _ (y b o e);show Zh _ _ (_ >>= λ_=>_) _ _ { s with heap:=h1.push (seqObj "list" a.toArray 0),toks:=t,drawn:=d };generalize h1.push (seqObj "list" a.toArray 0)=h2 at f g ⊢;have K:Inv X c E H { s with heap:=h2,toks:=t,drawn:=d }:=I.MV g;have j:H h1.objs.size=none:=z.hok.fresh (UD _);have F:cA X c H h1.objs.size:=z.tM (UD _) j;generalize h1.objs.size=D at f j F ⊢
 (refine Xw (Xr (wpAny_call_entry slot_list_sort ⟨_,f,rfl⟩ entry_list_sort ?body (args_list_sort _))))
 case body=>
  refine GC (s:={ s with heap:=h2,toks:=t,drawn:=d }) (ds:=us'.map PyData.str) K f F v (λO G _ h2 J=>Dt v O G h2 J) (by lia) λp _ l w B=>?_;refine⟨_,rfl,Xv ⟨_,rfl,?_⟩⟩;rw[UA]at l;have r:∀i∈p,i<us'.length:=λi n=>by have:=l.mem_iff.mp n;simpa using this
  have N:picked (us'.map V.str) p=(p.map λi=>us'.getD i Yh).map V.str:=by
   unfold picked;rw[Vc];refine U5 λi n=>?_;simp[US,r i n]
  have P:(p.map λi=>(us'.map PyData.str).getD i .none)=(p.map λi=>us'.getD i Yh).map PyData.str:=by
   rw[Vc];refine U5 λi n=>?_;simp[US,r i n]
  have L:UpS (p.map λi=>us'.getD i Yh):=by
   unfold fW at w;rw[P,VD]at w;exact w
  rw[N]at B;exact⟨.ref _,_,B,rfl,q _ _ j ((Gh l).trans C) L⟩
def P7:Uq->Hp->VK->Prop:=λus H Q=>Q (.int us.length) H
theorem Fw:HQ X (.builtin "len") P7:=by
 intro _ s _ H S g Q I hS h;obtain⟨o,_,_,t,i,a,b,_,c,d,_,_,_,f⟩:=id hS;have e:=f.length_eq;rw[UA,UZ]at e;exact call_len_set i a b d (by unfold scanBound at c;lia) ⟨.int g.length,H,I.tok _,⟨_,by rw[e]⟩,h⟩
end
def kD (k:Int×Str):Zf:=.tuple [.int k.1,.str k.2]
section
variable {p q:Pos}
end
section
open PySem.W
abbrev Nk (X:Cx) (qual:Str) (scope:Scope) (q:Za) (cd:Xy) (L:Za):Env:=envX qual scope L q cd (gQ X.env.cells scope.names [])
def DZ (X:Cx) (N':Uq) (qual:Str) (scope:Scope) (q:Za) (cd:Xy) (s:Xx) (H:Hp):Cx where
 prog:=X.prog
 w:=X.w
 K:=X.K
 mg:=X.mg
 base:=X.base
 A:=X.A.in1.deeper (Nk X qual scope q cd s.heap.objs.size)
 N:=N'
 s₀:=s
 H₀:=H
 env:=Nk X qual scope q cd s.heap.objs.size
 outer:=X.stack
 stack:=Nk X qual scope q cd s.heap.objs.size::X.stack
 ex:=[]
 calm:=true
 fn:=λ_=>false
 pn:=[]
 xe:=λ_ _=>False
structure zg (X:Cx) (scope:Scope) (N':Uq) (y:Str) (fi:List Nat):Prop where
 kind:scope.kind = .function
 co:scope.isCoroutine=false
 gen:scope.isGenerator=false
 Jr:∀x∈scope.names,x.2 ≠ .cell
 par:scope.names.lookup y=some .local
 free:∀z∈scope.names,z.2 = .free->X.env.kindOf z.1=some .cell\/X.env.kindOf z.1=some .free
 hd:N'[0]? = some y
 len:N'.length=fi.length+1
 at':∀(j:Nat) (k:Nat),fi[j]? = some k->∃x,N'[j+1]? = some x/\X.N[k]? = some x/\scope.names.lookup x=some .free
def JX (v:V) (fi:List Nat) (σ:St):St:=some v::fi.map λk=>(σ[k]?).join
theorem mj {x:Str}:∀{l:List (Str×NameKind)},l.lookup x=some .free->(x,NameKind.free)∈l
 | [],e=>by cases e
 | (n',q)::r,e=>by
  rw[Vx]at e;cases hb:x == n' with
  | true=>rw[hb]at e;cases e;rw[beq_iff_eq.mp hb];exact UM
  | false=>rw[hb]at e;exact UJ _ (mj e)
section
variable {q:Za}{tk:Tok}
theorem Le (I:Inv X pins σ H s) (R:X.calm=true) (S:zg X scope N' y fi) (M:RelV v u) (E:h'.Ns s.heap.objs.size (λx=>[(y,u)].reverse.lookup x)) (r:∀b o,s.heap.get? b=some o->h'.get? b=some o) :
  Inv (DZ X N' qual scope q cd s H) [] (JX v fi σ) H { s with heap:=h',toks:=tk }:=by
 have g:=I.Gq.in1;have sub:∀{x:Str}{c:Za},(gQ X.env.cells scope.names []).lookup x=some c->X.env.cells.lookup x=some c:=λ{x c} h=>qy _ _ (λ_ _ z=>by cases z) h;have n:∀{x:Str},(x,NameKind.free)∈scope.names->∃d,(gQ X.env.cells scope.names []).lookup x=some d:=λ{x} m=>pL _ _ (.inr ⟨m,I.ok.has _ (S.free _ m rfl)⟩);have l:∀b:Za,b∉(DZ X N' qual scope q cd s H).ex:=λb z=>absurd (show b∈([]:Uz)from z) (by simp);refine⟨⟨g.mod,S.kind,rfl,rfl,UD _,λx z c B t=>?_,λx f=>?_,λx c f _=>?_,λ_=>I.ok.hd R,Around.frames_deeper g.frames,.inr ⟨rfl,rfl⟩,λb z=>absurd z (l b),g.bs,g.bsz,λb _ _=>l b,λb z=>absurd z (l b),g.qF,g.frf⟩,
  rfl,g.bare,Un.kept r,⟨_,E,λi x w B t _=>?_⟩,λx c h=>?_,g.hok.fresh (UD _),λx c h=>?_,λp N=>absurd (show p∈([]:List (Za×Obj))from N) (by simp),g.hok.kept r,?_⟩
 ·exact I.ok.inj x z c (sub B) (sub t)
 ·have f:scope.names.lookup x=some .cell\/scope.names.lookup x=some .free:=f;rcases f with f | f
  ·exact absurd rfl (S.Jr _ (Yq f))
  ·exact n (mj f)
 ·have f:false=true:=f;cases f
 ·cases i with
  | zero=>
   have e:N'[0]? = some x:=B;rw[S.hd]at e;cases e;have a:some (some v)=some (some w):=t;cases a;exact⟨u,M,.inl ⟨S.par,by simp⟩⟩
  | succ j=>
   have a:(fi.map λk=>(σ[k]?).join)[j]? = some (some w):=t;rw[UI]at a;cases ek:fi[j]? with
   | none=>rw[ek]at a;cases a
   | some k=>
    rw[ek]at a;have A:(σ[k]?).join=some w:=Ye a;have F:σ[k]? = some (some w):=by
     cases z:σ[k]? with
     | none=>rw[z]at A;cases A
     | some _=>rw[z]at A;exact congrArg some A
    obtain⟨_,W,Y,J⟩:=S.at' j k ek;have e:N'[j+1]? = some x:=B;rw[W]at e;cases e;have m:=mj J;have K:=S.free _ m rfl;have D:Vis X.env.scope x:=K.elim (λz=>.inr (.inl z)) λz=>.inr (.inr z);obtain⟨_,_,C⟩:=I.loc;obtain⟨U,V,O⟩:=C k x w Y F D;refine⟨U,V,.inr ⟨.inr J,?_⟩⟩;rcases O with⟨Q,_⟩ | ⟨_,c,L,T⟩
    ·rcases K with z | z <;> (rw[show X.env.kindOf x=_ from Q]at z;cases z)
    ·obtain⟨d,G⟩:=n m;have:=sub G;rw[L]at this;cases this;exact⟨c,G,T.keeps r⟩
 ·obtain⟨z,P⟩:=I.cell x c (sub h);exact⟨z,P.keeps r⟩
 ·exact I.lT x c (sub h)
 ·show(JX v fi σ).length=N'.length;rw[S.len];simp[JX]
def sm (c:Za) (qual:Str):HO:=.ext λh=>h.CodeRec (.ref c) qual
def Hf (te:TE) (fi:List Nat) (σ:St) (c:Za) (qual:Str):Sp:=λvs H Q _=>∃v,vs=[v]/\H c=some (sm c qual)/\te (JX v fi σ) H Q
theorem F0 {k:Nat}{a:Arguments}{c:Expr}{B f:Xy}{g:Za} (L:X.calm=true) (M:bM (k+1) X.A) (S:zg X scope N' y fi)
  (N:(q,kla_obj name qual a c scope (gQ X.env.cells scope.names []) B g f)∈pins)
  (D:∀w,bindArgs (kla_fn name qual a c scope (gQ X.env.cells scope.names []) B (.ref g) f) ⟨[w],[]⟩=pure [(y,w)])
  (C:∀s H,PE (DZ X N' qual scope q (.ref g) s H) c te):xq X pins σ q (Hf te fi σ g qual):=by
 intro i H s x u Q I E h;obtain⟨v,e,t,h⟩:=h;cases e;have n:=λp G=>(I.pin p (U8 _ (V3 _ G))).1;refine kla_callFunE M.in1.depth (n _ N) rfl S.co S.gen rfl (I.hok _ _ t).1 ?_;show Zh _ _ (bindArgs (kla_fn name qual a c scope (gQ X.env.cells scope.names []) B (.ref g) f) ⟨[u],[]⟩) _ _ _;rw[D];refine Xv (wpAny_newFunctionEnv S.Jr (λz K=>by rw[UG.mp K];exact S.par) (λj r m=>?_) S.kind);have d:∀b o,s.heap.get? b=some o->j.get? b=some o:=λb o e=>m.extBut b o (U2 (Y2 e)) (Xu _ e);refine⟨I.nolimit.keeps d,?_⟩;refine kla_codeExpr (Xs (C s H [] _ _ H Q (Le (pins:=pins++i) (σ:=σ) I L S E r d) h) (λ_ _ z=>?_) λ_ _ z=>z.elim);obtain⟨w,F,J,l,qw⟩:=z;exact⟨w,F,J.os,J.bare,J.base,J.hok,l,qw⟩
theorem JI (x:h.CodeRec (.ref c) qual):cg P w H h c (sm c qual):=by
 refine⟨x,?_,λ_ _ a k=>?_⟩
 ·obtain⟨d,o,b,t,e,g,r⟩:=x;cases e;exact⟨o,g⟩
 ·obtain⟨d,o,b,t,e,g,r⟩:=a;cases e;exact⟨c,o,b,t,rfl,k _ g,r⟩
theorem Inv.grown {P c':Za}{ps a:Uy}{t':Tok} (I:Inv X pins σ H s) (f:H P=some (.tbl ps)) (i:Heap.ExtBut P s.heap h') (v:s.heap.objs.size<=c') (t:h'.get? P=some (tabObj (ps++a))) (D:h'.CodeRec (.ref c') qual) :
  Inv X pins σ (upd (upd H P (.tbl (ps++a))) c' (sm c' qual)) { s with heap:=h',toks:=t' }:=by
 have h:H c' = none:=I.hok.fresh v;have p:P≠c':=aw f h;have hPl:P≠X.env.locals:=aw f I.free;have at_:∀b,b≠P->b≠c'->upd (upd H P (.tbl (ps++a))) c' (sm c' qual) b=H b:=λb d w=>by rw[ap w,ap d]
 have x:∀{b:Za}{o:Obj},s.heap.get? b=some o->b≠c':=λ{b o} e z=>by
  have:=Y2 e;rw[z]at this;exact absurd (U7 this v) (Vv _)
 have j:∀{b:Za},H b=none->b≠P:=λ{b} e z=>by rw[z,f]at e;cases e
 refine I.step (g':=s.gens) (d':=s.drawn) (ch:=[]) (λb z=>absurd z (by simp)) (λb o _ _ _ e n=>i b o (j n) e) (λb o _ _ _ e n=>⟨o.slots,i b o (j n) e⟩) (λb o _ e n=>?_) (λb o _ e=>?_) (λb A e=>?_) (λb o u e=>?_) (λb _ e=>?_) (λm y=>?_) ?_ I.bare
 ·rw[at_ b (j n) (x e)];exact n
 ·by_cases g:b=P
  ·exact⟨_,by rw[g];exact t⟩
  ·exact⟨o,i b o g e⟩
 ·have d:b≠P:=nn e f
  rw[at_ b d (aw e h)];exact e
 ·have d:b≠P:=nn e f
  rw[at_ b d (aw e h)];exact e
 ·by_cases g:b=P
  ·subst g;rw[f]at e;cases e;exact⟨a,by rw[ap p,ab]⟩
  ·exact⟨#[],by rw[at_ b g (aw e h),e];simp⟩
 ·obtain⟨o,B,C,e,r⟩:=y;exact⟨o,B,C,i _ _ (YR hPl) e,r⟩
 ·intro b u e;by_cases g:b=c'
  ·subst g;rw[ab]at e;cases e;exact JI D
  ·rw[ap g]at e;by_cases k:b=P
   ·subst k;rw[ab]at e;cases e;exact t
   ·rw[ap k]at e;refine(I.hok b u e).yY (λc o l q=>i c o ?_ q) (λc q=>?_) λc A q=>?_
    ·rintro rfl;rcases l with z | z
     ·exact k z.symm
     ·rw[f]at z;cases z
    ·have d:c≠P:=nn q f
     rw[at_ c d (aw q h)];exact q
    ·have d:c≠P:=nn q f
     rw[at_ c d (aw q h)];exact q
end
def gO (P:Za) (pos:Pos) (qual:Str) (H:Hp):Prop:=∃ps,H P=some (.tbl ps)/\TriplesOk ps.toList/\(codeAmong pos ps.toList=none\/∃c,codeAmong pos ps.toList=some (.ref c)/\H c=some (sm c qual))
def QH (K:Xz) (P:Za) (wD:Pos) (qual:Str) (te:TE) (fi:List Nat) (ta:TA):TE:=λσ H Q=>ta σ H λvs H1=>∃x,vs=[x]/\gO P wD qual H1 /\
 ∀c H2,(H2=H1\/∃ps,H1 P=some (.tbl ps)/\H1 c=none/\H2=upd (upd H1 P (.tbl (ps ++ #[rawInt wD.line,rawInt wD.col,.ref c]))) c (sm c qual))->gO P wD qual H2->H2 c=some (sm c qual)->xD K (Hf te fi σ c qual) x H2 Q
def S9 (X:Cx):Prop:=∃bm o,X.mg "__builtins__" = some (.ref bm)/\bm≠builtinsNs/\bm≠mainGlobals/\X.K.lookup bm=some o/\o.cls = .type "module" /\ o.dict=some builtinsNs/\o.data = .plain
theorem pV {a b:Int}{c:Xy}:∀{l:WF},TriplesOk l->TriplesOk (l++[.int a 0,.int b 0,c])
 | [],_=>trivial
 | .int _ _ :: .int _ _::_::r,h=>pV (l:=r) h
 | .int _ _ :: .int _ _::[],h=>h.elim
 | .int _ _::[],h=>h.elim
theorem Lu {k:Nat}{P:Za}{E:Nat}{p G pos U T l:Pos}{a:Arguments}{d:Expr} (hc:X.calm=true) (hr:bM (k+1) X.A) (S:zg X scope N' y fi)
  (Mg:X.env.code = .ref c) (hC:∀h:Heap,X.K.In h->CodeHd h c P) (hB:S9 X)
  (jX:∀q c' s H,PE (DZ X N' (X.env.qual ++ "<lambda>") scope q (.ref c') s H) d te)
  (hg:Gl X "min") (hm:X.mg "min" = none) (ha:PA X [e] ta)
  (hb:∀cl pm c' ctv w,bindArgs (kla_fn "<lambda>" (X.env.qual ++ "<lambda>") a d scope cl pm (.ref c') ctv) ⟨[w],[]⟩=pure [(y,w)]:=by intros;rfl) (SG:defaultsOf a X.env=([],[]):=by rfl)
  (he:backTo pos (Zi [e] X.env)=(false,eval e X.env)::backTo pos (Zi [] X.env):=by rfl) (i0:(backTo pos (Zi [e] X.env)).any (·.1)=false:=by rfl)
  (gf:(backToKw pos (keywordEach [⟨some "key",.Lambda a d scope G,U⟩,⟨some "default",.Constant .none E T,l⟩] X.env)).all (·.1.isSome)=true:=by rfl) (a4:(backToKw pos (keywordEach [⟨some "key",.Lambda a d scope G,U⟩,⟨some "default",.Constant .none E T,l⟩] X.env)).any (·.1.isNone)=false:=by rfl) :
  PE X (.Call (.Name "min" p) [e] [⟨some "key",.Lambda a d scope G,U⟩,⟨some "default",.Constant .none E T,l⟩] pos) (QH X.K P G (X.env.qual ++ "<lambda>") te fi ta):=by
 intro f s r H Q I h;refine wpAny_Call_Name_kw (fm I hg hm ID ?_);refine callWith_kw (thn (ha pos f s r H _ I h) λ_ m ⟨_,H1,g,r1,q1⟩=>?_) he i0 gf a4;obtain⟨x,rfl,la,q⟩:=q1;obtain⟨u,rfl,ru⟩:=r1.one;obtain⟨ps,B,V,a7⟩:=id la;have R:m.heap.get? P=some (tabObj ps):=g.hok P _ B;have M:closureFor scope X.env=pure (gQ X.env.cells scope.names []):=vh λz Y C=>g.ok.has _ (S.free z Y C);have F:m.heap.Ns mainGlobals X.mg:=g.mod.glob.keeps g.bk;have gN:H1 mainGlobals=none:=by
  obtain⟨o,_,_,e',_⟩:=g.mod.glob;exact(g.bs _ _ e').2
 have a6:mainGlobals≠P:=nn gN B
 have D:m.heap.BuiltinsAt X.mg P:=by
  obtain⟨bm,o,b1,b2,b3,b4,b5⟩:=hB;have O:=g.mod.kin bm o b4;have:=(g.bs _ _ O).2;exact⟨bm,o,b1,b2,b3,(nn this B),(g.bs _ _ O).1,b5⟩
 have N:∀(c':Za) (ctv:Xy) (j:Heap) (i:Tok) (t:Hp),Inv X f r t { m with heap:=j,toks:=i }->xD X.K (Hf te fi r c' (X.env.qual ++ "<lambda>")) x t Q ->
   Zh (model X.prog X.w) X.A (evalAll ((backToKw pos (keywordEach [⟨some "default",.Constant .none E T,l⟩] X.env)).map (·.2))) (λZ L=>Zh (model X.prog X.w) X.A (call (.builtin "min") [u] (((backToKw pos (keywordEach [⟨some "key",.Lambda a d scope G,U⟩,⟨some "default",.Constant .none E T,l⟩] X.env)).filterMap (·.1)).zip (.ref j.objs.size::Z))) (EP X f r Q) X.xe L) X.xe
    { m with heap:=j.push (kla_obj "<lambda>" (X.env.qual ++ "<lambda>") a d scope (gQ X.env.cells scope.names []) ((X.mg "__name__").getD .none) c' ctv),toks:=i }:=λc' ctv j i t n q2=>by
  refine kws_cons (Constant_none (kws_nil ?_));have W:t j.objs.size=none:=n.hok.fresh (UD _);have I3:Inv X f r t { m with heap:=j.push (kla_obj "<lambda>" (X.env.qual ++ "<lambda>") a d scope (gQ X.env.cells scope.names []) ((X.mg "__name__").getD .none) c' ctv),toks:=i }:=n.kept (s:={ m with heap:=j,toks:=i }) (t':=i) λb o e=>Xu _ e;have I4:Inv X (f++[(j.objs.size,kla_obj "<lambda>" (X.env.qual ++ "<lambda>") a d scope (gQ X.env.cells scope.names []) ((X.mg "__name__").getD .none) c' ctv)]) r t { m with heap:=j.push (kla_obj "<lambda>" (X.env.qual ++ "<lambda>") a d scope (gQ X.env.cells scope.names []) ((X.mg "__name__").getD .none) c' ctv),toks:=i }:=I3.pZ λz Y=>by
   rcases UY.mp Y with w | w
   ·exact I3.pin z (U8 _ w)
   ·rw[UG.mp w];exact⟨Y3 _ rfl,W,Wj n.lt,n.OK (UD _),λv z=>by cases z⟩
  exact thn (uV (F0 (k:=k) hc hr S (U8 _ (UG.mpr rfl)) (hb _ _ _ _) (jX _ _)) hr hc I4 ru q2) λv _ ⟨w,H',J,a5,qw⟩=>⟨w,H',J.i6,a5,qw⟩
 refine kws_cons (kla_eval SG ?_);rcases a7 with hnf | ⟨c',hf,a3⟩
 ·refine kla_makeFunction M g.ok.glob F Mg (hC _ g.kIn) R V hnf a6 D λc' ctv j i C h1 h2 h3 h4=>?_;have W:H1 c' = none:=g.hok.fresh h1;have a0:P≠c':=aw B W;have n:=g.grown (t':=i) B C h1 h4 h3;refine N c' ctv j i _ n (q c' _ (.inr ⟨ps,B,W,rfl⟩) ⟨_,by rw[ap a0,ab],?_,.inr ⟨c',?_,ab⟩⟩ ab)
  ·rw[Wo];exact pV V
  ·rw[Wo];exact codeAmong_snoc _ V hnf
 ·refine kla_makeFunctionHit M g.ok.glob F Mg (hC _ g.kIn) R V hf D λctv j i C h1=>?_;have n:Inv X f r H1 { m with heap:=j,toks:=i }:=g.kept (t':=i) C;exact N c' ctv j i _ n (q c' _ (.inl rfl) la a3)
def P5 (sc osc:Scope) (N N':Uq) (y:Str) (fi:List Nat):Bool:=
 decide (sc.kind = .function) && decide (sc.isCoroutine=false) && decide (sc.isGenerator=false) && decide (∀x∈sc.names,x.2 ≠ .cell) && decide (sc.names.lookup y=some .local)
 && decide (∀z∈sc.names,z.2 = .free->osc.names.lookup z.1=some .cell\/osc.names.lookup z.1=some .free)
 && decide (N'[0]? = some y) && decide (N'.length=fi.length+1)
 && (Y7 fi.length).all λj=>match fi[j]? with
  | some k=>match N'[j+1]? with
   | some x=>decide (N[k]? = some x) && decide (sc.names.lookup x=some .free)
   | none=>false
  | none=>false
theorem ME {c:Scope} (osc:Scope) (N:Uq) (h:P5 c osc N N' y fi=true) (s:X.env.scope=osc:=by rfl) (t:X.N=N:=by rfl):zg X c N' y fi:=by
 subst s t;simp only[P5,Vm,decide_eq_true_eq]at h;obtain⟨⟨⟨⟨⟨⟨⟨⟨o,i⟩,n⟩,f⟩,r⟩,l⟩,p⟩,d⟩,m⟩:=h;refine⟨o,i,n,f,r,l,p,d,λj k b=>?_⟩;have a:j<fi.length:=by
  rcases Vs j fi.length with q | q
  ·exact q
  ·rw[Vp q]at b;cases b
 have g:=U4.mp m j (Vj.mpr a);rw[b]at g;dsimp only at g;cases e:N'[j+1]? with
 | none=>rw[e]at g;cases g
 | some x=>
  rw[e]at g;simp only[Vm,decide_eq_true_eq]at g;exact⟨x,rfl,g.1,g.2⟩
structure NB (K:Xz) (mg:Str->Option Xy) (fd:Zb) (c P:Za):Prop where
 code:fd.code = .ref c
 hd:∀h:Heap,K.In h->CodeHd h c P
 bm:∃bm o,mg "__builtins__" = some (.ref bm)/\bm≠builtinsNs/\bm≠mainGlobals/\K.lookup bm=some o/\o.cls = .type "module" /\ o.dict=some builtinsNs/\o.data = .plain
structure LH (K:Xz) (x qual:Str) (st:Stmt) (f:Za) (fd:Zb):Prop where
 ex:∃(oc:Xy) (od:Option Za) (dV kV doc pm:Xy) (an:Option Za) (cdv ct:Xy) (osl:Array (Option Xy)),
  fd=YC x qual (cO st) (bY st) (ag st) dV kV doc pm an cdv ct/\K.lookup f=some ⟨oc,od,.func fd,osl⟩/\YP K cdv qual=true
 kp:YF K (.ref f)=true
structure Gj (K:Xz) (mg:Str->Option Xy) (x:Str) (st:Stmt) (ps:Uq) (f:Za) (fd:Zb):Prop where
 fn:LH K x x st f fd
 bd:Binds K fd ps []
 mg:mg x=some (.ref f)
theorem Fun.okC {st:Stmt}{k:Nat} (F:Fun K x qual st f fd) (b:fd.code = .ref c) (S:aC N ps (ag st)) (g:∀vs H Q E,sp vs H Q E->vs.length=ps.length)
  (i:∀(A:Zc) (outer:List Env) (s:Xx) (H:Hp) (vs:Uj) (Q:VK) (E:XK),bM k (A.deeper (envOfC qual (ag st) s.heap.objs.size f (.ref c)))->sp vs H Q E ->
   ∃t,PSs (Af CX0 P w K mg base N qual (ag st) f (.ref c) A outer s H E).nox (bY st) t/\t { nx:=λ_ H'=>Q .non H',rt:=Q } (start N vs) H):aB P w K mg base CX0 (k+1) f fd ps sp:=by
 obtain⟨_,_,kV,_,_,_,e,_,_,rfl,j,d⟩:=F.ex;obtain rfl:e = .ref c:=b;refine JH j d S g λA outer s H vs Q E l a=>?_;obtain⟨t,h,q⟩:=i A outer s H vs Q E l a;exact⟨t,h.nox,q⟩
theorem LH.ok {st:Stmt}{k:Nat} (F:LH K x qual st f fd) (S:aC N ps (ag st)) (c:∀vs H Q E,sp vs H Q E->vs.length=ps.length)
  (d:∀(cdv:Xy) (A:Zc) (outer:List Env) (s:Xx) (H:Hp) (vs:Uj) (Q:VK) (E:XK),bM k (A.deeper (envOfC qual (ag st) s.heap.objs.size f cdv))->sp vs H Q E ->
   ∃t,PSs (Af CX0 P w K mg base N qual (ag st) f cdv A outer s H E).nox (bY st) t/\t { nx:=λ_ H'=>Q .non H',rt:=Q } (start N vs) H):aB P w K mg base CX0 (k+1) f fd ps sp:=by
 obtain⟨_,_,_,kV,_,_,_,cdv,_,_,rfl,e,b⟩:=F.ex;refine JH e b S c λA outer s H vs Q E g a=>?_;obtain⟨t,h,q⟩:=d cdv A outer s H vs Q E g a;exact⟨t,h.nox,q⟩
end
section
variable {fs:Uz}{g:Heap}{e:Za}{tb fl:Xy}
end
section
variable {g:Heap}{e:Za}{tb:Xy}{Q:Unit->Xx->Prop}
end
section
variable {g:Heap}{e:Za}{tb:Xy}{fs:Uz}
end
section
variable {E:XK}{np:Pos}{a:Expr}{bmB:WF}
end
section
variable {CX:CXT}{k:Nat}{E:St->XK}{p:Pos}{es:List Expr}
end
def mroIn (K:Xz) (C D:Za):Bool:=match K.lookup C with
 | some ⟨_,_,.cls cd,_⟩=>cd.mro.contains (.ref D)
 | _=>false
section
variable {n:Str}{ts:Za->Za->TS}
end
def J9 (A:Zc) (h:Heap) (ea:Za):Prop:=A.handled=some (.ref ea)/\∃oe vs,h.get? ea=some oe/\oe.data = .fields vs/\vs[2]? = some Value.none
def Hd (X:Cx) (ea:Za):Prop:=∀pins σ H s,Inv X pins σ H s->J9 X.A s.heap ea/\H ea=none
structure Tr (ea:Za) (P:Zd) (w:Ze) (K:Xz) (tg:Expr) (J:It) (fp:Uz) (it:Za) (tn:Nat->Heap->Prop):Prop where
 mem:it∈fp
 obj:∀i h,tn i h->∀b∈fp,∃o,h.get? b=some o/\∀v,o.data ≠ .cell v
 keep:∀i h h',tn i h->(∀b∈fp,∀o,h.get? b=some o->h'.get? b=some o)->tn i h'
 item:∀(X:Cx),X.prog=P->X.w=w->X.K=K->Hd X ea->∀(i:Nat) (pins:List (Za×Obj)) (s:Xx) (σ:St) (H:Hp) (E:Xy->Xx->Prop),Inv X pins σ H s->(∀b∈fp,cA X pins H b)->tn i s.heap->J.go i H ->
  Zh (model P w) X.A (pyNext (.ref it)) (λr s1=>∃u,r=some u /\
   Zh (model P w) X.A (letOwnedTupleGo tg (.ref it) u) (λ_ s2=>∃x H',Inv X pins σ H' s2/\RelV x u/\J.yld i H x H'/\tn (i+1) s2.heap/\∀b∈fp,H' b=none) E s1) E s
 done:∀(X:Cx),X.prog=P->X.w=w->X.K=K->Hd X ea->∀(i:Nat) (pins:List (Za×Obj)) (s:Xx) (σ:St) (H:Hp) (E:Xy->Xx->Prop),Inv X pins σ H s->(∀b∈fp,cA X pins H b)->tn i s.heap->J.stop i H ->
  Zh (model P w) X.A (pyNext (.ref it)) (λr s1=>r=none/\Inv X pins σ H s1) E s
 self:∀(A:Zc) (i:Nat) (s:Xx) (Q:Xy->Xx->Prop) (E:Xy->Xx->Prop),tn i s.heap->Q (.ref it) s->Zh (model P w) A (pyIter (.ref it)) Q E s
structure T9 (K:Xz) (C:Za):Prop where
 ga:Yp K (.ref C) "__getattribute__" = some (some (.builtin "BaseException.__getattribute__"))
 nh:Yp K (.ref C) "__getattr__" = some none
 fo:W.findObj K C none "__class__" = some (.bind (.builtin "getset_descriptor.__get__") (.builtin "object.__class__"))
 mo:W.mroIn K C (.type "object")=some true
 mb:W.mroIn K C (.type "BaseException")=some true
 is:(W.clsIn K C).isSome=true
section
variable {x:Za}
end
section
variable {vs:Uy}
end
structure OB (k:Nat) (A:Zc):Prop where
 dp:A.depth+3 * k+5<recursionLimit
 un:A.units+16 * k+200<cLine
 gd:A.guards=some []
structure TK (P:Zd) (w:Ze) (K:Xz) (mg:Str->Option Xy) (base:Heap) (CX:CXT) (k:Nat) (f:Za) (fd:Zb) (ps:Uq) (sp:Za->Za->Sp):Prop where
 len:∀ea C vs H Q E,sp ea C vs H Q E->vs.length=ps.length
 run:∀(ea C:Za) (oe:Obj) (vv:Uy) (A:Zc) (outer:List Env) (s:Xx) (H:Hp) (args:Args) (us:WF) (vs:Uj) (Q:VK) (E:XK),OB k A->A.handled=some (.ref ea)->s.heap.get? ea=some oe->H ea=none->ea∉frs outer ->
  oe.cls = .ref C->oe.dict=none->oe.data = .fields vv->vv[2]? = some .none->uM P w K mg base A outer s H->BindsTo s fd args (ps.zip us)->aQ vs us->sp ea C vs H Q E ->
  codeAny (model P w) A (.call (.ref f) args) (CR CX outer P w H s Q E) s
section
variable {k:Nat}{vv:Uy}{sp:Za->Za->Sp}{p:Pos}{es:List Expr}
end
section
variable {g:TG}{Q:VK}
end
end L2
namespace L2
open PySem
structure gP (K:Xz) (x q:Str) (st:Stmt) (ps:Uq) (f:Za) (fd:Zb):Prop where
 fn:Fun K x q st f fd
 bd:Binds K fd ps []
structure HS (K:Xz) (x q:Str) (st:Stmt) (ps:Uq) (f:Za) (fd:Zb):Prop where
 fn:LH K x q st f fd
 bd:Binds K fd ps []
def tAt (C:Za) (ta:TE) (f:Str):TE:=λσ H Q=>ta σ H λx H1=>∃a dx fs v,x = .ref a/\H1 a=some (.ins C dx fs)/\fs.lookup f=some v/\Q v H1
def sAt (C:Za) (ta tv:TE) (f:Str):TS:=λD σ H=>tv σ H λy H1=>ta σ H1 λx H2=>∃a dx fs,x = .ref a/\H2 a=some (.ins C dx fs)/\fs.length<1000/\D.nx σ (upd H2 a (.ins C dx (n6 f y fs)))
section
variable {k:Nat}{o:Expr}{n:Str}{ta:TE}
theorem bK (c:Cls X.K C) (d:b6 X.K C n) (g:PE X e ta) (f:attributeBase e n X.env (eval e X.env)=eval e X.env:=by rfl):PE X (.Attribute e n pos) (tAt C ta n):=by
 intro b s r H Q I h;refine Kt f (thn (g b s r H _ I h) λu _ ⟨x,p,i,j,a,_,_,v,o,m,l,q⟩=>?_);subst o;obtain rfl:u=Value.ref a:=j;exact CZ i m c d l λ_ _ k t=>⟨v,p,k,t,q⟩
theorem lQ (c:Cls X.K C) (e:b6 X.K C n) (B:PE X o ta) (j:PE X value tv) (g:swapsWith value (some (.Attribute o n pos')) pos.line X.env=pure false:=by rfl):PS X (.Assign [.Attribute o n pos'] value pos) (sAt C ta tv n):=by
 intro b s d H D I h;refine plainObj_wpAny_Assign_Attribute (thn (j b s d H _ I h) λu r ⟨y,w,i,f,q⟩=>thn (B b r d w _ i q) λp _ ⟨x,_,m,k,a,_,_,v,t,l,A⟩=>?_) g;subst v;obtain rfl:p=Value.ref a:=k;exact CJ m t c e l f λ_ z=>⟨d,_,z,A⟩
end
structure Q7 (K:Xz) (C:Za):Prop where
 ha:Yp K (.ref C) "__class__" = some (some (.builtin "object.__class__"))
 hn:W.specialIn K (.builtin "object.__class__") "__get__" = some (some (.builtin "getset_descriptor.__get__"))
 htk:W.takesIn K (.builtin "object.__class__")=some true
 hm:W.mroIn K C (.type "object")=some true
 self:W.kitOne K (.ref C) (.ref C)=some true
theorem aQ.erase:∀{xs:Uj}{us:WF} (i:Nat),aQ xs us->aQ (xs.eraseIdx i) (us.eraseIdx i)
 | _,_,_,.nil=>by simpa using Paired.nil
 | _,_,0,.cons _ t=>by simpa using t
 | _,_,i+1,.cons r t=>by simpa using Paired.cons r (aQ.erase i t)
def OX:V->Uj->Hp->VK->Prop:=λx vs H Q=>∃(l:Za) (y:V) (r:Uj),x = .ref l/\vs=[]/\H l=some (.lst (r++[y]))/\Q y (upd H l (.lst r))
theorem Eg:MtR X "list.pop" OX:=by
 intro _ s _ H x _ v _ Q I j k h;obtain⟨l,y,r,rfl,rfl,hH,q⟩:=h;cases j;cases k;obtain⟨z,a,n,d,m,e⟩:=I.A2 hH;obtain⟨w,g,f⟩:=d.get (i:=r.length) (x:=y) (by simp);have b:a.length=r.length+1:=by rw[<-m];simp
 refine call_meets F.slot_list_pop ⟨_,e,rfl⟩ F.entry_list_pop (F.args_list_pop_1 _) (PySem.MeetsSeq.list_pop_last l a.toArray n w ?_ (by rw[UN];lia)) ⟨e,?_⟩
 ·rw[UN,b];simpa using g
 ·have c:=d.erase r.length;rw[show(r++[y]).eraseIdx r.length=r by simp[List.eraseIdx_append_of_length_le]]at c;refine⟨y,_,I.zX (lV:=a.eraseIdx r.length) hH e ?_ c ?_,f,q⟩
  ·apply VZ.mp;rw[UN,b];simp
  ·have:(r++[y]).length<=Zg:=z;simp at this;lia
structure NeT (K:Xz) (C:Za):Prop where
 ne:Yp K (.ref C) "__ne__" = some (some (.builtin "object.__ne__"))
 hm:W.mroIn K C (.type "object")=some true
section
variable {k:Nat}
end
def HB (K:Xz):Uj->Hp->VK->Prop:=λvs H Q=>∃a xs,((vs=[.ref a,.ty "tuple"]/\SqT K H a xs)\/(vs=[.ref a,.ty "list"]/\SqL K H a xs))/\Q (.bl true) H
theorem w8:jo X (.builtin "isinstance") (HB X.K):=by
 intro _ s _ H _ _ Q I k h;obtain⟨a,_,h,q⟩:=h;rcases h with⟨rfl,j⟩ | ⟨rfl,j⟩
 ·obtain⟨u,e,rfl,g,d⟩:=vals2 k;obtain rfl:e = Value.type "tuple" :=d;obtain rfl:u=Value.ref a:=g;obtain⟨i,l,b,p⟩:=I.tuple j;obtain⟨o,f,c,_⟩:=b;exact Ys W.kitx_tuple I.kIn ⟨o,f,c⟩ (by rfl) (λz=>nomatch z) λm=>⟨.bl true,H,I.tok _,rfl,q⟩
 ·obtain⟨u,e,rfl,g,d⟩:=vals2 k;obtain rfl:e = Value.type "list" :=d;obtain rfl:u=Value.ref a:=g;obtain⟨i,l,b,p⟩:=I.list j;obtain⟨o,n,f,c,_⟩:=b;exact Ys W.kitx_list I.kIn ⟨o,f,c⟩ (by rfl) (λz=>nomatch z) λm=>⟨.bl true,H,I.tok _,rfl,q⟩
section
open PySem.Spec PyProof.Rows
def DA (K:Xz):V->Uj->Hp->VK->Prop:=λx vs H Q=>∃(xs:UF) (y:V) (d:Zf),vs=[y]/\Den K H x (.list xs)/\Den K H y d/\d.depth<=100/\Q (.int (xs.countP λe=>Yc e d:Nat)) H
theorem EH {k:Nat} (t:bM k X.A):MtR X "list.count" (DA X.K):=by
 intro _ s _ H x _ v _ Q I j m h;obtain⟨c,y,d,rfl,b,g,i,q⟩:=h;obtain⟨u,rfl,w⟩:=m.one;obtain⟨_,p⟩:=I.reads b j;obtain⟨_,l⟩:=I.reads g w;have f:Y5 c=true:=by simpa[PyData.canLay0]using b.lay
 cases p with
 | @list a o its n _ _ h1 h2 h3 h4=>
  have r:s.heap.get? a=some { cls:=.type "list",dict:=o.dict,data:=.seq its n,slots:=o.slots }:=by
   rw[h1,<-h2,<-h3]
  refine call_meets Z4 ⟨_,h1,h2⟩ PySem.F.entry_list_count (PySem.F.args_list_count_2 _ _) (SeqAt.list_countAt a its n _ _ u (λz=>Yc (SeqAt.readOf s.heap z) d)) ⟨r,SeqAt.items_eqAt h4 l f g.lay (zd t i),?_⟩;refine⟨.int _,H,I.tok _,⟨_,rfl⟩,?_⟩;have e:=SeqAt.readsAll_map c _ _ f h4;rw[<-e,List.countP_map]at q;exact q
def O1 (K:Xz):Uj->Hp->VK->Prop:=λvs H Q=>∃(l:Za) (ns:List Int),vs=[.ref l]/\SqL K H l (ns.map V.int)/\(∀i∈ns,0<=i/\i<=1000000)/\ns.length<=1000000/\Q (.int ns.sum) H
theorem xy:∀{ns:List Int}{its:WF},aQ (ns.map V.int) its->∃ps:List (Int×Tok),ps.map (·.1)=ns/\its=ps.map λp=>Value.int p.1 p.2
 | [],_,.nil=>⟨[],rfl,rfl⟩
 | n::ns,_,.cons r t=>by
  obtain⟨ps,c,b⟩:=xy t;obtain⟨a,rfl⟩:=r;exact⟨(n,a)::ps,by rw[UW,c],by rw[UW,b]⟩
theorem mO {ps:List (Int×Tok)}:∀j,j<=ps.length->preSum (numAt ps.toArray) j=((ps.map (·.1)).take j).sum
 | 0,_=>rfl
 | j+1,h=>by
  have a:ps[j]? = some ps[j]:=UB h;rw[preSum,mO j (Nat.le_of_succ_le h),UX,List.sum_append,UI,a];unfold numAt;rw[Wf,a];simp
theorem sum_bound:∀{ns:List Int},(∀i∈ns,0<=i/\i<=1000000)->0<=ns.sum/\ns.sum<=1000000 * (ns.length:Int)
 | [],_=>⟨by simp,by simp⟩
 | n::ns,h=>by
  have c:=h n (UM ..);have b:=sum_bound (ns:=ns) λi a=>h i (UJ _ a);rw[Vo,U1];constructor <;> push_cast <;> lia
theorem HV (w:X.A.handled=none):jo X (.builtin "sum") (O1 X.K):=by
 intro _ s _ H xs _ Q I r h;obtain⟨l,ns,rfl,x,f,_,q⟩:=h;obtain⟨u,rfl,o⟩:=vals1 r;cases o;obtain⟨_,g,m,_⟩:=I.list x;obtain⟨ps,c,rfl⟩:=xy g;have b:ps.length=ns.length:=by rw[<-c,UA]
 have d:intItems ps.toArray=(ps.map λp=>Value.int p.1 p.2).toArray:=by unfold intItems;simp
 refine sum_intList (xs:=ps.toArray) w (by rw[d];exact m.isList) (λj a=>?_) λ_ _ v k=>?_
 ·have a:j<ps.length:=by simpa using a
  have e:ps[j]? = some ps[j]:=UB a;have t:ps[j].1∈ns:=by rw[<-c];exact UE.mpr ⟨_,Vh a,rfl⟩
  have z:=f _ t;have y:numAt ps.toArray j=ps[j].1:=by
   unfold numAt;rw[Wf,e];rfl
  have n:=sum_bound (ns:=ns.take (j+1)) λi d=>f i (VS d);rw[UT]at n;rw[y,mO (j+1) a,c];unfold InLong;refine⟨⟨by lia,by lia⟩,by lia,by lia⟩
 ·refine⟨.int _,H,I.kept k,⟨v,rfl⟩,?_⟩;rw[show ps.toArray.size=ps.length from by simp,mO ps.length (UD _),c,b,UP (UD _)];exact q
theorem MJ:bootBuiltins "sum" = some (.builtin "sum"):=by decide +kernel
def jJ (h:Heap) (z TI TO T:Za) (b:Bool):Prop:=h.get? z=some { cls:=.type "zip",dict:=none,data:=.fields #[rawInt T,.bool b,.bool false,.ref TI,.ref TO],slots:=#[] }
theorem zM {Q:Option Obj->Xx->Prop} (h:Q (s.heap.get? a) s):Zh (model prog w) A (loadIfAlive a) Q E s:=λΓ p _=>by
 unfold loadIfAlive;rw[Sem.wp_loadIfAlive];exact h
theorem zx {z TI TO:Za}{d:Bool}{Q:Bool->Xx->Prop} (hz:jJ s.heap z TI TO T d) (hT:s.heap.get? T=some oT) (h:∀h',jJ h' z TI TO T true->YI z s.heap h'->Q false { s with heap:=h' }):Zh (model prog w) A (YB (.ref z)) Q E s:=by
 unfold YB;refine Xw (wpAny_field hz rfl (x:=rawInt T) rfl ?_);show Zh _ _ (loadIfAlive (T:Int).toNat >>= _) _ _ _;refine Xw (zM ?_);rw[VF,hT];refine Xw (wpAny_field hz rfl (x:=.bool d) rfl ?_);cases d with
 | true=>exact Xv (h s.heap hz (Heap.SameBut.refl ..))
 | false=>exact Xw (wpAny_setField_rec hz (by simp) λc b a=>Xv (h c b a))
theorem wA {z TI TO k j n m:Za}{B:Bool}{u q:Nat}{xs ys:Uy}{x y:Xy} (D:ZipApart z TI TO k j n m)
  (hz:jJ s.heap z TI TO T B) (hT:s.heap.get? T=some oT) (p:IsPair s.heap TI (.ref k) (.ref j))
  (h1:s.heap.IsListIter k n u) (h2:s.heap.IsListIter j m q) (t:s.heap.IsList n xs) (r:s.heap.IsList m ys) (hx:xs[u]? = some x) (H:ys[q]? = some y)
  (G:∀h',jJ h' z TI TO T true->h'.IsListIter k n (u+1)->h'.IsListIter j m (q+1)->IsPair h' s.heap.objs.size x y->h'.objs.size=s.heap.objs.size+1 ->
   (∀c o,c≠z->c≠k->c≠j->s.heap.get? c=some o->h'.get? c=some o)->Q (.ref s.heap.objs.size) { s with heap:=h' }) :
  Zh (model prog w) A (Builtin.«zip.__next__» ⟨[.ref z],[]⟩) (λfin s'=>∃v,fin = .done (.ret v)/\Q v s') E s:=by
 show Zh _ _ (field (.ref z) 2 >>= _) _ _ _;refine Xw (wpAny_field hz rfl (x:=.bool false) rfl ?_);show Zh _ _ (field (.ref z) 3 >>= _) _ _ _;refine Xw (wpAny_field hz rfl (x:=.ref TI) rfl ?_);refine Xw (wpAny_seqItems p rfl ?_);show Zh _ _ (YB (.ref z) >>= _) _ _ _;refine Xw (zx hz hT λ_ g a=>?_);simp only[Ve,if_false];rw[<-WR];simp only[Ws,List.forIn_nil];refine Xw (Xw (Xw (Xr ?_)));show Zh _ _ (YS (.ref k) >>= _) _ _ _;refine Xw (wpAny_nextOf_list_item (h1.extBut a.extBut D.i1z) (t.extBut a.extBut D.l1z) hx λ_ h b=>Xv (Xv ?_));refine Xw (Xw (Xr ?_));show Zh _ _ (YS (.ref j) >>= _) _ _ _;refine Xw (wpAny_nextOf_list_item ((h2.extBut a.extBut D.i2z).extBut b.extBut D.i12.symm) ((r.extBut a.extBut D.l2z).extBut b.extBut D.l2i1) H λf i d=>Xv (Xv (Xv ?_)));have hsz:f.objs.size=s.heap.objs.size:=by rw[d.1,b.1,a.1]
 refine Xw (wpAny_newTuple (hsz:=by show 2<=Zg;decide) (Xv ⟨_,rfl,?_⟩));show Q (.ref f.objs.size) _;have l:∀c o,f.get? c=some o->(f.push { cls:=.type "tuple",data:=.seq #[x,y] }).get? c=some o:=λc o e=>Xu _ e;rw[hsz];have J:IsPair (f.push { cls:=.type "tuple",data:=.seq #[x,y] }) s.heap.objs.size x y:=by rw[<-hsz];exact Y3 _ rfl
 exact G _ (l _ _ (d.extBut _ _ D.i2z.symm (b.extBut _ _ D.i1z.symm g))) (((h.extBut d.extBut D.i12)).at λo e=>l _ o e) (i.at λo e=>l _ o e) J (by rw[YZ,hsz]) λc o C F I e=>l c o (d.extBut _ _ I (b.extBut _ _ F (a.extBut _ _ C e)))
theorem wt {z TI TO k i u r:Za}{F:Bool}{t:Nat}{xs ys:Uy}{Q:Fin->Xx->Prop} (y:A.handled=none) (D:ZipApart z TI TO k i u r)
  (hz:jJ s.heap z TI TO T F) (hT:s.heap.get? T=some oT) (n:IsPair s.heap TI (.ref k) (.ref i))
  (h1:s.heap.IsListIter k u t) (h2:s.heap.IsListIter i r p) (j:s.heap.IsList u xs) (q:s.heap.IsList r ys) (C:xs[t]? = none\/ys[p]? = none)
  (B:∀h' e,(∀c o,c≠z->c≠k->c≠i->s.heap.get? c=some o->h'.get? c=some o)->(∃o,h'.get? e=some o/\o.cls = .type "StopIteration")->E (.ref e) { s with heap:=h' }) :
  Zh (model prog w) A (Builtin.«zip.__next__» ⟨[.ref z],[]⟩) Q E s:=by
 show Zh _ _ (field (.ref z) 2 >>= _) _ _ _;refine Xw (wpAny_field hz rfl (x:=.bool false) rfl ?_);show Zh _ _ (field (.ref z) 3 >>= _) _ _ _;refine Xw (wpAny_field hz rfl (x:=.ref TI) rfl ?_);refine Xw (wpAny_seqItems n rfl ?_);show Zh _ _ (YB (.ref z) >>= _) _ _ _;refine Xw (zx hz hT λ_ _ a=>?_);simp only[Ve,if_false];rw[<-WR];simp only[Ws,List.forIn_nil];refine Xw (Xw (Xw (Xr ?_)));show Zh _ _ (YS (.ref k) >>= _) _ _ _;cases hx:xs[t]? with
 | none=>
  refine Xw (wpAny_nextOf_list_end y (h1.extBut a.extBut D.i1z) (j.extBut a.extBut D.l1z) hx λd e b m=>?_);exact B d e (λc o l v _ x=>b _ _ v (a.extBut _ _ l x)) m
 | some x=>
  have H:ys[p]? = none:=by rcases C with h | h;rw[hx]at h;cases h;exact h
  refine Xw (wpAny_nextOf_list_item (h1.extBut a.extBut D.i1z) (j.extBut a.extBut D.l1z) hx λd _ b=>Xv (Xv ?_));refine Xw (Xw (Xr ?_));show Zh _ _ (YS (.ref i) >>= _) _ _ _;refine Xw (wpAny_nextOf_list_end y ((h2.extBut a.extBut D.i2z).extBut b.extBut D.i12.symm) ((q.extBut a.extBut D.l2z).extBut b.extBut D.l2i1) H λg e f m=>?_);exact B g e (λc o l G v x=>f _ _ v (b.extBut _ _ G (a.extBut _ _ l x))) m
theorem zJ {z TI TO e:Za}{n:Bool}{g:Nat}{xs ys:Uy}{x y:Xy}{Q:Option Xy->Xx->Prop} (D:ZipApart z TI TO b a e d)
  (hz:jJ s.heap z TI TO T n) (hT:s.heap.get? T=some oT) (f:IsPair s.heap TI (.ref b) (.ref a))
  (h1:s.heap.IsListIter b e j) (h2:s.heap.IsListIter a d g) (i:s.heap.IsList e xs) (h:s.heap.IsList d ys) (hx:xs[j]? = some x) (r:ys[g]? = some y)
  (q:∀h',jJ h' z TI TO T true->h'.IsListIter b e (j+1)->h'.IsListIter a d (g+1)->IsPair h' s.heap.objs.size x y->h'.objs.size=s.heap.objs.size+1 ->
   (∀c o,c≠z->c≠b->c≠a->s.heap.get? c=some o->h'.get? c=some o)->Q (some (.ref s.heap.objs.size)) { s with heap:=h' }) :
  Zh (model prog w) A (pyNext (.ref z)) Q E s:=by
 have k:s.TypeIs (.ref z) "zip" :=⟨_,hz,rfl⟩;unfold pyNext;exact Xw (wpAny_attempt (wpAny_callSpecial?_slot (name:=Yo "__next__") k F.slot_zip_next
  (wpAny_call_entry F.slot_zip_next k F.entry_zip_next
   (wA D hz hT f h1 h2 i h hx r λh' p u t l m v=>Xv (q h' p u t l m v)) (F.args_zip_next_1 _))))
theorem Bc {z TI TO j h:Za}{p:Bool}{m l:Nat}{xs ys:Uy}{Q:Option Xy->Xx->Prop} (r:A.handled=none) (D:ZipApart z TI TO d a j h)
  (hz:jJ s.heap z TI TO T p) (hT:s.heap.get? T=some oT) (f:IsPair s.heap TI (.ref d) (.ref a))
  (h1:s.heap.IsListIter d j m) (h2:s.heap.IsListIter a h l) (i:s.heap.IsList j xs) (g:s.heap.IsList h ys) (n:xs[m]? = none\/ys[l]? = none)
  (u:∀h',(∀c o,c≠z->c≠d->c≠a->s.heap.get? c=some o->h'.get? c=some o)->Q none { s with heap:=h' }):Zh (model prog w) A (pyNext (.ref z)) Q E s:=by
 have k:s.TypeIs (.ref z) "zip" :=⟨_,hz,rfl⟩;unfold pyNext;refine Xw (wpAny_attempt (wpAny_callSpecial?_slot (name:=Yo "__next__") k F.slot_zip_next
  (wpAny_call_entry F.slot_zip_next k F.entry_zip_next (wt r D hz hT f h1 h2 i g n λh' e q t=>?_) (F.args_zip_next_1 _))))
 obtain⟨o,x,v⟩:=t;refine Xw (wpAny_isInstance (T:= "StopIteration") (b:=true) ⟨o,x,v⟩ isSubtype_stop ?_);exact Xv (u _ q)
def v3 (H0 H:Hp) (xs ys acc:Uj):Prop:=∀(j:Nat) x y,j<acc.length->xs[j]? = some x->ys[j]? = some y->∃t,acc[j]? = some (.ref t)/\H t=some (.tup [x,y])/\H0 t=none
theorem Hi {z TI TO E S:Za} (hh:A.in1.handled=none) (D:ZipApart z TI TO E C a b) (hq:SqL X.K H0 a xs) (ag:SqL X.K H0 b ys) (ak:H0 S=none) (hsz:min xs.length ys.length<=1000000)
  (hR:∀s' H' acc,Inv X pins σ H' s'->af H0 H'->H' S=some (.lst acc)->acc.length=min xs.length ys.length->v3 H0 H' xs ys acc->R (.ok (.ret O)) s') :
  ∀(k i:Nat) (s:Xx) (H:Hp) (acc:Uj),min xs.length ys.length - i=k->i<=min xs.length ys.length->Inv X pins σ H s->(∀c∈[z,TI,TO,E,C],cA X pins H c)->af H0 H->H S=some (.lst acc)->acc.length=i->v3 H0 H xs ys acc ->
   IsPair s.heap TI (.ref E) (.ref C)->(∃u v,IsPair s.heap TO u v)->s.heap.IsListIter E a i->s.heap.IsListIter C b i->(IsZip s.heap z TI TO .none\/∃T bb p q,jJ s.heap z TI TO T bb/\H T=some (.tup [p,q])) ->
   codeAny (model X.prog X.w) A (.builtin "list.extend.loop" ⟨[.ref S,.ref z,O],[]⟩) R s:=by
 have as:∀{H:Hp},(∀c∈[z,TI,TO,E,C],cA X pins H c)->∀{c:Za}{o:HO},H c=some o->c∉[z,TI,TO,E,C]:=λU c o e G=>by rw[(U c G).1]at e;cases e
 intro k
 induction k with
 | zero=>
  intro i s H acc hk hi I U Q hS J C6 m l h1 h2 r;refine codeAny_builtin F.entry_extend_loop ?_;rw[Yg F.plain_extend_loop _];show Zh _ A.in1 (pyNext (.ref z) >>= _) _ _ s;obtain⟨aa,rv,p,_⟩:=I.list (Q.seq hq);obtain⟨ah,a0,p',_⟩:=I.list (Q.seq ag);have hl:=rv.length;have b0:=a0.length;have oH:aa.toArray[i]? = none\/ah.toArray[i]? = none:=by
   rcases Nat.le_total xs.length ys.length with h | h
   ·exact .inl (by simp;lia)
   ·exact .inr (by simp;lia)
  obtain⟨u,v,l⟩:=l;have N:∀g:Heap,(∀c o,c∉[z,TI,TO,E,C]->s.heap.get? c=some o->g.get? c=some o)->R (.ok (.ret O)) { s with heap:=g }:=λg B=>hR _ H acc (I.dG (t':=s.toks) (wr:=[z,TI,TO,E,C]) U B) Q hS (by lia) C6;rcases r with r | ⟨T,bb,pp,qq,r,hT⟩
  ·exact Xw (wpAny_pyNext_zip_end hh D r m l h1 h2 p.isList p'.isList oH λg B=>Xv (N g λc o d e=>B c o (λq=>d (by simp[q])) (λq=>d (by simp[q])) (λq=>d (by simp[q])) (λq=>d (by simp[q])) e))
  ·obtain⟨_,g6,_,oT,eT,_⟩:=(show cg X.prog X.w H s.heap T (.tup [pp,qq])from I.hok T _ hT);exact Xw (Bc hh D r eT m h1 h2 p.isList p'.isList oH λg B=>Xv (N g λc o d e=>B c o (λq=>d (by simp[q])) (λq=>d (by simp[q])) (λq=>d (by simp[q])) e))
 | succ k ih=>
  intro i s H acc hk hi I U Q hS J C6 m l h1 h2 r;refine codeAny_builtin F.entry_extend_loop ?_;rw[Yg F.plain_extend_loop _];show Zh _ A.in1 (pyNext (.ref z) >>= _) _ _ s;obtain⟨aa,rv,p,_⟩:=I.list (Q.seq hq);obtain⟨ah,a0,p',_⟩:=I.list (Q.seq ag);have hx:xs[i]? = some xs[i]:=UB (by lia);have hy:ys[i]? = some ys[i]:=UB (by lia);generalize xs[i]=x at hx;generalize ys[i]=y at hy;obtain⟨u,hu,ru⟩:=rv.get hx;obtain⟨v,hv,aw⟩:=a0.get hy;obtain⟨_,_,l⟩:=l;have M:H s.heap.objs.size=none:=I.hok.fresh (UD _);have aj:=as U hS;have W:∀(g:Heap) (T:Za) (bb:Bool) (p q:V),jJ g z TI TO T bb->(upd H s.heap.objs.size (.tup [x,y])) T=some (.tup [p,q])->IsPair g TI (.ref E) (.ref C)->(∃u v,IsPair g TO u v)->g.IsListIter E a (i+1)->g.IsListIter C b (i+1)->IsPair g s.heap.objs.size u v->(∀c o,c∉[z,TI,TO,E,C]->s.heap.get? c=some o->g.get? c=some o) ->
    Zh (model X.prog X.w) A.in1 (updateSeq S (·.push (.ref s.heap.objs.size)) >>= λ_=>again (.builtin "list.extend.loop" ⟨[.ref S,.ref z,O],[]⟩)) (λN s'=>match N with | .done f=>R (.ok f) s' | .again c'=>c'.quiet=true/\codeAny (model X.prog X.w) A c' R s') (λe s'=>R (.error e) s') { s with heap:=g }:=λg T bb pp qq av P Sl Og ao au Ct B=>by
   have I2:Inv X pins σ (upd H s.heap.objs.size (.tup [x,y])) { s with heap:=g }:=I.nJ (t':=s.toks) (wr:=[z,TI,TO,E,C]) U B (UD _) ⟨by show 2<=Zg;decide,[u,v],.cons ru (.cons aw .nil),⟨_,Ct,rfl,_,rfl⟩⟩;have s1:af H (upd H s.heap.objs.size (.tup [x,y])):=af.new M;have L:=s1 _ _ hS;have ar:S≠s.heap.objs.size:=nn hS M
   have a8:∀c∈[z,TI,TO,E,C],cA X pins (upd H s.heap.objs.size (.tup [x,y])) c:=λc G=>⟨by
    have ay:∃o,s.heap.get? c=some o:=by
     simp only[UR,VI,or_false]at G;obtain⟨_,e1,_⟩:=h1;obtain⟨_,e2,_⟩:=h2;rcases G with rfl | rfl | rfl | rfl | rfl
     ·rcases r with r | ⟨_,_,_,_,r,_⟩ <;> exact⟨_,r⟩
     ·exact⟨_,m⟩
     ·exact⟨_,l⟩
     ·exact⟨_,e1⟩
     ·exact⟨_,e2⟩
    obtain⟨o,e⟩:=ay;rw[ap (U2 (Y2 e))];exact(U c G).1,(U c G).2⟩
   obtain⟨_,QT,_,rr,aq,e3⟩:=I2.A2 L;have a9:(upd H s.heap.objs.size (.tup [x,y])) s.heap.objs.size=some (.tup [x,y]):=ab;generalize upd H s.heap.objs.size (.tup [x,y])=H2 at I2 s1 L a8 P a9;have az:QT.length=i:=by rw[<-aq];exact J
   refine Xw (wpAny_updateSeq e3 rfl (Xv ⟨plainId_quiet F.plain_extend_loop _,?_⟩) (by rw[UN];lia) (by rw[WJ,UN];lia));have I3:=I2.zX (lV:=QT++[.ref s.heap.objs.size]) (ys:=acc++[.ref s.heap.objs.size]) (t':=s.toks) (f:=λz=>z.push (.ref s.heap.objs.size)) L e3 (by simp) (rr.append (.cons (show RelV (.ref s.heap.objs.size) (.ref s.heap.objs.size)from rfl) .nil)) (by rw[UH,UQ];have:=sizeLine_eq;lia);have nS:∀{c:Za},c∈[z,TI,TO,E,C]->c≠S:=λG e=>aj (by rw[<-e];exact G);have up:∀c o,c≠S->g.get? c=some o->(g.update S (Y8 λz=>z.push (.ref s.heap.objs.size))).get? c=some o:=λc o n e=>(Yu _ _ (YR n)).trans e;have ai:T≠S:=nn P L
   have O8:v3 H0 (upd H2 S (.lst (acc++[.ref s.heap.objs.size]))) xs ys (acc++[.ref s.heap.objs.size]):=λj x' y' hj a7 Y=>by
    by_cases ae:j<acc.length
    ·obtain⟨t,e1,e2,e3⟩:=C6 j x' y' ae a7 Y;exact⟨t,by rw[U6 ae];exact e1,by rw[ap λe=>by rw[e,hS]at e2;cases e2];exact s1 _ _ e2,e3⟩
    ·rw[UH,UQ]at hj;have Z:j=acc.length:=by lia
     rw[Z,J,hx]at a7;rw[Z,J,hy]at Y;cases a7;cases Y;exact⟨s.heap.objs.size,by rw[Z];simp,by rw[ap ar.symm];exact a9,Q.free M⟩
   obtain⟨u1,v1,Og⟩:=Og;exact ih (i+1) _ _ _ (by lia) (by lia) I3 (λc G=>⟨by rw[ap (nS G)];exact(a8 c G).1,(a8 c G).2⟩) (ax ak (Q.trans s1)) ab (by rw[UH,J];rfl) O8 (up _ _ (nS (by simp)) Sl) ⟨u1,v1,up _ _ (nS (by simp)) Og⟩ (ao.at λo e=>up _ o (nS (by simp)) e) (au.at λo e=>up _ o (nS (by simp)) e) (.inr ⟨T,bb,pp,qq,up _ _ (nS (by simp)) av,by rw[ap ai];exact P⟩)
  rcases r with r | ⟨T,bb,pp,qq,r,hT⟩
  ·refine Xw (wpAny_pyNext_zip_item D r m l h1 h2 p.isList p'.isList (x:=u) (y:=v) (by simpa using hu) (by simpa using hv) λg a1 a2 a3 a4 a5 a6 B=>?_);exact W g s.heap.objs.size false x y a1 ab (B _ _ D.TIz D.TITO D.TIi1 D.TIi2 m) ⟨_,_,a2⟩ a3 a4 a5 λc o d e=>B c o (λq=>d (by simp[q])) (λq=>d (by simp[q])) (λq=>d (by simp[q])) (λq=>d (by simp[q])) e
  ·obtain⟨_,g6,_,oT,eT,_⟩:=(show cg X.prog X.w H s.heap T (.tup [pp,qq])from I.hok T _ hT);refine Xw (zJ D r eT m h1 h2 p.isList p'.isList (x:=u) (y:=v) (by simpa using hu) (by simpa using hv) λg a1 a3 a4 a5 a6 B=>?_);exact W g T true pp qq a1 (af.new M _ _ hT) (B _ _ D.TIz D.TIi1 D.TIi2 m) ⟨_,_,B _ _ D.TOz D.TOi1 D.TOi2 l⟩ a3 a4 a5 λc o d e=>B c o (λq=>d (by simp[q])) (λq=>d (by simp[q])) (λq=>d (by simp[q])) e
theorem B0:typeLookup (.type "zip") "__len__" = pure none:=by rw[typeLookup_type,builtinLookup_eq_fast];kernel_rfl
theorem AR:typeLookup (.type "zip") "__length_hint__" = pure none:=by rw[typeLookup_type,builtinLookup_eq_fast];kernel_rfl
theorem Cd {z TI TO r m S:Za}{g:Xy} (P:A.in1.handled=none) (D:ZipApart z TI TO r m a b) (hq:SqL X.K H0 a xs) (L:SqL X.K H0 b ys) (i:H0 S=none) (hsz:min xs.length ys.length<=1000000)
  (I:Inv X pins σ H s) (E:∀c∈[z,TI,TO,r,m],cA X pins H c) (T:af H0 H) (hS:H S=some (.lst [])) (J:IsPair s.heap TI (.ref r) (.ref m)) (h:∃u v,IsPair s.heap TO u v) (h1:s.heap.IsListIter r a 0) (h2:s.heap.IsListIter m b 0) (hz:IsZip s.heap z TI TO .none)
  (W:∀s' H' acc,Inv X pins σ H' s'->af H0 H'->H' S=some (.lst acc)->acc.length=min xs.length ys.length->v3 H0 H' xs ys acc->R (.ok (.ret g)) s') :
  Zh (model X.prog X.w) A.in1 (Yy (.ref S) (.ref z) g)
   (λfin s'=>match fin with | .done f=>R (.ok f) s' | .again c'=>c'.quiet=true/\codeAny (model X.prog X.w) A c' R s') (λe s'=>R (.error e) s') s:=by
 have d:∀{c:Za},c∈[z,TI,TO,r,m]->c≠S:=λ{c} l e=>by
  have:=(E c l).1;rw[e,hS]at this;cases this
 have C:S≠z:=(d (by simp)).symm;have hT:s.TypeIs (.ref z) "zip" :=⟨_,hz,rfl⟩;unfold Yy;refine Xw (wpAny_typeOf hT ?_);have e1:YY (.ref S) (.ref z)=false:=by simp[YY,C]
 have e2:(Value.type "zip" == Value.type "list")=false:=by decide
 have O:(Value.type "zip" == Value.type "tuple")=false:=by decide
 simp only[e1,e2,O,Bool.or_false,Ve,if_false];refine Xw (wpAny_pyIter_zip hz ?_);refine Xw (Xr ?_);unfold Builtin.List.listLengthHint;refine Xw (wpAny_specialOf hT B0 ?_);show Zh _ A.in1 (specialOf (Value.ref z) (Yo "__length_hint__") >>= _) _ _ _;refine Xw (wpAny_specialOf hT AR ?_);refine Xv ?_;show Zh _ A.in1 (rule "list.extend.makes-room" >>= λ_=>Builtin.List.listTouch (.ref S) >>= λ_=>
  again (.builtin "list.extend.loop" ⟨[.ref S,.ref z,g],[]⟩)) _ _ _
 refine Xw (wpAny_rule ?_);refine Xw ?_;show Zh _ A.in1 (updateSeq S (·.push .none) >>= λ_=>updateSeq S (·.pop)) _ _ _
 obtain⟨_,_,_,U,_,M⟩:=I.A2 hS;cases U;refine Xw (wpAny_updateSeq M rfl ?_);have N:=I.zX (lV:=[.none]) (ys:=[.non]) (t':=s.toks) (f:=λz=>z.push .none) hS M (by simp) (.cons (show RelV .non .none from rfl) .nil) (by show 1<=Zg;decide);have k:=Heap.get?_update_self (Y8 (·.push Value.none)) M rfl
 refine wpAny_updateSeq (hz:=by seq_fits) k rfl ?_;obtain⟨_,Q,_,G,_,e4⟩:=N.A2 ab;have B:∃q,Q=[q]:=by
  cases G with
  | cons _ t=>cases t;exact⟨_,rfl⟩
 obtain⟨_,rfl⟩:=B;have Z:=N.zX (lV:=[]) (ys:=[]) (t':=s.toks) (f:=λz=>z.pop) ab e4 (by simp) .nil (UU _);have p:∀c o,c≠S->s.heap.get? c=some o->((s.heap.update S (Y8 (·.push Value.none))).update S (Y8 (·.pop))).get? c=some o:=λc o n e=>(Yu _ _ (YR n)).trans ((Yu _ _ (YR n)).trans e)
 obtain⟨u,v,h⟩:=h;refine Xv ⟨plainId_quiet F.plain_extend_loop _,Hi P D hq L i hsz W _ 0 _ _ [] rfl (UU _) Z (λc l=>⟨by rw[ap (d l),ap (d l)];exact(E c l).1,(E c l).2⟩) (ax i (ax i T)) ab rfl (λj x y Y=>by simp at Y) (p _ _ (d (by simp)) J) ⟨u,v,p _ _ (d (by simp)) h⟩ (h1.at λo e=>p _ o (d (by simp)) e) (h2.at λo e=>p _ o (d (by simp)) e) (.inl (p _ _ (d (by simp)) hz))⟩
def Hk (K:Xz):Uj->Hp->VK->Prop:=λvs H Q=>∃(a b:Za) (xs ys:Uj),vs=[.ref a,.ref b]/\SqL K H a xs/\SqL K H b ys/\min xs.length ys.length<=1000000/\∀(D:Za) (acc:Uj) (H':Hp),H D=none->af H H'->H' D=some (.lst acc)->acc.length=min xs.length ys.length->v3 H H' xs ys acc->Q (.ref D) H'
theorem Cc {k:Nat}{ea l:Expr}{p1 p2 pos wF:Pos} (Z:bM k X.A) (x:Gl X "list") (C:X.mg "list" = none) (hg:Gl X "zip") (hm:X.mg "zip" = none) (ha:PA X [ea,l] ta)
  (hs:Zi [ea,l] X.env=(false,eval ea X.env)::Zi [l] X.env:=by rfl) (z:(backTo wF (Zi [l] X.env)).any (·.1)=false:=by rfl) :
  PE X (.Call (.Name "list" p1) [.Call (.Name "zip" p2) [ea,l] [] wF] [] pos) (λσ H Q=>ta σ H λvs H1=>Hk X.K vs H1 Q):=by
 intro d s σ H Q I h;refine wpAny_Call_Name_kw (fm I x C nG ?_ (by decide) (by decide));refine Ym ?_ rfl rfl;show Zh _ _ (spliced ((false,eval (.Call (.Name "zip" p2) [ea,l] [] wF) X.env)::backTo pos (Zi [] X.env))) _ _ s;refine YD (Call_ (fm I hg hm boot_zip (Ym (thn (ha wF d s σ H _ I h) λ_ s1 ⟨vs,H1,t,J,q1⟩=>?_) hs z)));obtain⟨a,b,_,ys,e,R,u,w,q⟩:=q1;subst e;obtain⟨_,_,rfl,J,U⟩:=vals2 J;cases J;cases U;obtain⟨_,_,P,_⟩:=t.list R;obtain⟨_,_,p,_⟩:=t.list u;have la : @LT.lt Nat _ a s1.heap.objs.size:=by obtain⟨_,e,_⟩:=P.isList;exact Y2 e
 have lb : @LT.lt Nat _ b s1.heap.objs.size:=by obtain⟨_,e,_⟩:=p.isList;exact Y2 e
 refine call_zip_2 P.isList p.isList λh' W y E h1 h2 _ S=>?_;have D:ZipApart (s1.heap.objs.size+4) (s1.heap.objs.size+2) (s1.heap.objs.size+3) s1.heap.objs.size (s1.heap.objs.size+1) a b:=by constructor <;> (show((_:Nat)≠_)) <;> lia
 have L:Inv X d σ H1 { s1 with heap:=h' }:=t.kept (t':=s1.toks) S;show Zh _ _ (spliced []) _ _ _;refine YU ?_;have O:∀c∈[s1.heap.objs.size+4,s1.heap.objs.size+2,s1.heap.objs.size+3,s1.heap.objs.size,s1.heap.objs.size+1],s1.heap.objs.size<=c/\c<h'.objs.size:=λc m=>by
  simp only[UR,VI,or_false]at m;rcases m with rfl | rfl | rfl | rfl | rfl <;> (constructor <;> (show((_:Nat)<=_)) <;> lia)
 refine callType_codes (Q₁:=λr j=>r = .ref h'.objs.size/\j={ s1 with heap:=h'.push { cls:=.type "list",data:=.seq #[] } }) F.called_list (F.typeCall_list_1 _) F.entry_list_init (code_list_new _ ⟨rfl,rfl⟩) λr j v=>?_;obtain⟨rfl,rfl⟩:=v;have hS:(h'.push { cls:=.type "list",data:=.seq #[] }).get? h'.objs.size=some { cls:=.type "list",data:=.seq #[] }:=Y3 _ rfl;have N:∀c o,h'.get? c=some o->(h'.push { cls:=.type "list",data:=.seq #[] }).get? c=some o:=λc o e=>Xu _ e;have i:H1 h'.objs.size=none:=L.hok.fresh (UD _);have I3:Inv X d σ (upd H1 h'.objs.size (.lst [])) { s1 with heap:=h'.push { cls:=.type "list",data:=.seq #[] } }:=L.nJ (t':=s1.toks) (wr:=[]) (λb T=>by cases T) (λb o _ e=>N b o e) (UD _) ⟨UU _,[],0,.nil,hS⟩;refine⟨⟨_,hS,rfl⟩,F.args_list_init_2 _ _,?_⟩;show Zh _ X.A.in1.in1 (do let old <-Builtin.List.listItems (.ref h'.objs.size);Builtin.List.listUpdate (.ref h'.objs.size) (λ_=>#[]);letGo old.toList.reverse;Yy (.ref h'.objs.size) (.ref (s1.heap.objs.size+4)) .none) _ _ _;refine Xw ?_;unfold Builtin.List.listItems;refine Xw (wpAny_seqItems hS rfl (Xv ?_));show Zh _ X.A.in1.in1 (updateSeq h'.objs.size (λ_=>#[]) >>= λ_=>letGo (#[]:Uy).toList.reverse >>= λ_=>Yy (.ref h'.objs.size) (.ref (s1.heap.objs.size+4)) .none) _ _ _;refine Xw (wpAny_updateSeq hS rfl ?_);have I4:=I3.zX (lV:=[]) (ys:=[]) (t':=s1.toks) (f:=λ_=>#[]) ab hS rfl .nil (UU _);have n:∀c∈[s1.heap.objs.size+4,s1.heap.objs.size+2,s1.heap.objs.size+3,s1.heap.objs.size,s1.heap.objs.size+1],∀o,h'.get? c=some o->((h'.push { cls:=.type "list",data:=.seq #[] }).update h'.objs.size (Y8 λ_=>#[])).get? c=some o:=λc m o e=>(Yu _ _ (Wj (O c m).2)).trans (N c o e);refine Xw (wpAny_letGo ?_);refine Cd (A:=X.A.in1) (H0:=H1) Z.hd D R u i w I4 (λc m=>?_) (ax i (af.new i)) ab (n _ (by simp) _ y) ⟨_,_,n _ (by simp) _ E⟩ (h1.at λo e=>n _ (by simp) o e) (h2.at λo e=>n _ (by simp) o e) (n _ (by simp) _ W) λ_ M G I' V B hl Y=>⟨rfl,.ref _,M,I',rfl,q _ G M i V B hl Y⟩;have g:=O c m;refine t.tM g.1 ?_;rw[ap (U2 g.2),ap (U2 g.2)];exact t.hok.fresh g.1
end
section
open PySem.Spec PyProof.Rows PySem.W
def Es (K:Xz) (a r:Sh) (sp:Sp):V->Hp->VK->Prop:=λx H Q=>∃d kvs xs,x = .ref d/\Rd H d (.dK kvs)/\kvs.map (λkv=>kV kv.1)=xs/\xs.length<64/\sO sp xs [] H λks H1=>
 ∃kds,aD K H1 ks kds/\(∀d∈kds,(Sh.bC a r).has d)/\(∀d∈kds,d.depth<=100)/\∀(D:Za) (p:List Nat),H1 D=none->p.Perm (Y7 xs.length)->fW kds p->Q (.ref D) (upd H1 D (.lst (picked xs p)))
theorem zP {a r:Sh}{b:Bool}{k:Nat}{x:V}{Q:VK} (hc:X.calm=true) (S:iR a b) (F:aB X.prog X.w X.K X.mg X.base CX0 k f fd ps sp) (hr:bM (k+2) X.A) (O:Binds X.K fd ps []) (I:Inv X pins σ H s) (T:RelV x u) (h:Es X.K a r sp x H Q) :
  Zh (model X.prog X.w) X.A (call (.builtin "sorted") [u] [(Yo "key",.ref f)]) (EP X pins σ Q) X.xe s:=by
 obtain⟨d,kvs,ys,rfl,hq,B,_,q⟩:=h;cases T;obtain⟨z,C,vs,l,dd⟩:=uL I.hok hq;obtain⟨ep,W⟩:=dd.dictAt;have N:kvs.length=ys.length:=by have:=congrArg YV B;simpa using this
 have hl:=l.length;refine call_function_entry_kw kind_sorted plain_sorted entry_sorted (ksk_s1 _ _) ?_;unfold Builtin.«sorted»
 (refine Xw (m:=checkCount "sorted" 1 1 _) (Xv ?_))
 refine Xw (kdu_collect (A:=X.A.in1) (kdl_dict (knd:=a9 X.prog X.w) (kvs:=vs) (ep:=ep) C) (show X.A.in1.handled=none from I.ok.hd hc) W (by lia) λh1 i acc G L=>?_);have y:acc.toList.length=vs.length:=by rw[UZ];exact L.1
 have t:aQ ys acc.toList:=by
  rw[<-B];exact xA l (by lia) λj v e=>L.2 j v (by rw[<-Vn];exact e)
 (refine Xw (wpAny_newList ?_ (by rw[y,sizeLine_eq];lia)))
 have J:Inv X pins σ H { s with heap:=h1,toks:=i }:=I.kept (t':=i) G;have c:(h1.push (seqObj "list" acc.toList.toArray 0)).get? h1.objs.size=some (seqObj "list" acc.toList.toArray 0):=Y3 _ rfl;have g:∀b o,s.heap.get? b=some o->(h1.push (seqObj "list" acc.toList.toArray 0)).get? b=some o:=λb o e=>Xu _ (G b o e);show Zh _ _ (_ >>= λ_=>_) _ _ { s with heap:=h1.push (seqObj "list" acc.toList.toArray 0),toks:=i };generalize acc.toList=its at c g t y ⊢;generalize h1.push (seqObj "list" its.toArray 0)=h2 at c g ⊢;have U:Inv X pins σ H { s with heap:=h2,toks:=i }:=I.kept (t':=i) g;have n:H h1.objs.size=none:=J.hok.fresh (UD _);have M:cA X pins H h1.objs.size:=J.tM (UD _) n;generalize h1.objs.size=D at c n M ⊢;refine Xw (Xr (wpAny_call_entry_kw slot_list_sort ⟨_,c,rfl⟩ entry_list_sort ?body (ksk_l1 _ _)))
 case body=>
  show Zh (model X.prog X.w) X.A.in1.in1 (Builtin.«list.sort» ⟨[.ref D],[(Yo "key",.ref f)]⟩) _ _ _;rw[ksk_t1];refine uP (s:={ s with heap:=h2,toks:=i }) S F hr O U c M t (by lia) q λ_ _ ⟨E,C,P,Z,q2⟩=>⟨E,C,P,Z,λp _ Y k6 B R=>?_⟩;refine⟨_,rfl,Xv ⟨_,rfl,?_⟩⟩;exact⟨.ref _,_,R,rfl,q2 _ p B Y k6⟩
def Lf (K:Xz) (a r:Sh) (sp:Sp) (ta:TA):TE:=λσ H Q=>ta σ H λvs H1=>∃x,vs=[x]/\Es K a r sp x H1 Q
theorem FE {a r:Sh}{b:Bool}{k:Nat}{p g pos d:Pos} (v:iR a b) (F:aB X.prog X.w X.K X.mg X.base CX0 k f fd ps sp) (E:bM (k+2) X.A) (o:Binds X.K fd ps [])
  (N:Gl X "sorted") (z:X.mg "sorted" = none) (j:Gl X y) (l:X.mg y=some (.ref f)) (O:PA X [e] ta) (C:X.calm=true:=by rfl) (i:(y == ("__debug__" : Str))=false:=by decide)
  (t:backTo pos (Zi [e] X.env)=(false,eval e X.env)::backTo pos (Zi [] X.env):=by rfl) (J:(backTo pos (Zi [e] X.env)).any (·.1)=false:=by rfl)
  (G:(backToKw pos (keywordEach [⟨some "key",.Name y g,d⟩] X.env)).all (·.1.isSome)=true:=by rfl) (m:(backToKw pos (keywordEach [⟨some "key",.Name y g,d⟩] X.env)).any (·.1.isNone)=false:=by rfl) :
  PE X (.Call (.Name "sorted" p) [e] [⟨some "key",.Name y g,d⟩] pos) (Lf X.K a r sp ta):=by
 intro c s B H Q I h;refine wpAny_Call_Name_kw (fm I N z boot_sorted ?_);refine callWith_kw (thn (O pos c s B H _ I h) λ_ _ ⟨_,_,n,D,M⟩=>?_) t J G m;obtain⟨x,rfl,q⟩:=M;obtain⟨u,rfl,L⟩:=D.one;refine kws_cons (kC n j l (kws_nil ?_) i);exact zP C v F E o n L q
def L4:V->Uj->Hp->VK->Prop:=λx vs H Q=>∃(l:Za) (i:Nat) (y:V) (r:Uj),x = .ref l/\vs=[.int (i:Int),y]/\H l=some (.lst r)/\i<=r.length/\r.length<Zg/\Q .non (upd H l (.lst (r.take i++y::r.drop i)))
theorem EV (h:aQ xs us):∀i,aQ (xs.take i) (us.take i):=by
 induction h with
 | nil=>intro i;simpa using Paired.nil
 | cons r t a=>
  intro i;cases i with
  | zero=>exact .nil
  | succ i=>simpa using Paired.cons r (a i)
theorem FU (h:aQ xs us):∀i,aQ (xs.drop i) (us.drop i):=by
 induction h with
 | nil=>intro i;simpa using Paired.nil
 | cons r t a=>
  intro i;cases i with
  | zero=>exact .cons r t
  | succ i=>simpa using a i
theorem Lx:MtR X "list.insert" L4:=by
 intro _ s _ H x _ v _ Q I d b h;obtain⟨l,i,y,r,rfl,rfl,hH,_,_,q⟩:=h;cases d;generalize hj:(i:Int)=j at b;cases b with
 | cons m g=>
  obtain⟨u,rfl,o⟩:=aQ.one g;obtain⟨p,rfl⟩:=m;obtain⟨z,a,n,c,_,e⟩:=I.A2 hH;have f:=sizeLine_eq;have k:¬ (!Builtin.List.listFitsIndex j)=true:=by
   rw[<-hj];unfold Builtin.List.listFitsIndex;have:i<10000000000000:=by lia
   simp;lia
  have M:=PySem.AutoSeq1.list_insert_list_int_val_1 l a.toArray n j p u k (by rw[UN];lia);refine call_meets F.slot_list_insert ⟨_,e,rfl⟩ F.entry_list_insert (F.args_list_insert_3 _ _ _) M ⟨e,?_⟩;refine⟨.non,_,I.zX (lV:=a.take i++u::a.drop i) hH e ?_ ((EV c i).append (.cons o (FU c i))) ?_,rfl,q⟩
  ·apply VZ.mp;rw[<-hj];have:¬ (i:Int)<0:=by lia
   simp[this];rw[Wq (by lia),show List.take (a.length - i) (a.drop i)=a.drop i from UP (by rw[VY];exact UD _)]
  ·rw[UH,U1,UT,VY];lia
structure PAi (X:Cx) (es:List Expr) (t:TA):Prop where
 go:PA X es t
structure PSi (X:Cx) (st:Stmt) (t:TS):Prop where
 go:PS X st t
structure Uv (X:Cx) (st:List Stmt) (t:TS):Prop where
 go:PSs X st t
theorem Cz:bootBuiltins "set" = some (.type "set"):=by decide +kernel
def O9 (T:Za) (H:Hp):Prop:=∀b,H b=none\/(∃o xs,H b=some (.frz o (.lst xs)))\/(b=T/\H b=some (.tbl #[]))
theorem FF {P:Zd}{w:Ze}{M:Str->Option Xy}{k:Nat}{D:Za}{fd:Zb}{sp:Sp}{s₁:Xx}{vs:WF}{ns:List Int}
  (W:K.In s₁.heap) (hT:s₁.heap.get? T=some (tabObj #[])) (hc:CodeHd s₁.heap c T) (J:K.lookup T=none)
  (C:s₁.heap.Ns mainGlobals mg) (f:s₁.heap.Ns builtinsNs M) (L:∀x:Str,x ≠ "__name__" -> M x=bootBuiltins x) (RX:s₁.heap.NoLimit) (hg:s₁.gens = #[])
  (l:s₁.heap.get? a=some { cls:=.type "list",data:=.seq vs.toArray }) (hi:IntsAre vs ns) (X:ns.length<=Zg) (hr:bM k callerA)
  (F:∀base:Heap,aB P w K mg base CX0 k D fd [x] sp) (QW:∀(s:Xx) (u:Xy),BindsTo s fd ⟨[u],[]⟩ [(x,u)])
  (I:∀H:Hp,H T=some (.tbl #[])->SqL K H a (ns.map V.int)->sp [.ref a] H (λv _=>v = .bl true) λ_ _ _=>False) :
  codeAny (model P w) callerA (.call (.ref D) ⟨[.ref a],[]⟩) (λr s'=>r = .ok (.ret (.bool true))/\OldK s₁.heap s'.heap/\s'.os=s₁.os/\AllBare s'.gens) s₁:=by
 have R:=xP hi;have R8:=hi.length;have t:a≠T:=nn l hT
 have core:∀H:Hp,O9 T H->H T=some (.tbl #[])->SqL K H a (ns.map V.int)->HOk P w H s₁.heap->(∀b,H b≠none->b=a\/b=T)->(H a≠none->K.lookup a=none) ->
   codeAny (model P w) callerA (.call (.ref D) ⟨[.ref a],[]⟩) (λr s'=>r = .ok (.ret (.bool true))/\OldK s₁.heap s'.heap/\s'.os=s₁.os/\AllBare s'.gens) s₁:=by
  intro H hO E hS y hA hK;have j:∀{b:Za}{m:Str->Option Xy},s₁.heap.Ns b m->(z5 s₁.heap H).Ns b m:=λ{b m} ⟨o,B,ep,e,d,r⟩=>⟨o,B,ep,Av e (by
   cases q:H b with
   | none=>rfl
   | some u=>
    rcases hA b (by rw[q];simp)with rfl | rfl
    ·rw[l]at e;cases e;have Q:Data.seq vs.toArray _=Data.dict B ep:=d;cases Q
    ·rw[hT]at e;cases e;have Q:Data.fields #[]=Data.dict B ep:=d;cases Q),d,r⟩
  have N:K.In (z5 s₁.heap H):=λb o e=>Av (W b o e) (by
   cases q:H b with
   | none=>rfl
   | some u=>
    rcases hA b (by rw[q];simp)with rfl | rfl
    ·rw[hK (by rw[q];simp)]at e;cases e
    ·rw[J]at e;cases e)
  have hM:Mod K mg (z5 s₁.heap H):=⟨N,j C,⟨M,j f,L⟩,let ⟨mc,h1,h2⟩:=RX;⟨mc,j h1,h2⟩⟩;have e0:uM P w K mg (z5 s₁.heap H) callerA [] s₁ H:=⟨rfl,hM,λb o e=>Kw e,W4 (EC _ _),trivial,λb f=>absurd (show b∈([]:Uz)from f) (by simp),y,.of_eq hg⟩;refine codeAny_mono ((F _).run callerA [] s₁ H ⟨[.ref a],[]⟩ [.ref a] [.ref a] _ _ hr e0 (QW s₁ (.ref a)) (.cons rfl .nil) (I H E hS)) λr s' h=>?_;cases r with
  | error e=>exact False.elim h
  | ok fl=>
   cases fl with
   | next=>exact False.elim h
   | brk=>exact False.elim h
   | cont=>exact False.elim h
   | ret u=>
    obtain⟨v,_,os,p,A,U,r',q⟩:=h;have q':v = .bl true:=q;subst q';obtain rfl:u=Value.bool true:=r';refine⟨rfl,⟨λb o e=>?_,λb o e=>A.there b o e (by simp)⟩,os,p⟩;rcases hO b with z | ⟨ob,_,z⟩ | ⟨rfl,z⟩
    ·exact .inl (A.keep b o e z (by intro z;exact absurd (show b∈([]:Uz)from z) (by simp)) (by simp))
    ·have O:=A.tN b ob _ z;obtain⟨S,_⟩:=y b _ z;obtain⟨G,_⟩:=U b _ O;rw[e]at S;cases S;exact .inl G
    ·obtain⟨n,O⟩:=A.tF b _ z;have G:=U b _ O;rw[hT]at e;cases e;obtain⟨oc,fs,_,_,_,_,_,_,_,c1,Z,c3,c4,_⟩:=hc;have Y:s₁.heap.TableAt c b #[]:=⟨⟨oc,fs,c1,Z,c3,c4⟩,hT⟩;exact .inr (.inl ⟨Y.isCodeTable,rfl,#[],n,rfl,G⟩)
 cases hk:K.lookup a with
 | some o=>
  have e:=W a o hk;rw[l]at e;cases e;refine core (λb=>if b=T then some (.tbl #[])else none) (λb=>?_) (Zn rfl) (.inr ⟨_,vs.toArray,_,hk,rfl,rfl,rfl,by rw[UN,R8];exact X,by simpa using R⟩) (λb u z=>?_) (λb z=>?_) λz=>absurd (Zo t) z
  ·by_cases f:b=T
   ·exact .inr (.inr ⟨f,Zn f⟩)
   ·exact .inl (Zo f)
  ·by_cases f:b=T
   ·have i:=(Zn f).symm.trans z;cases i;subst f;exact hT
   ·have i:=(Zo f).symm.trans z;cases i
  ·by_cases f:b=T
   ·exact .inr f
   ·exact absurd (Zo f) z
 | none=>
  refine core (λb=>if b=T then some (.tbl #[])else if b=a then some (.frz { cls:=.type "list",data:=.seq vs.toArray } (.lst (ns.map V.int)))else none) (λb=>?_) (Zn rfl)
   (.inl (.inr ⟨{ cls:=.type "list",data:=.seq vs.toArray },(Zo t).trans (Zn rfl)⟩)) (λb u z=>?_) (λb z=>?_) λ_=>hk
  ·by_cases f:b=T
   ·exact .inr (.inr ⟨f,Zn f⟩)
   ·by_cases g:b=a
    ·exact .inr (.inl ⟨_,_,(Zo f).trans (Zn g)⟩)
    ·exact .inl ((Zo f).trans (Zo g))
  ·by_cases f:b=T
   ·have i:=(Zn f).symm.trans z;cases i;subst f;exact hT
   ·by_cases g:b=a
    ·have i:=((Zo f).trans (Zn g)).symm.trans z;cases i;subst g;exact⟨l,by rw[UA];exact X,vs,_,R,l⟩
    ·have i:=((Zo f).trans (Zo g)).symm.trans z;cases i
  ·by_cases f:b=T
   ·exact .inr f
   ·by_cases g:b=a
    ·exact .inl g
    ·exact absurd ((Zo f).trans (Zo g)) z
theorem HH {l:W.OpenLaw}{k:Nat}{q:Zd}{loose:Uq}{D:(Str->Option Xy)->Heap->Prop}{y:Ze->Heap->Prop}{d:DefRec}{K:Params->Xz}{sp:Ze->Sp}
  (L:l.most=some n) (t:n<=Zg) (j:d.params.defaults=[]) (J:bM k callerA)
  (B:∀(w:Ze) (h:Heap),y w h->(K w.params).In h/\h.get? T=some (tabObj #[])) (E:∀(w:Ze) (h:Heap),(K w.params).In h->CodeHd h c T) (p:∀w:Ze,(K w.params).lookup T=none)
  (F:∀(w:Ze) (mg:Str->Option Xy) (fa:Za) (h:Heap),(K w.params).In h->h.Ns mainGlobals mg->mg d.name=some (.ref fa) ->
   ∃fd:Zb,(∀(s:Xx) (u:Xy),BindsTo s fd ⟨[u],[]⟩ [(x,u)])/\∀base:Heap,aB l.prog w (K w.params) mg base CX0 k fa fd [x] (sp w))
  (m:∀(w:Ze) (H:Hp) (a:Za) (ns:List Int),ns.length<=n->H T=some (.tbl #[])->SqL (K w.params) H a (ns.map V.int)->sp w [.ref a] H (λv _=>v = .bl true) λ_ _ _=>False) :
  W.WalkO q loose D y l.row.toRowW d [] (λf vs=>PySem.call f vs):=by
 refine Att.BB L j λw _ _ mg _ fa o _ _ _ a vs ns G Y _ _ _ r z A e M=>?_;obtain⟨i,hT⟩:=B w _ Y;obtain⟨fd,C,hF⟩:=F w mg fa _ i G.T.g r;exact FF i hT (E w _ i) (p w) G.T.g G.T.b G.T.builtins G.T.nolimit M z A (UK e t) J hF C (λH I hS=>m w H a ns e I hS)
end
end L2
namespace LG
open PySem L2 PySem.Builtin PySem.Builtin.Str
def sgn (c:Nat):Bool:=decide (33<=c) && decide (c<=126) && decide (c≠37)
def dig (c:Nat):Bool:=decide (48<=c) && decide (c<=57)
def low (c:Nat):Bool:=decide (97<=c) && decide (c<=122)
def eu (p:Nat->Bool) (l:List Nat):Bool:=!l.isEmpty && l.all p
def bH:List Nat->List Nat
 | 45::r=>r
 | l=>l
def HK (l:List Nat):Nat:=if eu dig (bH l)=true then 0 else if eu low l=true then 1 else 2
def dN (z:Str):Bool:=eu sgn z.cps.toList
def dX (z:Str):Nat:=HK z.cps.toList
def mw:Nat->Str
 | 0=> "number"
 | 1=> "name"
 | _=> "other"
def cK:Nat->Str
 | 0=> "number"
 | 1=> "name"
 | _=> "any"
theorem qr (h:x.cps.toList=y.cps.toList):x=y:=by
 cases x;cases y;simp only[Str.mk.injEq];exact VZ.mp h
theorem takeWhile_all {α:Type}{p:α->Bool}:∀{l:List α},(l.takeWhile p).length=l.length↔l.all p=true
 | []=>by simp
 | a::r=>by
  rw[List.takeWhile_cons,Wp];by_cases h:p a=true
  ·rw[Zn h,h,V4];simp only[U1,Nat.add_right_cancel_iff];exact takeWhile_all
  ·rw[Zo h];simp[h]
theorem strip_nil (z y:Str):decide (V.str (Z0 z y)=V.str "")=z.cps.toList.all (λc=>y.cps.contains c):=by
 have e:Z0 z y=strSub z (stripLo (λc=>y.cps.contains c) true z) (stripHi (λc=>y.cps.contains c) true z (stripLo (λc=>y.cps.contains c) true z)):=PyProof.Rows.stripBy_eq _ true true z;have d:=PyProof.Rows.lo_facts (λc=>y.cps.contains c) z;have f:=PyProof.Rows.hi_facts (λc=>y.cps.contains c) z (stripLo (λc=>y.cps.contains c) true z) d.1;have a:stripLo (λc=>y.cps.contains c) true z=(z.cps.toList.takeWhile λc=>y.cps.contains c).length:=by simp[stripLo]
 have g:z.length=z.cps.toList.length:=by simp[YX]
 (rw[Va,decide_eq_true_eq])
 constructor
 ·intro h;have j:(Z0 z y).cps.size=0:=by
   have:Z0 z y = "" :=by injection h
   rw[this];rfl
  rw[e]at j;have b:stripHi (λc=>y.cps.contains c) true z (stripLo (λc=>y.cps.contains c) true z)<=stripLo (λc=>y.cps.contains c) true z:=by
   have i:(Array.extract z.cps (stripLo (λc=>y.cps.contains c) true z) (stripHi (λc=>y.cps.contains c) true z (stripLo (λc=>y.cps.contains c) true z))).size=0:=j;rw[WO]at i;have l:=f.2.1;have k:z.length=z.cps.size:=rfl;lia
  rcases Vs (stripLo (λc=>y.cps.contains c) true z) z.length with hl | hl
  ·rcases d.2.2 with q | q
   ·lia
   ·have:=f.2.2.1 (stripLo (λc=>y.cps.contains c) true z) b hl;rw[q]at this;cases this
  ·have q:stripLo (λc=>y.cps.contains c) true z=z.length:=Nat.le_antisymm d.1 hl;rw[a,g]at q;exact takeWhile_all.mp q
 ·intro h;have b:=takeWhile_all.mpr h;rw[<-a,<-g]at b;have:Z0 z y = "" :=by
   rw[e,b];refine qr ?_;have i:=f.2.1;refine Vr ?_;show(Array.extract z.cps z.length _).toList.length=0;rw[UZ,WO];have k:z.length=z.cps.size:=rfl;lia
  rw[this]
theorem Ao (z:Str):(Txt.removeprefix z "-").cps.toList=bH z.cps.toList:=by
 rw[StrLaws.removeprefix_eq];have d:(("-" : Str)).length=1:=rfl;have j:(("-" : Str)).cps = #[45]:=by decide +kernel
 rw[d];have f:z.length=z.cps.toList.length:=by simp[YX]
 have k:subAt z "-" 0=(z.cps.extract 0 (0+1) == #[45]):=by
  unfold subAt;rw[d,j]
 rw[k];cases e:z.cps.toList with
 | nil=>
  have b:z.length=0:=by rw[f,e];rfl
  rw[b];simp[bH,e]
 | cons a r=>
  have b:z.length=r.length+1:=by rw[f,e];rfl
  have g:z.cps.extract 0 (0+1) = #[a]:=by
   apply VZ.mp;rw[Array.toList_extract,e];simp
  rw[g,b];by_cases c:a=45
  ·subst c;simp[bH]
  ·have i:(#[a] == #[45])=false:=by
    rw[beq_eq_false_iff_ne];intro h;apply c;simpa using h
   rw[i];simp only[Wz,Ve,if_false];rw[e];unfold bH
   split
   ·rename_i q;cases q;exact(c rfl).elim
   ·rfl
section
open PySem.StrLaws
def isB (l:List Nat) (i:Nat):Bool:=decide (l[i]? = some 32)
theorem z6:∀l:List Nat,(Y7 l.length).countP (isB l)=l.count 32
 | []=>rfl
 | a::r=>by
  rw[U1,List.range_succ_eq_map,VL,List.countP_map,List.count_cons];have e:(isB (a::r) ∘ Nat.succ)=isB r:=by funext i;simp[isB]
  rw[e,z6 r];have b:isB (a::r) 0=(a == 32):=by rw[Va];simp[isB]
  rw[b]
theorem w9 (z:Str) (i:Nat):subAt z " " i=isB z.cps.toList i:=by
 have b:((" " : Str)).cps.toList=[32]:=by decide +kernel
 have d:((" " : Str)).length=1:=rfl;rw[subAt_eq,d,b];unfold isB;cases e:z.cps.toList[i]? with
 | none=>
  rw[Vy (Wm.mp e)];decide
 | some c=>
  have a:=aH e;rw[Vk a];rw[UB a]at e;cases e;rw[Va];simp
theorem vp (z:Str) (c:Nat) (f:z.length<c):∀(m k:Nat) (st:Array Nat×Nat),k+m<=z.length+1->st.1.size<=k->st.2<=k ->
  st.1.size+(List.range' k m).countP (isB z.cps.toList)<=(forIn (List.range' k m) st (occBody z " " z.length c)).run.1.size
 | 0,k,st,_,_,_=>by
  simp only[List.range'_zero,List.countP_nil,Nat.add_zero,List.forIn_nil];exact UD _
 | m+1,k,st,hk,hs,hf=>by
  have d:((" " : Str)).length=1:=rfl;rw[List.range'_succ,Ws,VL];unfold occBody;by_cases a:isB z.cps.toList k=true
  ·have g:k<z.length:=by
    have:z.cps.toList[k]? = some 32:=by simpa[isB]using a
    have:=aH this;simpa[YX]using this
   rw[Zn a,Zn ⟨⟨⟨by lia,hf⟩,by rw[d];lia⟩,by rw[w9];exact a⟩];have b:=vp z c f m (k+1) (st.1.push k,k+((" " : Str)).length) (by lia) (by show(st.1.push k).size<=k+1;rw[WJ];lia) (by show k+_<=k+1;rw[d];exact UD _);have e:(st.1.push k,k+((" " : Str)).length).1.size=st.1.size+1:=by show(st.1.push k).size=_;rw[WJ]
   rw[e]at b;refine UK ?_ b;lia
  ·rw[Zo a,Zo (by rw[w9];exactλh=>a h.2)];have b:=vp z c f m (k+1) (st.1,st.2) (by lia) (by show st.1.size<=_;lia) (by show st.2<=_;lia);exact b
theorem xF (z:Str):z.cps.toList.count 32<=(occurrences z " " 0 z.length (z.length+1)).length:=by
 rw[occ_eq];have h:=vp z (z.length+1) (Wl _) (z.length+1) 0 (#[],0) (by lia) (by simp) (UD _);have e:(List.range' 0 (z.length+1)).countP (isB z.cps.toList)=z.cps.toList.count 32:=by
  rw[<-List.range_eq_range',Wr,List.countP_append];have a:z.length=z.cps.toList.length:=by simp[YX]
  have b:isB z.cps.toList z.length=false:=by
   unfold isB;rw[a,Vp (UD _)];rfl
  rw[a,z6,<-a];simp[b]
 rw[e]at h;simp only[UZ];have c:((#[]:Array Nat),0).1.size=0:=rfl;rw[c,W3]at h;exact h
theorem Dq (z:Str):(Y4 z " ").length=(occurrences z " " 0 z.length (z.length+1)).length+1\/(Y4 z " " = [z]/\z.cps.toList.count 32=0):=by
 unfold Y4
 split
 ·rename_i h
  right
  refine⟨rfl,?_⟩;rw[Bool.or_eq_true,decide_eq_true_eq,decide_eq_true_eq]at h;have b:((" " : Str)).length=1:=rfl;rcases h with h | h
  ·have a:z.cps.toList=[]:=Vr (by rw[UZ];have:z.length=z.cps.size:=rfl;lia);rw[a];rfl
  ·exfalso;have e:PySem.Builtin.Str.strKind (" " : Str)=1:=by decide +kernel
   rw[e]at h;unfold PySem.Builtin.Str.strKind at h
   split at h
   ·lia
   ·split at h <;> lia
 ·split
  ·rename_i h
   right
   refine⟨rfl,?_⟩;have:=xF z;rw[WB.mp h]at this;simpa using this
  ·left
   rw[length_partsBetween]
theorem C3 (ts:Uq) (a:ts≠[]):(Z5 " " ts).cps.toList.count 32=(ts.map λt=>t.cps.toList.count 32).sum+(ts.length - 1):=by
 have c:((" " : Str)).cps.toList=[32]:=by decide +kernel
 induction ts with
 | nil=>exact(a rfl).elim
 | cons x r b=>
  cases r with
  | nil=>show x.cps.toList.count 32=_;simp
  | cons y r=>
   have e:Z5 " " (x::y::r)=x ++ " " ++ Z5 " " (y::r):=rfl;rw[e];have d:(x++(" " : Str)++Z5 " " (y::r)).cps.toList=x.cps.toList++[32]++(Z5 " " (y::r)).cps.toList:=by
    rw[<-c]
    (simp only[Str.cps_append,Wo])
   rw[d,WV,WV,b (by simp)];simp only[UW,Vo,U1,List.count_singleton_self];lia
theorem zW:∀{l:List Nat},l.sum=0->∀x∈l,x=0
 | [],_,x,h=>by cases h
 | a::r,hs,x,h=>by
  simp only[Vo]at hs
  (rcases UR.mp h with rfl | h)
  ·lia
  ·exact zW (by lia) x h
theorem split_free (z:Str):∀x∈Y4 z " ",32∉x.cps.toList:=by
 intro x a;have d:=StrLaws.join_split z " ";have b:Y4 z " " ≠ []:=by intro e;rw[e]at a;cases a
 have c:=C3 (Y4 z " ") b;rw[d]at c;rcases Dq z with h | h
 ·rw[h]at c;have i:=xF z;have f:(List.map (λt:Str=>t.cps.toList.count 32) (Y4 z " ")).sum=0:=by lia
  have g:=zW f (x.cps.toList.count 32) (UE.mpr ⟨x,a,rfl⟩);exact WN.mp g
 ·rw[h.1]at a;simp only[UG]at a;subst a;exact WN.mp h.2
theorem Kl {a b c d:List Nat} (h:a++32::b=c++32::d) (g:32∉a) (f:32∉c):a=c/\b=d:=by
 induction a generalizing c with
 | nil=>
  cases c with
  | nil=>simp at h;exact⟨rfl,h⟩
  | cons e c=>simp at h;exact(f (by simp[<-h.1])).elim
 | cons e a i=>
  cases c with
  | nil=>simp at h;exact(g (by simp[h.1])).elim
  | cons _ c=>
   simp only[W2,List.cons.injEq]at h;obtain⟨j,k⟩:=i h.2 (λq=>g (UJ _ q)) (λq=>f (UJ _ q));exact⟨by rw[h.1,j],k⟩
theorem DR (x y:Str) (r:Uq):(Z5 " " (x::y::r)).cps.toList=x.cps.toList++32::(Z5 " " (y::r)).cps.toList:=by
 have a:((" " : Str)).cps.toList=[32]:=by decide +kernel
 have e:Z5 " " (x::y::r)=x ++ " " ++ Z5 " " (y::r):=rfl;rw[e];simp only[Str.cps_append,Wo,a,WW,List.singleton_append]
theorem BG:∀{ts us:Uq},ts≠[]->us≠[]->(∀x∈ts,32∉x.cps.toList)->(∀x∈us,32∉x.cps.toList)->(Z5 " " ts).cps.toList=(Z5 " " us).cps.toList->ts=us
 | [x],[y],_,_,_,_,h=>by rw[qr (x:=x) (y:=y) h]
 | [x],y::y2::r,_,_,hx,_,h=>by
  rw[DR]at h;have h:x.cps.toList=y.cps.toList++32::(Z5 " " (y2::r)).cps.toList:=h;exact(hx x (by simp) (by rw[h];simp)).elim
 | x::x2::r,[y],_,_,_,hy,h=>by
  rw[DR]at h;have h:x.cps.toList++32::(Z5 " " (x2::r)).cps.toList=y.cps.toList:=h;exact(hy y (by simp) (by rw[<-h];simp)).elim
 | x::x2::r,y::y2::q,_,_,hx,hy,h=>by
  rw[DR,DR]at h;obtain⟨b,c⟩:=Kl h (hx x (by simp)) (hy y (by simp));have:=BG (ts:=x2::r) (us:=y2::q) (by simp) (by simp) (λz a=>hx z (UJ _ a)) (λz a=>hy z (UJ _ a)) c;rw[qr b,this]
theorem De (a:ws≠[]) (h:∀x∈ws,32∉x.cps.toList):Y4 (YG " " ws) " " = ws:=by
 have e:YG " " ws=Z5 " " ws:=StrLaws.glued_eq_join " " ws;have b:=StrLaws.join_split (YG " " ws) " ";refine BG ?_ a (split_free _) h ?_
 ·intro e;have:=(L2.vH (z:=YG " " ws) (y:= " ")).1;rw[e]at this;exact absurd this (by decide)
 ·rw[b,e]
end
theorem qR (y:Str) (p:Nat->Bool) (h1:∀c<200,y.cps.contains c=p c) (h2:∀x∈y.cps.toList,x<200) (a:∀c,200<=c->p c=false):(λc=>y.cps.contains c)=p:=by
 funext c
 rcases Vs c 200 with h | h
 ·exact h1 c h
 ·rw[a c h];rw[U3];intro q;have:=h2 c (by simpa using q);lia
theorem Lb (c:Nat) (h:200<=c):sgn c=false:=by unfold sgn;rw[Zl (show¬ c<=126 by lia)];simp
theorem K4 (c:Nat) (h:200<=c):dig c=false:=by unfold dig;rw[Zl (show¬ c<=57 by lia)];simp
theorem KO (c:Nat) (h:200<=c):low c=false:=by unfold low;rw[Zl (show¬ c<=122 by lia)];simp
@[irreducible] def FQ:Str:= "0123456789"
@[irreducible] def F2:Str:= "abcdefghijklmnopqrstuvwxyz"
@[irreducible] def xp:Str:= "!\"#$&'()*+,-./0123456789:;<=>?@ABCDEFGHIJKLMNOPQRSTUVWXYZ[\\]^_`abcdefghijklmnopqrstuvwxyz{|}~"
theorem J4:FQ = "0123456789" :=by unfold FQ;rfl
theorem K2:F2 = "abcdefghijklmnopqrstuvwxyz" :=by unfold F2;rfl
theorem Jw:xp = "!\"#$&'()*+,-./0123456789:;<=>?@ABCDEFGHIJKLMNOPQRSTUVWXYZ[\\]^_`abcdefghijklmnopqrstuvwxyz{|}~" :=by unfold xp;rfl
theorem Hr:(λc=>FQ.cps.contains c)=dig:=qR _ _ (by decide +kernel) (by decide +kernel) K4
theorem Jk:(λc=>F2.cps.contains c)=low:=qR _ _ (by decide +kernel) (by decide +kernel) KO
theorem EZ:(λc=>xp.cps.contains c)=sgn:=qR _ _ (by decide +kernel) (by decide +kernel) Lb
theorem qB (z:Str):decide (V.str z=V.str "")=z.cps.toList.isEmpty:=by
 rw[Va,decide_eq_true_eq,WB];constructor
 ·intro h;have:z = "" :=by injection h
  rw[this];rfl
 ·intro h;have:z = "" :=qr (by rw[h];rfl);rw[this]
theorem Lv (z y:Str):((!decide (V.str z=V.str "")) && decide (V.str (Z0 z y)=V.str ""))=eu (λc=>y.cps.contains c) z.cps.toList:=by
 rw[qB,strip_nil];rfl
theorem E3 (hi:i<3) (a:j<3):decide (V.str (mw i)=V.str (mw j))=decide (i=j):=by
 match i,j,hi,a with
 | 0,0,_,_=>decide +kernel
 | 0,1,_,_=>decide +kernel
 | 0,2,_,_=>decide +kernel
 | 1,0,_,_=>decide +kernel
 | 1,1,_,_=>decide +kernel
 | 1,2,_,_=>decide +kernel
 | 2,0,_,_=>decide +kernel
 | 2,1,_,_=>decide +kernel
 | 2,2,_,_=>decide +kernel
theorem vL (l:List Nat):HK l<3:=by
 unfold HK
 split
 ·decide
 ·split <;> decide
def eL (l:List Nat):Nat:=if eu dig (bH l)=true then 0 else if l.all low=true then 1 else 2
theorem AN (z:Str):∀(n a:Nat),a+n<=z.cps.toList.length->((Y7 n).map λk=>a+k).filterMap (λi=>z.cps[i]?)=(z.cps.toList.drop a).take n
 | 0,a,_=>by simp
 | n+1,a,h=>by
  rw[Wr,UL,Vu,AN z n a (by lia)];have b:a+n<z.cps.toList.length:=by lia
  have e:z.cps[a+n]? = some (z.cps.toList[a+n]):=by
   rw[<-Vn,UB b]
  simp only[UW,VQ,Vq,e,List.filterMap_nil];rw[List.take_succ,List.getElem?_drop,UB b];rfl
theorem wN (z:Str) {l u:Option Int}{a:Nat} (h:strSliceIndices l u 1 z.length=(Y7 n).map λk=>a+k) (e:a+n<=z.length):(YO z l u).cps.toList=(z.cps.toList.drop a).take n:=by
 have d:z.length=z.cps.toList.length:=by simp[YX]
 unfold YO;rw[h]
 split
 ·rename_i hc;have b:n=z.length:=by simpa using hc
  have c:a=0:=by lia
  subst c;rw[WM,UP (by lia)]
 ·show(YJ _).toList=_;rw[List.toList_toArray];exact AN z n a (by lia)
theorem vo (z:Str):(YO z none (some 1)).cps.toList=z.cps.toList.take 1:=by
 have a:z.length=z.cps.toList.length:=by simp[YX]
 have h:strSliceIndices none (some 1) 1 z.length=(Y7 (min 1 z.length)).map λk=>0+k:=by
  (unfold strSliceIndices sliceRange)
  simp only[show(1:Int) > 0 by decide,if_true,show¬ (1:Int)<0 by decide,if_false];have e:(if (0:Int)<max 0 (min 1 (z.length:Int))then(max 0 (min 1 (z.length:Int)) - 0+1 - 1) / 1 else 0).toNat=min 1 z.length:=by
   split <;> lia
  rw[e]
  (refine U5 λk _=>?_)
  lia
 rw[wN z h (by lia),WM];rcases Nat.eq_zero_or_pos z.length with q | q
 ·have:z.cps.toList=[]:=Vr (by lia);rw[this];simp
 ·rw[Wq q]
theorem C5 (z:Str):(YO z (some 1) none).cps.toList=z.cps.toList.drop 1:=by
 have b:z.length=z.cps.toList.length:=by simp[YX]
 have h:strSliceIndices (some 1) none 1 z.length=(Y7 (z.length - 1)).map λk=>min 1 z.length+k:=by
  (unfold strSliceIndices sliceRange)
  simp only[show(1:Int) > 0 by decide,if_true,show¬ (1:Int)<0 by decide,if_false];have e:(if max 0 (min 1 (z.length:Int))<(z.length:Int)then((z.length:Int) - max 0 (min 1 (z.length:Int))+1 - 1) / 1 else 0).toNat=z.length - 1:=by
   split <;> lia
  rw[e];refine U5 λk a=>?_;have:=Vj.mp a;lia
 rw[wN z h (by lia)];rcases Nat.eq_zero_or_pos z.length with q | q
 ·have:z.cps.toList=[]:=Vr (by lia);rw[this];simp
 ·rw[Wq q,UP (by rw[VY];lia)]
theorem E2 (z:Str):decide (V.str (YO z none (some 1))=V.str "-")=decide (z.cps.toList.head? = some 45):=by
 have c:(("-" : Str)).cps.toList=[45]:=by decide +kernel
 (rw[Va,decide_eq_true_eq,decide_eq_true_eq])
 constructor
 ·intro h;have e:YO z none (some 1) = "-" :=by injection h
  have b:=vo z;rw[e,c]at b;cases q:z.cps.toList with
  | nil=>rw[q]at b;simp at b
  | cons a r=>rw[q]at b;simp at b;simp[b]
 ·intro h;have e:YO z none (some 1) = "-" :=by
   refine qr ?_;rw[vo,c];cases q:z.cps.toList with
   | nil=>rw[q]at h;simp at h
   | cons a r=>rw[q]at h;simp at h;simp[h]
  rw[e]
theorem z7 {l:List Nat} (h:l.head? = some 45):l.drop 1=bH l:=by
 cases l with
 | nil=>simp at h
 | cons a r=>simp at h;subst h;rfl
theorem CW {l:List Nat} (h:l.head? ≠ some 45):l=bH l:=by
 cases l with
 | nil=>rfl
 | cons a r=>
  unfold bH
  split
  ·rename_i q;cases q;exact(h rfl).elim
  ·rfl
theorem lt1 (a b:Nat):decide ([a] < [b])=decide (a<b):=by
 (rw[Va,decide_eq_true_eq,decide_eq_true_eq])
 constructor
 ·intro h;cases h with
  | rel h=>exact h
  | cons h=>cases h
 ·intro h;exact List.Lex.rel h
theorem le1 (a b:Nat):(!decide (([b]:List Nat) < [a]))=decide (a<=b):=by
 rw[lt1];by_cases h:b<a
 ·rw[Zk h,Zl (by lia)];rfl
 ·rw[Zl h,Zk (by lia)];rfl
theorem lP {a b:Str}{lo hi c:Nat} (g:a=⟨#[lo]⟩) (f:b=⟨#[hi]⟩) {R:Bool->Hp->Prop} (h:R (!(decide (lo<=c) && decide (c<=hi))) H2) :
  Ou (wO (y9 (λx y H Q=>∃i j,x = .str i/\y = .str j/\Q (.bl (!decide (j.cps.toList<i.cps.toList))) H) (λx y H Q=>∃i j,x = .str i/\y = .str j/\Q (.bl (!decide (j.cps.toList<i.cps.toList))) H) (tC (.str a)) (rD 0) (tC (.str b)))) [some (.str ⟨#[c]⟩)] H2 R:=by
 subst g f;refine⟨_,rfl,_,_,rfl,rfl,_,rfl,?_⟩;have e:(!decide ((⟨#[c]⟩:Str).cps.toList<(⟨#[lo]⟩:Str).cps.toList))=decide (lo<=c):=le1 lo c;rw[e];by_cases d:lo<=c
 ·rw[Zk d]at h ⊢;rw[Zn rfl];refine⟨_,_,rfl,rfl,_,rfl,?_⟩;have k:(!decide ((⟨#[hi]⟩:Str).cps.toList<(⟨#[c]⟩:Str).cps.toList))=decide (c<=hi):=le1 c hi;rw[k];rw[V4]at h;exact h
 ·rw[Zl d]at h ⊢;rw[Zo UO];refine⟨_,rfl,?_⟩;rw[Bool.false_and]at h;exact h
def sg (c:Nat):Str:=⟨#[c]⟩
section
variable {Q:VK}
theorem A9 (f:Nat->Bool) (hz:Y1 z=true) (r:z.length<=1000000) (h:H D=none) (l:∀(c:Nat) (H2:Hp) (R:Bool->Hp->Prop),R (f c) H2->tt [some (.str ⟨#[c]⟩)] H2 R)
  (o:∀(H2:Hp),af H H2->H2 D=some (.lst (((z.cps.toList.filter f).map sg).map V.str))->Q (.ref D) H2) :
  pG (aZ 0) tt (rD 0) (Its z) D Q [none] (upd H D (.lst [])):=by
 have m:z.length=z.cps.toList.length:=by simp[YX]
 refine GK (λi b g H2=>(∃u,g=[u])/\af H H2/\b=((((z.cps.toList.take i).filter f).map sg).map V.str)) ab ⟨⟨_,rfl⟩,af.new h,rfl⟩ (λi c b g H2 n a p=>?_) (λb g H2 a p=>?_)
 ·obtain⟨⟨u,rfl⟩,e,rfl⟩:=p;have d:z.cps.toList[i]? = some c:=by rw[Vn];exact n
  have q:i<z.cps.toList.length:=aH d;have j:z.cps.toList.take (i+1)=z.cps.toList.take i++[c]:=by rw[UX,d];rfl
  have k:((((z.cps.toList.take i).filter f).map sg).map V.str).length<=i:=by
   simp only[UA];exact UK (U9 _ _) (by rw[UT];lia)
  show tt [some (.str ⟨#[c]⟩)] H2 _;refine l _ _ _ ?_;cases hf:f c with
  | true=>
   refine cq ?_;refine⟨_,rfl,_,a,small (by lia),_,ab,⟨_,rfl⟩,ax h e,?_⟩;rw[j,Vi,UL,UL];simp[hf,sg]
  | false=>
   refine br ⟨_,a,⟨_,rfl⟩,e,?_⟩;rw[j,Vi];simp[hf]
 ·obtain⟨_,e,rfl⟩:=p;rw[UP (by lia)]at a;exact o H2 e a
theorem Qo (hz:Y1 z=true) {f:Nat->Bool}:∀x∈(z.cps.toList.filter f).map sg,Y1 x=true:=λx e=>by
 obtain⟨c,b,rfl⟩:=UE.mp e;have:=iD hz c (by simpa using(U0.mp b).1);exact nk λd a=>by simp[sg]at a;lia
theorem rB {R:Bool->Hp->Prop} (f:Nat->Bool) (n:σ[i]? = some (some (.str z))) (hz:Y1 z=true) (l:z.length<=1000000) (o:∀(c:Nat) (H2:Hp) (R:Bool->Hp->Prop),R (f c) H2->tt [some (.str ⟨#[c]⟩)] H2 R)
  (h:∀H',af H H'->R (z.cps.toList.all λc=>!f c) H'):wO (tOp (vI K) (AU (Nl (rD i)) (aZ 0) tt (rD 0) 1 []) (Oo Jp)) σ H R:=by
 refine⟨_,n,z,rfl,λD k=>?_⟩;refine A9 f hz l k o λH2 m b=>?_;refine⟨UU _,λp g=>?_⟩;refine⟨.list (((z.cps.toList.filter f).map sg).map .str),.list [],.lst (.of (by rw[ap (aw b g)];exact b)) (jY (Qo hz)),.lst (.of ab) .nil,?_,_,rfl,?_⟩
 ·have:Y6 (((z.cps.toList.filter f).map sg).map PyData.str)<=0:=cV _ λd j=>by
   obtain⟨x,_,rfl⟩:=UE.mp j;exact UD _
  show Y6 _+1<=100;lia
 ·have e:Yc (.list (((z.cps.toList.filter f).map sg).map .str)) (.list [])=z.cps.toList.all λc=>!f c:=by
   have:Yc (.list (((z.cps.toList.filter f).map sg).map .str)) (.list [])=(z.cps.toList.filter f).isEmpty:=by
    cases z.cps.toList.filter f with
    | nil=>rfl
    | cons a r=>rfl
   rw[this,Va,WB,Wx,U4];simp
  rw[e];exact h _ (m.trans (af.new g))
end
inductive Pt where
 | word (w:Str)
 | hole (k:Nat)
 deriving DecidableEq
abbrev Ui:=List Pt
abbrev Uh:=List Ui
def Pt.dat:Pt->Zf
 | .word w=>.tuple [.str "word",.str w]
 | .hole k=>.tuple [.str "hole",.str (cK k)]
def TOk (w:Str):Prop:=w.length<=10000/\Y1 w=true
def Pt.ok:Pt->Prop
 | .word w=>TOk w
 | .hole k=>k<3
def be (ps:Ui):Zf:=.list (ps.map Pt.dat)
def POk (ps:Ui):Prop:=ps.length<=10000/\∀p∈ps,p.ok
def Pt.takes:Pt->Str->Bool
 | .word x,w=>decide (w=x)
 | .hole 0,w=>decide (dX w=0)
 | .hole 1,w=>decide (dX w=1)
 | .hole _,w=>dN w
def a8 (ps:Ui) (ws:Uq):Bool:=decide (ps.length=ws.length) && (ps.zip ws).all λp=>p.1.takes p.2
def Pt.within:Pt->Pt->Bool
 | .word x,q=>q.takes x
 | .hole k,q=>decide (q = .hole k) || decide (q = .hole 2)
def iG (ps qs:Ui):Bool:=decide (ps.length=qs.length) && (ps.zip qs).all λp=>p.1.within p.2
def Pt.loose:Pt->Int
 | .word _=>0
 | .hole 0=>1
 | .hole 1=>1
 | .hole _=>2
def Pt.around:Pt->Nat
 | .word w=>dX w
 | .hole k=>k
def jl (ps:Ui):Pt:=match ps with
 | []=>.hole 2
 | p::r=>if r.all (λq=>decide (q=p))=true then p else if r.all (λq=>decide (q.around=p.around))=true then .hole p.around else .hole 2
theorem xv (hi:i<3) (hj:j<3) (h:cK i=cK j):i=j:=by
 have key:∀i<3,∀j<3,cK i=cK j->i=j:=by decide +kernel
 exact key i hi j hj h
theorem Et {p q:Pt} (a:p.ok) (c:q.ok) (h:p.dat=q.dat):p=q:=by
 cases p with
 | word w=>
  cases q with
  | word b=>simp[Pt.dat]at h;rw[h]
  | hole k=>
   have:("word" : Str) ≠ "hole" :=by decide +kernel
   simp[Pt.dat]at h;exact(this h.1).elim
 | hole k=>
  cases q with
  | word b=>
   have:("hole" : Str) ≠ "word" :=by decide +kernel
   simp[Pt.dat]at h;exact(this h.1).elim
  | hole _=>
   simp[Pt.dat]at h;rw[xv a c h]
def KS:Sh:=.bC .str (.bC .str .lD)
theorem Gw (p:Pt):KS.has p.dat:=by
 cases p with
 | word w=>exact⟨_,_,rfl,⟨_,rfl⟩,_,_,rfl,⟨_,rfl⟩,rfl⟩
 | hole k=>exact⟨_,_,rfl,⟨_,rfl⟩,_,_,rfl,⟨_,rfl⟩,rfl⟩
theorem NP {p q:Pt} (hp:p.ok) (hq:q.ok):Yc p.dat q.dat=decide (p=q):=by
 rw[Va,decide_eq_true_eq,(Sh.ok KS).eqv _ _ (Gw p) (Gw q)];exact⟨Et hp hq,λh=>by rw[h]⟩
theorem DC (pt:Pt):pt.dat.depth<=5:=by cases pt <;> simp[Pt.dat,Yr,Y6]
theorem dP (ps:Ui):(be ps).depth<=90:=by
 have h:Y6 (ps.map Pt.dat)<=5:=cV _ λd hd=>by
  obtain⟨pt,_,rfl⟩:=UE.mp hd;exact DC pt
 simp only[be,Yr];lia
theorem Bj (h:Den K H v (.str x)):v = .str x/\Y1 x=true:=by
 cases h with
 | str q=>exact⟨rfl,q⟩
theorem nr (h:Den K H v (.tuple [.str x,.str y])):∃a,v = .ref a/\SqT K H a [.str x,.str y]/\Y1 x=true/\Y1 y=true:=by
 cases h with
 | tup f t=>
  cases t with
  | cons b t=>cases t with
   | cons d t=>
    cases t;obtain⟨rfl,e⟩:=Bj b;obtain⟨rfl,c⟩:=Bj d;exact⟨_,rfl,f,e,c⟩
theorem qV {pt:Pt} (h:Den K H v pt.dat):∃a x y,v = .ref a/\SqT K H a [.str x,.str y]/\Y1 x=true/\Y1 y=true/\(match pt with | .word w=>x = "word" /\ y=w | .hole k=>x = "hole" /\ y=cK k):=by
 cases pt with
 | word w=>obtain⟨a,rfl,d,c,b⟩:=nr h;exact⟨a,_,_,rfl,d,c,b,rfl,rfl⟩
 | hole k=>obtain⟨a,rfl,d,c,b⟩:=nr h;exact⟨a,_,_,rfl,d,c,b,rfl,rfl⟩
theorem gG {ps:Ui} (h:Den K H v (be ps)):∃a xs,v = .ref a/\SqL K H a xs/\aD K H xs (ps.map Pt.dat):=by
 cases h with
 | lst hq t=>exact⟨_,_,rfl,hq,t⟩
def LOk (w:Str):Prop:=w.length<=10000
theorem LOk.sx {w:Str} (h:LOk w):w.length<=Zg:=UK h (by decide)
def mW (K:Xz):Sp:=λvs H Q _=>∃z y:Str,vs=[.str z,.str y]/\LOk z/\Q (.bl (eu (λc=>y.cps.contains c) z.cps.toList)) H
def kU (K:Xz):Sp:=λvs H Q _=>∃z:Str,vs=[.str z]/\LOk z/\Q (.bl (dN z)) H
def pE (K:Xz):Sp:=λvs H Q _=>∃z:Str,vs=[.str z]/\LOk z/\Q (.str (mw (dX z))) H
def gW (K:Xz):Sp:=λvs H Q _=>∃z:Str,vs=[.str z]/\LOk z/\∀l,H l=none->Q (.ref l) (upd H l (.lst ((Y4 z " ").map V.str)))
def gh (K:Xz):Sp:=λvs H Q _=>∃v pt,vs=[v]/\Den K H v (Pt.dat pt)/\Q (.bl (match pt with | .hole _=>true | _=>false)) H
def oA (K:Xz):Sp:=λvs H Q _=>∃(v:V) (w:Str) (p:Pt),vs=[v,.str w]/\Den K H v p.dat/\p.ok/\LOk w/\Q (.bl (p.takes w)) H
def qK (K:Xz):Sp:=λvs H Q _=>∃(a b:Za) (xs:Uj) (ps:Ui) (ws:Uq),vs=[.ref a,.ref b]/\SqL K H a xs/\aD K H xs (ps.map Pt.dat)/\(∀p∈ps,p.ok)/\SqL K H b (ws.map V.str)/\(∀w∈ws,LOk w)/\∀H',af H H'->Q (.bl (a8 ps ws)) H'
def ye (K:Xz):Sp:=λvs H Q _=>∃(v:V) (z:Str) (ps:Ui),vs=[v,.str z]/\Den K H v (be ps)/\(∀p∈ps,p.ok)/\LOk z/\Y1 z=true/\∀H',af H H'->Q (.bl (a8 ps (Y4 z " "))) H'
def fT (K:Xz):Sp:=λvs H Q _=>∃(v:V) (p:Pt),vs=[v]/\Den K H v p.dat/\p.ok/\Q (.str (cK p.around)) H
def gX (K:Xz):Sp:=λvs H Q _=>∃(v:V) (p:Pt),vs=[v]/\Den K H v p.dat/\p.ok/\Q (.int p.loose) H
def qe (K:Xz):Sp:=λvs H Q _=>∃(v:V) (ps:Ui),vs=[v]/\Den K H v (be ps)/\POk ps/\∀D H',H D=none->af H H'->H' D=some (.lst (ps.map λp=>.int p.loose))->Q (.ref D) H'
def l6 (K:Xz):Sp:=λvs H Q _=>∃(a:Za) (xs:Uj) (ps:Ui),vs=[.ref a]/\SqL K H a xs/\aD K H xs (ps.map Pt.dat)/\ps≠[]/\POk ps/\∀r H',af H H'->Den K H' r (jl ps).dat->Q r H'
theorem qQ {p:Pt} (h:p.ok):p.around<3:=by
 cases p with
 | word w=>exact vL _
 | hole k=>exact h
theorem uc {k:Nat}:Y1 (cK k)=true:=by
 match k with
 | 0=>decide +kernel
 | 1=>decide +kernel
 | (n+2)=>show Y1 (cK 2)=true;decide +kernel
theorem By {k:Nat} (hk:k<3):decide (V.str (cK k)=V.str "any")=decide (k=2):=by
 match k,hk with
 | 0,_=>decide +kernel
 | 1,_=>decide +kernel
 | 2,_=>decide +kernel
theorem EK {k:Nat} (hk:k<2) (w:Str):decide (V.str (mw (dX w))=V.str (cK k))=decide (dX w=k):=by
 have h:cK k=mw k:=by
  match k,hk with
  | 0,_=>rfl
  | 1,_=>rfl
 rw[h];exact E3 (vL _) (by lia)
theorem AL (z:Str):dX z<3:=vL _
theorem Aj (m:Nat) (q:Pt):(Pt.hole m).within q=(decide (q = .hole m) || decide (q = .hole 2)):=rfl
theorem FG (z:Str):(Txt.removeprefix z "-").length<=z.length:=by
 have h:=Ao z;have b:(Txt.removeprefix z "-").length=(Txt.removeprefix z "-").cps.toList.length:=by simp[YX]
 have a:z.length=z.cps.toList.length:=by simp[YX]
 rw[b,h,a];generalize z.cps.toList=l;unfold bH
 split <;> simp
theorem Fd {ps:Ui} (h:ps.length≠ws.length):a8 ps ws=false:=by unfold a8;rw[Zl h];rfl
theorem Jn {f:α×β->Bool}{xs:List α}{ys:List β}{x:α}{y:β} (hx:xs[i]? = some x) (b:ys[i]? = some y) (h:f (x,y)=false):(xs.zip ys).all f=false:=by
 rw[U3];intro q;rw[U4]at q;have a:(x,y)∈xs.zip ys:=by
  refine UC (i:=i) ?_;rw[Vf];exact⟨hx,b⟩
 rw[q _ a]at h;cases h
theorem Ef {f:α×β->Bool}{xs:List α}{ys:List β} (h:∀(i:Nat) x y,i<min xs.length ys.length->xs[i]? = some x->ys[i]? = some y->f (x,y)=true):(xs.zip ys).all f=true:=by
 rw[U4];intro p b;obtain⟨i,a⟩:=VJ b;rw[Vf]at a;have c:=aH a.1;have d:=aH a.2;exact h i p.1 p.2 (by lia) a.1 a.2
theorem lh {ps:Ui}{x:V} (h:aD K H xs (ps.map Pt.dat)) (hx:xs[i]? = some x):∃p,ps[i]? = some p/\Den K H x p.dat:=by
 obtain⟨d,a,b⟩:=h.get hx;rw[UI]at a;cases e:ps[i]? with
 | none=>rw[e]at a;cases a
 | some p=>rw[e]at a;cases a;exact⟨p,rfl,b⟩
theorem e7 {y:V} (h:(ws.map V.str)[i]? = some y):∃w,ws[i]? = some w/\y = .str w:=by
 rw[UI]at h;cases e:ws[i]? with
 | none=>rw[e]at h;cases h
 | some w=>rw[e]at h;cases h;exact⟨w,rfl,rfl⟩
theorem J1 {b:Hp} (f:LL H0 b) (s:af b H') {pt:Pt} (h:Den K b v pt.dat):Den K (lim H0 H') v pt.dat:=by
 cases pt with
 | word w=>obtain⟨a,rfl,e,d,c⟩:=nr h;exact .tup (e.Qn f s) (.cons (.str d) (.cons (.str c) .nil))
 | hole k=>obtain⟨a,rfl,e,d,c⟩:=nr h;exact .tup (e.Qn f s) (.cons (.str d) (.cons (.str c) .nil))
def bw (pss:Uh) (n:Nat):Ui:=(Y7 n).map λi=>jl (pss.map λps=>ps.getD i (.hole 2))
def xI (K:Xz):Sp:=λvs H Q _=>∃(a:Za) (xs:Uj) (pss:Uh) (n:Nat),vs=[.ref a]/\SqL K H a xs/\aD K H xs (pss.map be)/\pss≠[]/\pss.length<=10000/\(∀ps∈pss,POk ps/\ps.length=n) /\
 ∀D acc H',H D=none->af H H'->H' D=some (.lst acc)->aD K (lim H H') acc ((bw pss n).map Pt.dat)->Q (.ref D) H'
theorem za (pss:Uh) (n:Nat):bw pss (n+1)=bw pss n++[jl (pss.map λps=>ps.getD n (.hole 2))]:=by simp[bw,Wr]
theorem dR {pss:Uh}{x:V} (h:aD K H xs (pss.map be)) (hx:xs[i]? = some x):∃ps,pss[i]? = some ps/\Den K H x (be ps):=by
 obtain⟨d,a,b⟩:=h.get hx;rw[UI]at a;cases e:pss[i]? with
 | none=>rw[e]at a;cases a
 | some p=>rw[e]at a;cases a;exact⟨p,rfl,b⟩
end LG
variable {pss:LG.Uh}{qs:LG.Ui}
namespace LG
open PySem L2
def Pt.key:Pt->Zf
 | .word w=>.tuple [.int 0,.int w.length,.str w]
 | .hole k=>.tuple [.int 1,.int k,.str ""]
def jE (ps:Ui):Zf:=.tuple [.int ps.length,.list (ps.map Pt.key)]
theorem Ld (pt:Pt):pt.key.depth<=5:=by cases pt <;> simp[Pt.key,Yr,Y6]
theorem F7 (ps:Ui):(jE ps).depth<=100:=by
 have h:Y6 (ps.map Pt.key)<=5:=cV _ λd hd=>by
  obtain⟨pt,_,rfl⟩:=UE.mp hd;exact Ld pt
 simp only[jE,Yr,Y6];lia
def Gc:Sh:=.bC .int (.bC .int (.bC .str .lD))
def AH:Sh:=.bC (.list Gc) .lD
theorem Ko (pt:Pt):Gc.has pt.key:=by
 cases pt with
 | word w=>exact⟨_,_,rfl,⟨_,rfl⟩,_,_,rfl,⟨_,rfl⟩,_,_,rfl,⟨_,rfl⟩,rfl⟩
 | hole k=>exact⟨_,_,rfl,⟨_,rfl⟩,_,_,rfl,⟨_,rfl⟩,_,_,rfl,⟨_,rfl⟩,rfl⟩
theorem vQ (ps:Ui):(Sh.bC .int AH).has (jE ps):=by
 refine⟨_,_,rfl,⟨_,rfl⟩,_,_,rfl,⟨_,rfl,λx hx=>?_⟩,rfl⟩;obtain⟨pt,_,rfl⟩:=UE.mp hx;exact Ko pt
theorem KG {p q:Pt} (h:p.key=q.key):p=q:=by
 cases p with
 | word w=>
  cases q with
  | word a=>simp[Pt.key]at h;rw[h.2]
  | hole k=>simp[Pt.key]at h
 | hole k=>
  cases q with
  | word a=>simp[Pt.key]at h
  | hole k'=>
   simp[Pt.key]at h;have:k=k':=by lia
   rw[this]
theorem map_inj {α β:Type}{f:α->β} (c:∀a b,f a=f b->a=b):∀{l l':List α},l.map f=l'.map f->l=l'
 | [],[],_=>rfl
 | [],_::_,h=>by simp at h
 | _::_,[],h=>by simp at h
 | a::r,b::r',h=>by
  rw[UW,UW]at h;injection h with h1 h2;rw[c a b h1,map_inj c h2]
theorem AM {ps:Ui} (h:jE ps=jE qs):ps=qs:=by
 simp only[jE,PyData.tuple.injEq,List.cons.injEq,PyData.list.injEq,and_true]at h;exact map_inj (λa b=>KG) h.2
def lB (l:Uh):Prop:=l.Pairwise λa b=>ltv (jE b) (jE a)=false
def sel (pss:Uh) (p:List Nat):Uh:=p.map λi=>pss.getD i []
theorem GG {p:List Nat} (a:p.Perm (Y7 pss.length)):(sel pss p).Perm pss:=by
 have b:(sel pss p).Perm ((Y7 pss.length).map λi=>pss.getD i []):=a.map _
 rwa [iu]at b
theorem B3 {p:List Nat} (c:p.Perm (Y7 pss.length)) (h:fW (pss.map jE) p):lB (sel pss p):=by
 unfold fW at h;unfold lB sel;rw[VD]at h ⊢;refine h.imp_of_mem λ{i j} f d q=>?_;have b:i<pss.length:=Vj.mp (c.mem_iff.mp f);have a:j<pss.length:=Vj.mp (c.mem_iff.mp d);have e:(pss.map jE).getD i .none=jE (pss.getD i []):=by simp[YA,UB b]
 have g:(pss.map jE).getD j .none=jE (pss.getD j []):=by simp[YA,UB a]
 rw[e,g]at q;exact q
theorem rR {l l':Uh} (d:l.Perm l') (h:lB l) (h':lB l'):l=l':=by
 refine map_inj (f:=jE) (λa b=>AM) ?_;refine jN (Sh.ok (.bC .int AH)) (λx e=>?_) (d.map _) ?_ ?_
 ·obtain⟨c,_,rfl⟩:=UE.mp e;exact vQ c
 ·rw[VD];exact h
 ·rw[VD];exact h'
def Jq (H H':Hp) (acc:Uj):Prop:=∀x∈acc,∃t ys,x = .ref t/\H t=none/\H' t=some (.lst ys)/\ys.length<=10000
def mE (K:Xz):Sp:=λvs H Q _=>∃w,vs=[.str w]/\LOk w/\∀p,H p=none->Q (.ref p) (upd H p (.tup [.int w.length,.str w]))
def sV (K:Xz):Sp:=λvs H Q _=>∃v pt,vs=[v]/\Den K H v (Pt.dat pt)/\pt.ok/\∀r H',af H H'->Den K (lim H H') r pt.key->Q r H'
def me (K:Xz):Sp:=λvs H Q _=>∃v ps,vs=[v]/\Den K H v (be ps)/\POk ps/\∀r H',af H H'->Den K (lim H H') r (jE ps)->Q r H'
def lm (K:Xz):Sp:=λvs H Q _=>∃a xs pss,vs=[.ref a]/\SqL K H a xs/\xs.length<64/\aD K H xs (pss.map be)/\(∀ps∈pss,POk ps) /\
 ∀D acc H' l,H D=none->af H H'->H' D=some (.lst acc)->l.Perm pss->lB l->Jq H H' acc->(∀x∈acc,x ≠ .ref D)->aD K (lim H H') acc (l.map be)->Q (.ref D) H'
theorem J3 {p:List Nat}{x:V} (a:aD K H xs (pss.map be)) (f:p.Perm (Y7 pss.length)) (hx:(picked xs p)[i]? = some x) :
  ∃ps,(sel pss p)[i]? = some ps/\ps∈pss/\Den K H x (be ps):=by
 unfold picked at hx;rw[UI]at hx;cases e:p[i]? with
 | none=>rw[e]at hx;cases hx
 | some j=>
  rw[e]at hx;cases hx;have b:j<pss.length:=Vj.mp (f.mem_iff.mp (UC e));have d:=a.IT j (by rw[UA];exact b);have c:pss[j]? = some pss[j]:=UB b;refine⟨pss[j],?_,Vh b,?_⟩
  ·unfold sel;rw[UI,e];simp[YA,c]
  ·have g:(pss.map be).getD j .none=be pss[j]:=by simp[YA,c]
   rw[<-g];exact d
theorem NF {m:Nat} (a:m<3):eqV (([.str "number",.str "name",.str "any"]:Uj).getD m .non) (.str (cK m))=true:=by
 match m,a with
 | 0,_=>decide +kernel
 | 1,_=>decide +kernel
 | 2,_=>decide +kernel
theorem QM {m:Nat} (b:m<3):∀i,i<m->eqV (([.str "number",.str "name",.str "any"]:Uj).getD i .non) (.str (cK m))=false:=by
 match m,b with
 | 0,_=>intro i a;lia
 | 1,_=>
  intro i a;have:i=0:=by lia
  subst this;decide +kernel
 | 2,_=>
  intro i a;have:i=0\/i=1:=by lia
  rcases this with rfl | rfl <;> decide +kernel
theorem KR:([.str "number",.str "name",.str "any"]:Uj).all iU=true:=rfl
theorem ND (e:af H H0) (f:af H H') {pt:Pt} (h:Den K H v pt.dat):Den K (lim H0 H') v pt.dat:=by
 cases pt with
 | word w=>obtain⟨a,rfl,d,c,b⟩:=nr h;exact .tup (d.lim e f) (.cons (.str c) (.cons (.str b) .nil))
 | hole k=>obtain⟨a,rfl,d,c,b⟩:=nr h;exact .tup (d.lim e f) (.cons (.str c) (.cons (.str b) .nil))
theorem yo {K:Xz}{H H0 H':Hp} (a:af H H0) (b:af H H'):∀{ps:Ui}{xs:Uj},aD K H xs (ps.map Pt.dat)->aD K (lim H0 H') xs (ps.map Pt.dat)
 | [],_,h=>by cases h;exact .nil
 | pt::r,_,h=>by
  cases h with
  | cons c t=>exact .cons (ND a b c) (yo a b t)
def looseD (ps:Ui):Zf:=.list (ps.map λp=>.int p.loose)
theorem w6 {K:Xz}{H:Hp}:∀{ps:Ui},aD K H (ps.map λp=>V.int p.loose) (ps.map λp=>PyData.int p.loose)
 | []=>.nil
 | p::r=>.cons (.int _) w6
theorem mX (ps:Ui):(Sh.list .int).has (looseD ps):=by
 refine⟨_,rfl,λx hx=>?_⟩;obtain⟨p,_,rfl⟩:=UE.mp hx;exact⟨_,rfl⟩
theorem Fc (ps:Ui):(looseD ps).depth<=100:=by
 have h:Y6 (ps.map λp=>PyData.int p.loose)<=0:=cV _ λd a=>by
  obtain⟨p,_,rfl⟩:=UE.mp a;exact UD _
 simp only[looseD,Yr];lia
def vb (l:Uh) (ps:Ui):Prop:=ps∈l/\∀q∈l,ltv (looseD q) (looseD ps)=false/\(looseD q=looseD ps->ltv (jE q) (jE ps)=false)
theorem qv {l b:Uh}{p q:Ui} (h:vb l p) (h':vb b q) (d:∀x,x∈l↔x∈b):p=q:=by
 have a:=h.2 q ((d q).mpr h'.1);have c:=h'.2 p ((d p).mp h.1);have e:=(Sh.ok (.list .int)).tot _ _ (mX p) (mX q) c.1 a.1;exact AM ((Sh.ok (.bC .int AH)).tot _ _ (vQ p) (vQ q) (c.2 e) (a.2 e.symm))
theorem Iq {l:Uh} (j:l≠[]) (n:lB l):∃ps,l[cJ (l.map looseD)]? = some ps/\vb l ps:=by
 obtain⟨d,a,k,i⟩:=vS (Sh.ok (.list .int)) (all:=l.map looseD) (λd a=>by obtain⟨ps,_,rfl⟩:=UE.mp a;exact mX ps) (by intro z;exact j (VC.mp z));rw[UI]at a;cases e:l[cJ (l.map looseD)]? with
 | none=>rw[e]at a;cases a
 | some ps=>
  rw[e]at a;cases a;refine⟨ps,rfl,UC e,λq o=>?_⟩;obtain⟨m,b⟩:=VJ o;have f:(l.map looseD)[m]? = some (looseD q):=by rw[UI,b];rfl
  refine⟨k m _ f,λg=>?_⟩;rcases Nat.lt_trichotomy m (cJ (l.map looseD))with z | z | z
  ·have:=i m _ z f;rw[g,(Sh.ok (.list .int)).irr _ (mX ps)]at this;cases this
  ·rw[z,e]at b;cases b;exact(Sh.ok (.bC .int AH)).irr _ (vQ _)
  ·have c:m<l.length:=aH b;have h:cJ (l.map looseD)<l.length:=aH e;have:=WS.mp n _ m h c z;rw[UB c]at b;rw[UB h]at e;cases b;cases e;exact this
def bT (z:Str) (ps:Ui):Bool:=a8 ps (Y4 z " ")
def Mb (K:Xz) (H H':Hp) (l:Uh) (r:V):Prop:=(l=[]/\r = .non)\/∃(t:Za) (ys:Uj) (ps:Ui),r = .ref t/\H t=none/\H' t=some (.lst ys)/\vb l ps/\Den K (lim H H') r (be ps)
def mi (K:Xz):Sp:=λvs H Q _=>∃(z:Str) (a:Za) (xs:Uj) (pss:Uh),vs=[.str z,.ref a]/\SqL K H a xs/\xs.length<64/\aD K H xs (pss.map be)/\(∀ps∈pss,POk ps)/\LOk z/\Y1 z=true /\
 ∀r H',af H H'->Mb K H H' (pss.filter (bT z)) r->Q r H'
section
open PySem.Builtin PySem.Builtin.Str
def Dk (H:Hp) (d:Za) (n:Nat):Prop:=∃a b c:Int,H d=some (.lst [.int a,.int b,.int c])/\0<=a/\0<=b/\b<2147483579/\0<=c/\c<=n
theorem Dk.mono {m:Nat} (h:Dk H d n) (hm:n<=m):Dk H d m:=by
 obtain⟨a,b,c,h1,h2,h3,h4,h5,h6⟩:=h;exact⟨a,b,c,h1,h2,h3,h4,h5,by lia⟩
theorem Dk.lst (h:Dk H d n):∃ys,H d=some (.lst ys):=by
 obtain⟨a,b,c,h1,_⟩:=h;exact⟨_,h1⟩
theorem Dk.same (h:Dk H d n) (s:af H H'):Dk H' d n:=by
 obtain⟨a,b,c,h1,h2⟩:=h;exact⟨a,b,c,s _ _ h1,h2⟩
theorem Dk.upd (h:Dk H d n) (hne:d≠D):Dk (upd H D o) d n:=by
 obtain⟨a,b,c,h1,h2⟩:=h;exact⟨a,b,c,by rw[ap hne];exact h1,h2⟩
theorem Dk.ne {p:Za} (h:Dk H d n) (hp:H p=none):d≠p:=by
 obtain⟨ys,h1⟩:=h.lst;exact aw h1 hp
theorem Dk.free {p:Za} (h:Dk H' d n) (s:af (wo d H) H') (hp:H' p=none):H p=none:=by
 have h1:(wo d H) p=none:=s.free hp
 rwa [ak (h.ne hp).symm]at h1
theorem cH {p:Za} (s:af (wo d H) H') (h:H p=some o) (hne:d≠p):H' p=some o:=s p o (Zp (YR hne) h)
theorem Bu {c:Hp} (h:H d=some (.lst ys)) (s:af (wo d H3) c):af (lim H H3) (lim H c):=λb o e=>by
 have a:=jq e;have f:b≠d:=λq=>by subst q;exact a _ h
 rw[bO a];exact s b o (Zp f (c8 b o e))
theorem qJ {l:Uq}{r:Int} (b:0<=r) (h1:r<l.length):∃x∈l,atI (l.map V.str) r=some (.str x):=by
 obtain⟨j,rfl⟩:=Wa (b:(0:Int)<=r);have a:j<l.length:=by lia
 exact⟨l[j],Vh a,dE (by rw[UI,UB a];rfl)⟩
theorem JQ {r:Int} (b:0<=r) (h1:r<z.length):∃(c i:Nat),atI z.cps.toList r=some c/\z.cps[i]? = some c:=by
 obtain⟨j,rfl⟩:=Wa (b:(0:Int)<=r);have a:j<z.cps.size:=by have:z.length=z.cps.size:=rfl;lia
 exact⟨z.cps[j],j,dE (by rw[Vn,Vg a]),Vg a⟩
theorem MX {i:Int} (h0:0<=i) (h1:i<n):ixN n i=some i.toNat:=by
 unfold ixN;rw[Zn h0,Zn h1]
theorem Ie {i:Int} (h:0<=i):g8 xs none (some i)=xs.take i.toNat:=by
 unfold g8;have a:HT.sIx xs.length 0 none=0:=by simp[HT.sIx]
 rw[a];obtain⟨j,rfl⟩:=Wa (h:(0:Int)<=i);rw[HT.Ep,VF,WM,Nat.sub_zero];rcases Nat.le_total j xs.length with q | q
 ·rw[Wq q]
 ·rw[Nat.min_eq_right q,UP (UD _),UP q]
structure WOk (w:Str):Prop where
 word:dN w=true
 len:w.length<=6
 ok:Y1 w=true
theorem Gz:sgn 32=false:=by decide
theorem WOk.blank {w:Str} (h:WOk w):32∉w.cps.toList:=λq=>by
 have h1:=h.word;unfold dN eu at h1;rw[Vm,U4]at h1;have:=h1.2 32 q;rw[Gz]at this;cases this
def yQ:Uq:=["get","put","a"]
def yF:Uq:=["0","7","12","-3","007"]
def yl:Uq:=["id=4","<any>","=","x1","-","A","<","none"]
def CK:Uq:=["abcdefghijklmnopqrstuvwxyz","0123456789","-09az","!\"#$&'()*+,-./:;<=>?@AZ[\\]^_{|}~"]
theorem w1:∀x∈yQ,dN x=true/\x.length<=6/\Y1 x=true:=by decide +kernel
theorem w2:∀x∈yF,dN x=true/\x.length<=6/\Y1 x=true:=by decide +kernel
theorem w3:∀x∈yl,dN x=true/\x.length<=6/\Y1 x=true:=by decide +kernel
theorem w4:∀x∈CK,Y1 x=true/\x.length<=100/\0<x.length/\x.cps.toList.all sgn=true:=by decide +kernel
theorem GB {p:Nat->Prop}{y:Str} (d:∀c∈y.cps,p c):∀(xs:Uq) (acc:Array Nat),(∀x∈xs,∀c∈x.cps,p c)->(∀c∈acc,p c)->(∀c∈xs.foldl (λacc q=>acc++y.cps++q.cps) acc,p c)/\acc.size<=(xs.foldl (λacc q=>acc++y.cps++q.cps) acc).size
 | [],acc,_,h=>⟨h,UD _⟩
 | x::r,acc,hx,h=>by
  have b:=GB d r (acc++y.cps++x.cps) (λz e=>hx z (UJ _ e)) λc a=>by
   rcases WC.mp a with a | a
   ·rcases WC.mp a with a | a
    ·exact h c a
    ·exact d c a
   ·exact hx x (UM ..) c a
  refine⟨b.1,UK ?_ b.2⟩;rw[Array.size_append,Array.size_append];lia
theorem Fm {l:Uq} (v:1<=l.length) (w:l.length<=4) (h:∀y∈l,Y1 y=true/\y.length<=1/\∃c,y=⟨#[c]⟩/\sgn c=true):WOk (YG "" l):=by
 have o:=Ew (y:= "") (m:=1) (by decide +kernel) (λy i=>⟨(h y i).1,(h y i).2.1⟩);have u:(("" : Str)).length=0:=rfl;rw[u]at o;refine⟨?_,by lia,o.1⟩;cases l with
 | nil=>simp at v
 | cons x r=>
  have t:=h x (UM ..);obtain⟨c,g,j⟩:=t.2.2;have n:=GB (p:=λc=>sgn c=true) (y:= "") (λc f=>by rw[show(Yo "").cps = #[]from rfl]at f;simp at f) r x.cps (λy i c f=>by
   obtain⟨_,rfl,s⟩:=(h y (UJ _ i)).2.2;simp at f;subst f;exact s) (λc f=>by
   subst g;simp at f;subst f;exact j)
  have e:(YG "" (x::r)).cps=r.foldl (λd q=>d++(("" : Str)).cps++q.cps) x.cps:=rfl;unfold dN eu;rw[e,Vm];constructor
  ·have k:1<=(r.foldl (λd q=>d++(("" : Str)).cps++q.cps) x.cps).size:=UK (by subst g;simp) n.2;cases q:(r.foldl (λd q=>d++(("" : Str)).cps++q.cps) x.cps).toList with
   | nil=>rw[<-UZ,q]at k;simp at k
   | cons a b=>rfl
  ·rw[U4];intro c f;exact n.1 c (by simpa using f)
def bX (K:Xz):Sp:=λvs H Q _=>∃(d:Za) (m:Int) (n:Nat),vs=[.ref d,.int m]/\Dk H d n/\n<1000000/\0<m/\m<1000000/\∀(r:Int) H',af (wo d H) H'->Dk H' d (n+1)->0<=r->r<m->Q (.int r) H'
def qh (K:Xz):Sp:=λvs H Q _=>∃z:Str,vs=[.str z]/\TOk z/\∀H',af H H'->Q (.str (mw (eL z.cps.toList))) H'
def lI (K:Xz):Sp:=λvs H Q _=>∃(d:Za) (n:Nat),vs=[.ref d]/\Dk H d n/\n<900000/\∀(x:Str) H',af (wo d H) H'->Dk H' d (n+6)->WOk x->Q (.str x) H'
structure gZ (m:Nat) (x:Str) (ws:Uq):Prop where
 eq:x=YG " " ws
 pos:1<=ws.length
 le:ws.length<=m
 wd:∀w∈ws,WOk w
theorem gZ.split {m:Nat} (h:gZ m x ws):Y4 x " " = ws:=by
 rw[h.eq];exact De (by intro e;have:=h.pos;rw[e]at this;simp at this) λw hw=>(h.wd w hw).blank
theorem gZ.ok {m:Nat} (h:gZ m x ws) (d:m<=12):Y1 x=true/\x.length<=84:=by
 have a:=Ew (y:= " ") (m:=6) (by decide +kernel) (λy b=>⟨(h.wd y b).ok,(h.wd y b).len⟩);have c:((" " : Str)).length=1:=rfl;rw[c,<-h.eq]at a;have:=h.le;exact⟨a.1,by lia⟩
def kR (K:Xz):Sp:=λvs H Q _=>∃(d:Za) (m:Int) (n:Nat),vs=[.ref d,.int m]/\Dk H d n/\n<800000/\0<m/\m<13/\∀(x:Str) (ws:Uq) H',af (wo d H) H'->Dk H' d (n+80)->gZ m.toNat x ws->Q (.str x) H'
def Drawn (w:Str) (p:Pt):Prop:=p = .word w\/(p = .hole (eL w.cps.toList)/\eL w.cps.toList<2)\/p = .hole 2
def A1 (ws:Uq) (ps:Ui):Prop:=ps.length=ws.length/\∀(i:Nat) w p,ws[i]? = some w->ps[i]? = some p->Drawn w p
def lU (K:Xz):Sp:=λvs H Q _=>∃(d:Za) (z:Str) (n:Nat),vs=[.ref d,.str z]/\Dk H d n/\n<800000/\z.length<=9000/\Y1 z=true /\
 ∀F H' ps,H F=none->af (wo d H) H'->Dk H' d (n+(z.length+2))->POk ps->A1 (Y4 z " ") ps->(∃ys,H' F=some (.lst ys))->Den K (lim H H') (.ref F) (be ps)->Q (.ref F) H'
end
def oV (K:Xz) (H:Hp) (d:Za) (z:Str) (F L:Za) (n i:Nat) (σ:St) (H3:Hp):Prop:=
 (∃u1 u2 u3,σ=[some (.ref d),some (.str z),some (.ref F),u1,u2,u3])/\af (wo d H) H3/\Dk H3 d (n+i)/\H3 L=some (.lst ((Y4 z " ").map V.str)) /\
 ∃(acc:Uj) (ps:Ui),H3 F=some (.lst acc)/\ps.length=i/\(∀p∈ps,Pt.ok p)/\(∀(j:Nat) w p,(Y4 z " ")[j]? = some w->ps[j]? = some p->Drawn w p)/\aD K (lim (upd H F (.lst [])) H3) acc (ps.map Pt.dat)
theorem oV.step {F t:Za}{a b C:Str}{f:Uj}{ps:Ui}{pt:Pt} (g:d≠F) (r:F≠L) (hF:H F=none)
  (A:∃u1 u2 u3,σ=[some (.ref d),some (.str z),some (.ref F),u1,u2,u3]) (B:af (wo d H) H5) (k:Dk H5 d (n+(i+1))) (hL:H5 L=some (.lst ((Y4 z " ").map V.str))) (o:H5 F=some (.lst f)) (h:ps.length=i) (y:∀p∈ps,Pt.ok p)
  (u:∀(j:Nat) w p,(Y4 z " ")[j]? = some w->ps[j]? = some p->Drawn w p) (E:aD K (lim (upd H F (.lst [])) H5) f (ps.map Pt.dat)) (J:(Y4 z " ")[i]? = some C) (D:Drawn C pt) (e:pt.dat = .tuple [.str a,.str b]) (x:pt.ok) (N:Y1 a=true) (I:Y1 b=true) (l:H5 t=none) :
  oV K H d z F L n (i+1) σ (upd (upd H5 t (.tup [.str a,.str b])) F (.lst (f++[.ref t]))):=by
 have s:F≠t:=aw o l;have G:L≠t:=aw hL l;have m:af H5 (upd H5 t (.tup [.str a,.str b])):=af.new l;refine⟨A,ax (Zp g.symm hF) (B.trans m),(k.same m).upd g,by rw[ap r.symm];exact m _ _ hL,f++[.ref t],ps++[pt],ab,by simp[h],λp c=>?_,λj w p v c=>?_,?_⟩
 ·(rcases UY.mp c with c | c)
  ·exact y p c
  ·simp only[UG]at c;subst c;exact x
 ·rcases Nat.lt_trichotomy j ps.length with q | q | q
  ·rw[U6 q]at c;exact u j w p v c
  ·subst q;rw[Vb (UD _)]at c;simp at c;subst c;rw[h,J]at v;cases v;exact D
  ·rw[Vp (by rw[UH,UQ];lia)]at c;cases c
 ·rw[qM (ys:=[]) ab,UL];refine(E.same (c7 m)).append (.cons ?_ .nil);have M:(upd H F (.lst [])) t=none:=by rw[ap s.symm];exact k.free B l
  rw[e];exact .tup (.of ((iq M).trans ab)) (.cons (.str N) (.cons (.str I) .nil))
theorem Df (l:List Nat):eL l<3:=by
 unfold eL
 split
 ·decide
 ·split <;> decide
theorem FP {k:Nat} (hk:k<3):decide (V.str (mw k)=V.str "other")=decide (k=2):=by
 match k,hk with
 | 0,_=>decide +kernel
 | 1,_=>decide +kernel
 | 2,_=>decide +kernel
theorem Km {k:Nat} (hk:k<2):mw k=cK k:=by
 match k,hk with
 | 0,_=>rfl
 | 1,_=>rfl
structure zN (ws:Uq):Prop where
 pos:1<=ws.length
 le:ws.length<=12
 wd:∀w∈ws,WOk w
theorem zN.line (h:zN ws):gZ 12 (YG " " ws) ws:=⟨rfl,h.pos,h.le,h.wd⟩
def oG (K:Xz):Sp:=λvs H Q _=>∃(d:Za) (m:Int) (n:Nat),vs=[.ref d,.int m]/\Dk H d n/\n<700000/\0<=m/\m<=60 /\
 ∀D (ls:Uq) H',H D=none->af (wo d H) H'->Dk H' d (n+2000)->H' D=some (.lst (ls.map V.str))->(∀x∈ls,∃ws,gZ 12 x ws)->ls.length<=m.toNat->Q (.ref D) H'
def Ng (Hs:Hp) (acc:Uj):Prop:=∀x∈acc,∃(s:Za) (ws:Uq),x = .ref s/\Hs s=some (.lst (ws.map V.str))/\zN ws
theorem KQ {r:Int} (a:0<=r) (h1:r<3):∃v:Int,atI [V.int 3,V.int 6,V.int 12] r=some (.int v)/\0<v/\v<13:=by
 have:r=0\/r=1\/r=2:=by lia
 rcases this with rfl | rfl | rfl
 ·exact⟨3,rfl,by decide,by decide⟩
 ·exact⟨6,rfl,by decide,by decide⟩
 ·exact⟨12,rfl,by decide,by decide⟩
theorem zN.set (h:zN ws)  (hx:WOk x):zN (ws.set i x):=by
 refine⟨by rw[List.length_set];exact h.pos,by rw[List.length_set];exact h.le,λw a=>?_⟩;rcases List.mem_or_eq_of_mem_set a with q | q
 ·exact h.wd w q
 ·rw[q];exact hx
structure TC (ws:Uq) (ps:Ui):Prop where
 ok:POk ps
 len:ps.length=ws.length
 takes:∀(i:Nat) w p,ws[i]? = some w->ps[i]? = some p->p.takes w=true
theorem Ag:∀{ps qs:Ui},(∀p∈ps,p.ok)->(∀p∈qs,p.ok)->ps.map Pt.dat=qs.map Pt.dat->ps=qs
 | [],[],_,_,_=>rfl
 | [],_::_,_,_,h=>by simp at h
 | _::_,[],_,_,h=>by simp at h
 | p::r,q::t,hp,hq,h=>by
  rw[UW,UW]at h;injection h with h1 h2;rw[Et (hp p (UM ..)) (hq q (UM ..)) h1,Ag (λx a=>hp x (UJ _ a)) (λx a=>hq x (UJ _ a)) h2]
theorem Jt (ps:Ui):(Sh.list KS).has (be ps):=by
 refine⟨_,rfl,λx hx=>?_⟩;obtain⟨pt,_,rfl⟩:=UE.mp hx;exact Gw pt
theorem tS {ps:Ui} (a:∀p∈ps,p.ok) (b:∀p∈qs,p.ok):Yc (be ps) (be qs)=decide (ps=qs):=by
 rw[Va,decide_eq_true_eq,(Sh.ok (.list KS)).eqv _ _ (Jt ps) (Jt qs)];constructor
 ·intro h;simp only[be,PyData.list.injEq]at h;exact Ag a b h
 ·rintro rfl;rfl
section
variable {S:Za}{m:Nat}
end
def yO (K:Xz):Sp:=λvs H Q _=>∃(a:Za) (ns:List Int),vs=[.ref a]/\SqL K H a (ns.map V.int)/\ns.length<=63/\∀H',Q (.bl true) H'
def oD:Option Ui->Zf
 | none=>.none
 | some ps=>be ps
structure RR (l:Uh) (o:Option Ui):Prop where
 nil:o=none↔l=[]
 least:∀ps,o=some ps->vb l ps
theorem vk (pss:Uh):(PyData.list (pss.map be)).depth<=100:=by
 have h:Y6 (pss.map be)<=90:=cV _ λd a=>by
  obtain⟨b,_,rfl⟩:=UE.mp a;exact dP b
 simp only[Yr];lia
section
open PySem.Builtin PySem.Builtin.Str
def PtW:Pt->Prop
 | .word w=>dN w=true/\w.length<=500/\Y1 w=true
 | .hole k=>k<3
def PW (ps:Ui):Prop:=∀p∈ps,PtW p
def Words (ws:Uq):Prop:=∀w∈ws,dN w=true
def xi (pss:Uh) (ws:Uq):Bool:=pss.any λps=>a8 ps ws
def v5 (ps:Ui) (oss:Uh):Bool:=oss.any λos=>iG ps os
theorem PtW.ok {p:Pt} (h:PtW p):p.ok:=by
 cases p with
 | word w=>exact⟨UK h.2.1 (by decide),h.2.2⟩
 | hole k=>exact h
def JS (w:Str):Ui->Bool
 | []=>false
 | p::_=>p.takes w
def nQ (oss:Uh) (w:Str):Uh:=(oss.filter (JS w)).map List.tail
def wkD (w:Str):Zf:=.tuple [.int w.length,.str w]
def Pp:Sh:=.bC .int (.bC .str .lD)
theorem Mf (w:Str):Pp.has (wkD w):=⟨_,_,rfl,⟨_,rfl⟩,_,_,rfl,⟨_,rfl⟩,rfl⟩
def lkD (ws:Uq):Zf:=.tuple [.int ws.length,.list (ws.map wkD)]
theorem Ot (w:Str):(wkD w).depth<=5:=by simp[wkD,Yr,Y6]
def wlt (a b:Str):Bool:=ltv (wkD a) (wkD b)
def Bd (w:Str):Prop:=w.length<=500/\Y1 w=true
structure LW (k:Nat) (named:Uq) (x:Str):Prop where
 wd:dN x=true
 kd:dX x=k
 no:x∉named
 le:∀y,dN y=true->dX y=k->y∉named->wlt y x=false
 bd:Bd x
def named:Ui->Uq
 | []=>[]
 | .word w::r=>w::named r
 | .hole _::r=>named r
structure FW (p:Pt) (ps:Ui) (oss:Uh) (w:Str):Prop where
 tk:p.takes w=true
 nd:v5 ps (nQ oss w)=false
 le:∀y,p.takes y=true->v5 ps (nQ oss y)=false->wlt y w=false
 bd:Bd w
structure LP (ps:Ui) (oss:Uh) (ws:Uq):Prop where
 tk:a8 ps ws=true
 kn:xi oss ws=false
 le:∀vs,a8 ps vs=true->xi oss vs=false->aW (vs.map wkD) (ws.map wkD)=false
 bd:∀w∈ws,Bd w
structure PLn (pss qss:Uh) (ws:Uq):Prop where
 pa:xi pss ws≠xi qss ws
 wd:Words ws
 bd:∀w∈ws,Bd w
 ne:ws≠[]
 ln:ws.length<=12
 le:∀vs,xi pss vs≠xi qss vs->ltv (lkD vs) (lkD ws)=false
structure Rc (pss qss:Uh) (L:Ul):Prop where
 of:∀ws∈L,∃ps∈pss,LP ps qss ws
 all:∀ps∈pss,v5 ps qss=true\/∃ws∈L,LP ps qss ws
def nY (pss:Uh):Prop:=∀ps∈pss,PW ps/\ps≠[]/\ps.length<=12
def lnV (ws:Uq):V:=.str (YG " " ws)
def oS:Option Uq->V
 | none=>.non
 | some ws=>lnV ws
def KN (p q:Pt):Option Pt:=if p.within q=true then some p else if q.within p=true then some q else none
def o5 (ps qs:Ui):Option Ui:=if ps.length=qs.length/\((ps.zip qs).all λx=>(KN x.1 x.2).isSome)=true then some ((ps.zip qs).map λx=>(KN x.1 x.2).getD (.hole 2))else none
theorem Hl (j:Nat):g8 xs (some (j:Int)) none=xs.drop j:=by
 unfold g8;rw[HT.Ep,HT.Jo];rcases Nat.le_total j xs.length with h | h
 ·rw[Wq h,UP (by rw[VY];exact UD _)]
 ·rw[Nat.min_eq_right h,Wi,List.take_zero,Vy h]
theorem Bt {p:Pt} (h:PtW p):p.within p=true:=by
 cases p with
 | word x=>exact Zk rfl
 | hole m=>rw[Aj,Zk rfl];rfl
theorem FY {ps:Ui} (c:ps.length=qs.length) (h:∀(i:Nat) p q,ps[i]? = some p->qs[i]? = some q->p.within q=true):iG ps qs=true:=by
 unfold iG;rw[Zk c,V4];exact Ef λi p q _ a b=>h i p q a b
theorem at_of {l:List α} (h:i<l.length):∃x,l[i]? = some x:=⟨l[i],UB h⟩
end
theorem cU {C:St->Prop}{f:Option V->St} (h:∃u0,σ=f u0) (k:∀u0,C (f u0)):C σ:=by
 obtain⟨u0,rfl⟩:=h;exact k _
theorem zo {C:St->Prop}{f:Option V->Option V->St} (h:∃u0 u1,σ=f u0 u1) (k:∀u0 u1,C (f u0 u1)):C σ:=by
 obtain⟨u0,u1,rfl⟩:=h;exact k _ _
theorem Kj {C:St->Prop}{f:Option V->Option V->Option V->St} (h:∃u0 u1 u2,σ=f u0 u1 u2) (k:∀u0 u1 u2,C (f u0 u1 u2)):C σ:=by
 obtain⟨u0,u1,u2,rfl⟩:=h;exact k _ _ _
theorem OA {C:St->Prop}{f:Option V->Option V->Option V->Option V->St} (h:∃u0 u1 u2 u3,σ=f u0 u1 u2 u3) (k:∀u0 u1 u2 u3,C (f u0 u1 u2 u3)):C σ:=by
 obtain⟨u0,u1,u2,u3,rfl⟩:=h;exact k _ _ _ _
def Pt.place:Pt->Zf
 | .word w=>.tuple [.int 0,.int w.length,.str w]
 | .hole k=>.tuple [.int (k+1),.int 0,.str ""]
section
open PySem.Builtin PySem.Builtin.Str
structure Mx (P N:Uh):Prop where
 nd:N.Nodup
 ko:lB N
 mem:∀p,p∈N↔p∈P/\∀q∈P,iG p q=true->q=p
def L8 (pss:Uh):Zf:=.list (pss.map be)
def kyD (n:Nat) (one other:Uh):Zf:=.list [.int n,L8 one,L8 other]
structure Tt (P Q:Uh) (l:Uq):Prop where
 wd:∀x∈l,dN x=true/\Bd x
 up:l.Pairwise λa b=>wlt b a=false
 all:∀y,dN y=true->∃x∈l,wlt y x=false/\nQ P x=nQ P y/\nQ Q x=nQ Q y
def dr (n:Nat) (P:Uh):Uh:=P.map (List.drop n)
def at_ (n:Nat) (w:Str) (P:Uh):Uh:=P.filter λps=>(ps.getD n (.hole 2)).takes w
def ng (c:Nat):Str:=⟨#[45,c]⟩
def ky (n:Nat) (P Q:Uh):Key:=.inr (SQ (kyD n P Q))
structure Base (m:Nat) (P0 Q0:Uh):Prop where
 m12:m<=12
 p:∀ps∈P0,PW ps/\ps.length=m
 q:∀ps∈Q0,PW ps/\ps.length=m
 lp:P0.length<=7
 lq:Q0.length<=8
structure KnK (P0 Q0:Uh) (kvs:List (Key×V)):Prop where
 nd:(kvs.map (·.1)).Nodup
 of:∀k∈kvs.map (·.1),∃n P Q,n<13/\P.Sublist P0/\Q.Sublist Q0/\k=ky n P Q
end
def ptV:Pt->Uj
 | .word w=>[.str "word",.str w]
 | .hole k=>[.str "hole",.str (cK k)]
def MU (H:Hp) (v:V) (p:Pt):Prop:=∃t,v = .ref t/\H t=some (.tup (ptV p))
def NL (o:HO):Prop:=∀xs,o ≠ .lst xs
def tO (H:Hp):Hp:=λa=>match H a with
 | some (.lst _)=>none
 | o=>o
theorem DD (h:tO H a=some o):NL o/\H a=some o:=by
 unfold tO at h
 split at h
 ·cases h
 ·rename_i n;exact⟨λxs e=>n xs (by rw[h,e]),h⟩
theorem Jv (h:H a=some o) (n:NL o):tO H a=some o:=by
 unfold tO
 split
 ·rename_i xs e;rw[h]at e;cases e;exact(n xs rfl).elim
 ·exact h
theorem El (k:∀a o,NL o->H a=some o->H' a=some o):af (tO H) (tO H'):=λa o h=>by
 obtain⟨n,e⟩:=DD h;exact Jv (k a o n e) n
theorem HR:NL (.tup xs):=λys e=>by cases e
inductive PL (K:Xz) (H:Hp):Uz->Uh->Prop
 | nil:PL K H [] []
 | cons {a:Za}{ys:Uj}{as:Uz}{ps:Ui}{pss:Uh} (h1:H a=some (.lst ys)) (h2:aD K (tO H) ys (ps.map Pt.dat)) (h3:a∉as) (t:PL K H as pss):PL K H (a::as) (ps::pss)
theorem MU.den {p:Pt} (h:MU H v p) (a:PtW p):Den K (tO H) v p.dat:=by
 obtain⟨t,rfl,h⟩:=h;cases p with
 | word w=>exact .tup (.of (Jv h HR)) (.cons (.str (by decide +kernel)) (.cons (.str a.2.2) .nil))
 | hole k=>exact .tup (.of (Jv h HR)) (.cons (.str (by decide +kernel)) (.cons (.str uc) .nil))
theorem QS (s:af H H'):af (tO H) (tO H'):=El λa o _ h=>s a _ h
theorem Oj (h:H a=some (.lst xs)):af (tO H) (tO (upd H a (.lst ys))):=El λc o n hc=>by
 have:c≠a:=λz=>by rw[z,h]at hc;cases hc;exact n _ rfl
 rw[ap this];exact hc
theorem Aa {ps:Ui} (d:∀w∈ws,WOk w) (h:A1 ws ps):PW ps:=λp c=>by
 obtain⟨i,b⟩:=VJ c;have f:=aH b;obtain⟨w,e⟩:=at_of (l:=ws) (i:=i) (by rw[<-h.1];exact f);have a:=d w (UC e);rcases h.2 i w p e b with rfl | ⟨rfl,_⟩ | rfl
 ·exact⟨a.word,UK a.len (by decide),a.ok⟩
 ·show eL w.cps.toList<3;lia
 ·exact(by decide:2<3)
def bP {α:Type} (st:List (Key×List α)) (k:Key) (x:α):List (Key×List α):=
 if (st.any λp=>decide (p.1=k))=true then st.map (λp=>if p.1=k then(p.1,p.2++[x])else p)else st++[(k,[x])]
def cu {α:Type} (l:List (Key×α)):List (Key×List α):=l.foldl (λst p=>bP st p.1 p.2) []
def grp {α:Type} (ks:List Key) (xs:List α):List (List α):=(cu (ks.zip xs)).map (·.2)
theorem AJ {l:List (Key×α)}{p:Key×α} (h:l[i]? = some p):cu (l.take (i+1))=bP (cu (l.take i)) p.1 p.2:=by
 unfold cu;rw[UX,h,Ww];rfl
inductive gR {α β:Type} (R:α->β->Prop):List α->List β->Prop
 | nil:gR R [] []
 | cons {a:α}{b:β}{l:List α}{m:List β} (h:R a b) (t:gR R l m):gR R (a::l) (b::m)
theorem gR.len {R:α->β->Prop}{l:List α}{m:List β} (h:gR R l m):l.length=m.length:=by
 induction h with
 | nil=>rfl
 | cons _ _ ih=>rw[U1,U1,ih]
theorem gR.mono {R S:α->β->Prop} (f:∀a b,R a b->S a b) {l:List α}{m:List β} (h:gR R l m):gR S l m:=by
 induction h with
 | nil=>exact .nil
 | cons h _ ih=>exact .cons (f _ _ h) ih
theorem gR.snoc {R:α->β->Prop}{l:List α}{m:List β}{a:α}{b:β} (h:gR R l m) (r:R a b):gR R (l++[a]) (m++[b]):=by
 induction h with
 | nil=>exact .cons r .nil
 | cons h _ ih=>exact .cons h ih
theorem gR.at {R:α->β->Prop}{l:List α}{m:List β} (h:gR R l m):∀{i:Nat}{a:α},l[i]? = some a->∃b,m[i]? = some b/\R a b:=by
 induction h with
 | nil=>intro i a e;cases e
 | cons h _ c=>
  intro i a e;cases i with
  | zero=>cases e;exact⟨_,rfl,h⟩
  | succ i=>exact c e
def IR {α β:Type} (R:α->β->Prop) (p:Key×List α) (q:Key×List β):Prop:=p.1=q.1/\gR R p.2 q.2
theorem K0 {R:α->β->Prop}{st:List (Key×List α)}{tt:List (Key×List β)}{k:Key}{x:α}{y:β} (h:gR (IR R) st tt) (r:R x y):gR (IR R) (bP st k x) (bP tt k y):=by
 have d:(st.any λp=>decide (p.1=k))=(tt.any λp=>decide (p.1=k)):=by
  induction h with
  | nil=>rfl
  | cons h _ c=>rw[Vt,Vt,c,h.1]
 unfold bP;rw[d]
 split
 ·rename_i hh;clear d hh
  induction h with
  | nil=>exact .nil
  | @cons a b l m h _ c=>
   refine .cons ?_ c;show IR R (if a.1=k then(a.1,a.2++[x])else a) (if b.1=k then(b.1,b.2++[y])else b);rw[h.1]
   split
   ·exact⟨rfl,h.2.snoc r⟩
   ·exact h
 ·exact h.snoc ⟨rfl,.cons r .nil⟩
theorem DV {R:α->β->Prop}{xs:List α}{ys:List β} (h:gR R xs ys) (ks:List Key):gR (gR R) (grp ks xs) (grp ks ys):=by
 have e:∀(ks:List Key) {xs:List α}{ys:List β}{st:List (Key×List α)}{tt:List (Key×List β)},gR R xs ys->gR (IR R) st tt->gR (IR R) ((ks.zip xs).foldl (λst p=>bP st p.1 p.2) st) ((ks.zip ys).foldl (λst p=>bP st p.1 p.2) tt):=λks=>by
  induction ks with
  | nil=>intro xs ys st tt _ h;simpa using h
  | cons k ks c=>
   intro xs ys st tt f d;cases f with
   | nil=>simpa using d
   | cons r t=>exact c t (K0 d r)
 have z:=e ks h (st:=[]) (tt:=[]) .nil;unfold grp cu;generalize(ks.zip xs).foldl (λst p=>bP st p.1 p.2) []=a at z;generalize(ks.zip ys).foldl (λst p=>bP st p.1 p.2) []=b at z
 induction z with
 | nil=>exact .nil
 | cons h _ c=>exact .cons h.2 c
inductive GL (H0 H:Hp) (D:Za):Uz->List (Key×V)->List (Key×Uj)->Prop
 | nil:GL H0 H D [] [] []
 | cons {a:Za}{k:Key}{g:Uj}{as:Uz}{kvs:List (Key×V)}{st:List (Key×Uj)} (h:H a=some (.lst g)) (hn:H0 a=none) (hD:a≠D) (ha:a∉as) (hk:k∉kvs.map (·.1)) (hs:st.map (·.1)=kvs.map (·.1)) (t:GL H0 H D as kvs st):GL H0 H D (a::as) ((k,.ref a)::kvs) ((k,g)::st)
theorem GL.keys {b:Uz} (h:GL H0 H D b kvs st):st.map (·.1)=kvs.map (·.1):=by
 cases h with
 | nil=>rfl
 | cons _ _ _ _ _ a _=>simp[a]
theorem GL.vals {a:Uz} (h:GL H0 H D a kvs st):kvs.map (·.2)=a.map V.ref:=by
 induction h with
 | nil=>rfl
 | cons _ _ _ _ _ _ _ b=>simp[b]
theorem GL.lists {b:Uz} (h:GL H0 H D b kvs st):gR (λa g=>H a=some (.lst g)) b (st.map (·.2)):=by
 induction h with
 | nil=>exact .nil
 | cons h _ _ _ _ _ _ c=>exact .cons h c
theorem GL.mem {c:Uz} (h:GL H0 H D c kvs st):∀a∈c,(∃g,H a=some (.lst g))/\H0 a=none/\a≠D:=by
 induction h with
 | nil=>intro a b;cases b
 | cons h f i _ _ _ _ d=>
  intro a b;rcases UR.mp b with e | b
  ·rw[e];exact⟨⟨_,h⟩,f,i⟩
  ·exact d a b
theorem GL.keep {b:Uz} (h:GL H0 H D b kvs st) (k:∀a∈b,H' a=H a):GL H0 H' D b kvs st:=by
 induction h with
 | nil=>exact .nil
 | cons h d e i f g t c=>exact .cons ((k _ (.head _)).trans h) d e i f g (c λa z=>k a (.tail _ z))
theorem GL.snoc {k:Key}{g:Uj}{b:Uz} (h:GL H0 H D b kvs st) (hL:H L=some (.lst g)) (e:H0 L=none) (f:L≠D) (d:L∉b) (c:k∉kvs.map (·.1)) :
  GL H0 H D (b++[L]) (kvs++[(k,.ref L)]) (st++[(k,g)]):=by
 induction h with
 | nil=>exact .cons hL e f (by simp) (by simp) rfl .nil
 | @cons a k' g' b kvs st h hn' hD' ha' hk' hs t ih=>
  rw[UR,not_or]at d;simp only[UW,UR,not_or]at c;refine .cons h hn' hD' ?_ ?_ (by simp[hs]) (ih d.2 c.2)
  ·show a∉b++[L];rw[UY,not_or];exact⟨ha',λz=>d.1 (UG.mp z).symm⟩
  ·show k'∉(kvs++[(k,V.ref L)]).map (·.1)
   rw[UL,UY,not_or];exact⟨hk',λz=>c.1 (UG.mp z).symm⟩
theorem G1 {k:Key} (h:fB kvs k=none):k∉kvs.map (·.1)/\(kvs.any λkv=>decide (kv.1=k))=false:=by
 induction kvs with
 | nil=>exact⟨by simp,rfl⟩
 | cons p r a=>
  by_cases e:p.1=k
  ·rw[j3 e]at h;cases h
  ·have c:fB r k=none:=by
    unfold fB at h ⊢;rw[Vw,Zl e]at h;exact h
   obtain⟨b,d⟩:=a c;refine⟨λz=>?_,by rw[Vt,Zl e,d];rfl⟩;rcases UR.mp z with w | w
   ·exact e w.symm
   ·exact b w
theorem any_keys {st:List (Key×α)}{kvs:List (Key×β)} (h:st.map (·.1)=kvs.map (·.1)) (k:Key):(st.any λp=>decide (p.1=k))=(kvs.any λp=>decide (p.1=k)):=by
 have a:∀{γ:Type} (l:List (Key×γ)),(l.any λp=>decide (p.1=k))=(l.map (·.1)).any λx=>decide (x=k):=λl=>by
  rw[List.any_map];rfl
 rw[a,a,h]
theorem GL.grow {c:Uz}{k:Key}{x:V} (h:GL H0 H D c kvs st):fB kvs k=some v->∃a g,v = .ref a/\a∈c/\H a=some (.lst g)/\g∈st.map (·.2)/\GL H0 (upd H a (.lst (g++[x]))) D c kvs (bP st k x):=by
 have l:∀{c kvs st},GL H0 H D c kvs st->fB kvs k=some v->∃a g,v = .ref a/\a∈c/\H a=some (.lst g)/\g∈st.map (·.2)/\(st.any λp=>decide (p.1=k))=true/\GL H0 (upd H a (.lst (g++[x]))) D c kvs (st.map λp=>if p.1=k then(p.1,p.2++[x])else p):=λ{c kvs st} h=>by
  induction h with
  | nil=>intro e;cases e
  | @cons a k' g c kvs st h hn hD ha hk hs t ih=>
   intro e;by_cases d:k' = k
   ·rw[j3 d]at e;cases e;refine⟨a,g,rfl,.head _,h,by simp,by rw[Vt,Zk d];rfl,?_⟩;have u:(st.map λp=>if p.1=k then(p.1,p.2++[x])else p)=st:=by
     have f:∀p∈st,(if p.1=k then(p.1,p.2++[x])else p)=p:=λp s=>Zo λz=>hk (by rw[<-hs,d,<-z];exact V5 s);exact(U5 f).trans (List.map_id' st)
    rw[UW,Zn d,u];exact .cons ab hn hD ha hk hs (t.keep λb r=>ap λ(z:b=a)=>ha (z ▸ r))
   ·have y:fB kvs k=some v:=by
     unfold fB at e ⊢;rw[Vw,Zl d]at e;exact e
    obtain⟨b,w,f,i,m,o,q,j⟩:=ih y;refine⟨b,w,f,.tail _ i,m,UJ _ o,by rw[Vt,q,Bool.or_true],?_⟩;rw[UW,Zo d];have n:a≠b:=λz=>ha (z ▸ i);refine .cons (by rw[ap n];exact h) hn hD ha hk ?_ j;rw[Vc,<-hs];exact U5 λp _=>by show(if p.1=k then(p.1,p.2++[x])else p).1=p.1;split <;> rfl
 intro e;obtain⟨a,g,f,i,m,o,q,j⟩:=l h e;refine⟨a,g,f,i,m,o,?_⟩;unfold bP;rw[Zn q];exact j
theorem GL.more {a:Uz}{k:Key}{x:V} (h:GL H0 H D a kvs st) (e:fB kvs k=none) (hL:H L=some (.lst [x])) (d:H0 L=none) (f:L≠D) (g:L∉a) :
  putK kvs k (.ref L)=kvs++[(k,.ref L)]/\GL H0 H D (a++[L]) (kvs++[(k,.ref L)]) (bP st k x):=by
 obtain⟨c,b⟩:=G1 e;refine⟨by unfold putK;rw[b];rfl,?_⟩;unfold bP;rw[any_keys h.keys k,b];exact h.snoc hL d f g c
def wsD (ws:Uq):Zf:=.list (ws.map PyData.str)
def gD (wss:Ul):Zf:=.list (wss.map wsD)
structure GOk (n:Nat) (wss:Ul):Prop where
 ne:wss≠[]
 le:wss.length<64
 Fs:n<=12
 pos:0<n
 row:∀ws∈wss,ws.length=n/\∀w∈ws,PtW (.word w)
def wAt (wss:Ul) (p:Nat):Uq:=wss.map λws=>ws.getD p Yh
def uAt (wss:Ul) (p:Nat):Uq:=fA [] (wAt wss p)
def ik (wss:Ul) (p:Nat) (s l:Int):Bool:=decide (2<=((uAt wss p).length:Int)) && (decide (((uAt wss p).length:Int)<=s) && (uAt wss p).all λw=>decide (l<=((wAt wss p).countP λz=>decide (z=w):Nat)))
theorem qm:∀{ws:Uq}{ys:Uj},aD K H ys (ws.map PyData.str)->ys=ws.map V.str
 | [],_,h=>by cases h;rfl
 | w::ws,_,h=>by
  cases h with
  | cons a t=>
   cases a;rw[qm t];rfl
theorem Oq {x:V} (h:Den K H x (wsD ws)):∃r,x = .ref r/\SqL K H r (ws.map V.str):=by
 cases h with
 | lst hq t=>
  rw[qm t]at hq;exact⟨_,rfl,hq⟩
theorem DI {x:V} (h:Den K H x (gD wss)):∃a xs,x = .ref a/\SqL K H a xs/\aD K H xs (wss.map wsD):=by
 cases h with
 | lst hq t=>exact⟨_,_,rfl,hq,t⟩
theorem qG {x:V} (h:aD K H xs (wss.map wsD)) (hx:xs[i]? = some x):∃ws r,wss[i]? = some ws/\x = .ref r/\SqL K H r (ws.map V.str):=by
 obtain⟨d,a,b⟩:=h.get hx;rw[UI]at a;cases e:wss[i]? with
 | none=>rw[e]at a;cases a
 | some ws=>
  rw[e]at a;cases a;obtain⟨r,rfl,c⟩:=Oq b;exact⟨ws,r,rfl,rfl,c⟩
theorem As (h:wss[i]? = some ws):wAt (wss.take (i+1)) p=wAt (wss.take i) p++[ws.getD p Yh]:=by
 unfold wAt;rw[UX,h];simp
theorem uo (zs:Uq):(fA [] zs).length<=zs.length:=by
 have:=Dz zs [];simpa using this
theorem GOk.M0 (h:GOk n wss) (p:Nat):(wAt wss p).length<64:=by unfold wAt;rw[UA];exact h.le
theorem GOk.PV (h:GOk n wss) (p:Nat):(uAt wss p).length<64:=Wb (uo _) (h.M0 p)
section
variable {P:Za}
theorem CF {ps:Uy} (h:H P=some (.tbl ps)) (e:H a=some o) (n:∀qs,o ≠ .tbl qs):a≠P:=λz=>by
 rw[z,h]at e;cases e;exact n _ rfl
theorem He {ps:Uy} (h:H P=some (.tbl ps)) (r:Rd H a o) (n:∀qs,o ≠ .tbl qs):Rd (wo P H) a o:=by
 rcases r with r | ⟨b,r⟩
 ·exact .inl (Zp (CF h r n) r)
 ·exact .inr ⟨b,by rw[ak (CF h r λqs e=>by cases e)];exact r⟩
theorem qL {ps:Uy} (h:H P=some (.tbl ps)) (r:SqL K H a xs):SqL K (wo P H) a xs:=by
 rcases r with r | r
 ·exact .inl (He h r λqs e=>by cases e)
 ·exact .inr r
theorem p7 {ps:Uy} (h:H P=some (.tbl ps)) (r:SqT K H a xs):SqT K (wo P H) a xs:=by
 rcases r with r | r
 ·exact .inl (He h r λqs e=>by cases e)
 ·exact .inr r
theorem zp {ps:Uy}{d:Zf} (h:H P=some (.tbl ps)) (r:Den K H v d):Den K (wo P H) v d:=r.keep (λ_ _ q=>qL h q) λ_ _ q=>p7 h q
theorem fO {ps:Uy}{v:Uj}{d:UF} (h:H P=some (.tbl ps)) (r:aD K H v d):aD K (wo P H) v d:=r.keep (λ_ _ q=>qL h q) λ_ _ q=>p7 h q
theorem aU (h:gO P pos qual H):∃ps,H P=some (.tbl ps):=let ⟨ps,e,_⟩:=h;⟨ps,e⟩
theorem aF (h:gO P pos qual H) (s:af H H'):gO P pos qual H':=by
 obtain⟨ps,h1,h2,h3⟩:=h;refine⟨ps,s _ _ h1,h2,h3.imp id λ⟨c,a,b⟩=>⟨c,a,s _ _ b⟩⟩
theorem Iu {v:Xy} (h:H2=H1\/∃ps,H1 P=some (.tbl ps)/\H1 c=none/\H2=upd (upd H1 P (.tbl (ps ++ #[u,v,.ref c]))) c (sm c qual)):af (wo P H1) H2:=by
 rcases h with rfl | ⟨ps,_,a,rfl⟩
 ·exact aM
 ·refine ax ?_ (ax bp aM);by_cases e:c=P
  ·rw[e,bp]
  ·rw[ak e];exact a
theorem zk {ps:Uy} (s:af (wo P H) H') (h:H P=some (.tbl ps)) (e:H a=some o) (n:∀qs,o ≠ .tbl qs):H' a=some o:=s _ _ (Zp (CF h e n) e)
end
def ki (wss:Ul) (n:Nat) (s l:Int):List Nat:=(Y7 n).filter λp=>ik wss p s l
def plc (wss:Ul) (n:Nat) (s l:Int):Option Nat:=if ki wss n s l=[]then none else some ((ki wss n s l).getD (cJ ((ki wss n s l).map λp=>.int (uAt wss p).length)) 0)
def Si:Option Nat->V
 | none=>.non
 | some p=>.int p
theorem EB {s:Int}:ki wss (i+1) s l=ki wss i s l++[i].filter λp=>ik wss p s l:=by
 unfold ki;rw[Wr,Vi]
theorem G9 {s:Int}:(ki wss i s l).length<=i:=by
 unfold ki;exact UK (U9 _ _) (by rw[VN];exact UD _)
theorem AQ {s:Int} (h:p∈ki wss n s l):p<n/\ik wss p s l=true:=by
 unfold ki at h;obtain⟨h1,h2⟩:=U0.mp h;exact⟨Vj.mp h1,h2⟩
theorem AS (wss:Ul) (ps:List Nat) (h:ps≠[]):cJ (ps.map λp=>PyData.int (uAt wss p).length)<ps.length:=by
 obtain⟨d,b,_⟩:=vS (all:=ps.map λp=>PyData.int (uAt wss p).length) (Sh.ok .int) (λd a=>by
  obtain⟨p,_,rfl⟩:=UE.mp a;exact⟨_,rfl⟩) (λe=>h (VC.mp e))
 have:=aH b
 rwa [UA]at this
theorem yz {s:Int} (h:plc wss n s l=some p):p<n/\ik wss p s l=true:=by
 unfold plc at h
 split at h
 ·cases h
 ·rename_i hne;have a:=AS wss _ hne;rw[US,UB a]at h;cases h;exact AQ (Vh a)
theorem KD (i:Int):(PyData.int i).depth<=100:=UU _
structure EU {α:Type} (l:List (Key×α)) (p:Key×List α):Prop where
 ne:p.2≠[]
 of:∀x∈p.2,(p.1,x)∈l
 le:p.2.length<=l.length
theorem NN {l:List (Key×α)}{st:List (Key×List α)}{k:Key}{x:α} (h:∀p∈st,EU l p):∀p∈bP st k x,EU (l++[(k,x)]) p:=λp c=>by
 have d:∀q∈st,EU (l++[(k,x)]) q:=λq a=>⟨(h q a).ne,λy b=>V3 _ ((h q a).of y b),by rw[UH];exact UK (h q a).le (Nat.le_add_right _ _)⟩;unfold bP at c
 split at c
 ·obtain⟨q,a,rfl⟩:=UE.mp c;by_cases e:q.1=k
  ·rw[Zn e];refine⟨by simp,λy b=>?_,?_⟩
   ·rcases UY.mp b with z | z
    ·exact(d q a).of y z
    ·rw[UG.mp z];show(q.1,x)∈_;rw[e];simp
   ·show(q.2++[x]).length<=_;rw[UH,UH,UQ,UQ];exact Nat.succ_le_succ (h q a).le
  ·rw[Zo e];exact d q a
 ·rcases UY.mp c with z | z
  ·exact d p z
  ·rw[UG.mp z];refine⟨by simp,λy b=>?_,by simp⟩;rw[UG.mp b];simp
theorem xn (l:List (Key×α)):∀p∈cu l,EU l p:=by
 have d:∀(r a:List (Key×α)) (b:List (Key×List α)),(∀p∈b,EU a p)->∀p∈r.foldl (λb p=>bP b p.1 p.2) b,EU (a++r) p:=λr=>by
  induction r with
  | nil=>intro a b h p c;rw[Vd];exact h p c
  | cons q r e=>
   intro a b h p c;have:=e (a++[q]) (bP b q.1 q.2) (NN h) p c
   rwa [WW,List.singleton_append]at this
 exact d l [] [] (λp c=>by cases c)
def byW (wss:Ul) (p:Nat):List Ul:=grp ((wAt wss p).map Sum.inr) wss
theorem zip_map {α β:Type} (f:α->β):∀l:List α,(l.map f).zip l=l.map λx=>(f x,x)
 | []=>rfl
 | a::l=>by rw[UW,Wv,zip_map f l];rfl
theorem rC (h:g∈byW wss p):g≠[]/\g.length<=wss.length/\(∀ws∈g,ws∈wss)/\∃w:Str,∀ws∈g,ws.getD p Yh=w:=by
 unfold byW grp at h;obtain⟨q,d,rfl⟩:=UE.mp h;have f:((wAt wss p).map (Sum.inr:Str->Key)).zip wss=wss.map λws=>(Sum.inr (ws.getD p Yh),ws):=by
  unfold wAt;rw[Vc];exact zip_map _ wss
 rw[f]at d;have c:=xn _ q d;have b:∀ws∈q.2,ws∈wss/\(Sum.inr (ws.getD p Yh):Key)=q.1:=λws a=>by
  obtain⟨v,j,e⟩:=UE.mp (c.of ws a);injection e with e1 e2;rw[<-e2];exact⟨j,e1⟩
 refine⟨c.ne,?_,λws a=>(b ws a).1,?_⟩
 ·have:=c.le
  rwa [UA]at this
 ·cases e:q.1 with
  | inl i=>
   obtain⟨ws,a⟩:=VB _ c.ne;have:=(b ws a).2;rw[e]at this;cases this
  | inr w=>
   refine⟨w,λws a=>?_⟩;have:=(b ws a).2;rw[e]at this;exact Sum.inr.inj this
theorem GOk.sub (h:GOk n wss) (hg:g∈byW wss p):GOk n g:=by
 obtain⟨h1,h2,h3,_⟩:=rC hg;exact⟨h1,Wb h2 h.le,h.Fs,h.pos,λws hws=>h.row ws (h3 ws hws)⟩
theorem iz {x:Str}:∀{zs us:Uq},x∈fA us zs↔x∈us\/x∈zs
 | [],us=>by simp[fA]
 | z::zs,us=>by
  unfold fA;rw[iz];by_cases h:z∈us
  ·rw[Zn h,UR];constructor
   ·rintro(a | a)
    ·exact .inl a
    ·exact .inr (.inr a)
   ·rintro(a | a | a)
    ·exact .inl a
    ·rw[a];exact .inl h
    ·exact .inr a
  ·rw[Zo h,UY,UG,UR];constructor
   ·rintro((a | a) | a)
    ·exact .inl a
    ·exact .inr (.inl a)
    ·exact .inr (.inr a)
   ·rintro(a | a | a)
    ·exact .inl (.inl a)
    ·exact .inl (.inr a)
    ·exact .inr a
theorem iF:∀{zs us:Uq},us.Nodup->(fA us zs).Nodup
 | [],us,h=>h
 | z::zs,us,h=>by
  unfold fA;refine iF ?_;by_cases e:z∈us
  ·rw[Zn e];exact h
  ·rw[Zo e,VE];refine⟨h,by simp,λa f b d=>?_⟩;rw[UG.mp d];exactλc=>e (c ▸ f)
def two (wss:Ul) (p:Nat):Bool:=decide (2<=(uAt wss p).length)
theorem IM (h:two wss p=true):∃x y,x≠y/\x∈wAt wss p/\y∈wAt wss p:=by
 have d:2<=(uAt wss p).length:=Zm h;have b:(uAt wss p).Nodup:=iF (by simp);have a:∀z∈uAt wss p,z∈wAt wss p:=λz c=>(iz.mp c).resolve_left (by simp)
 match e:uAt wss p,d,b,a with
 | x::y::r,_,b,a=>exact⟨x,y,λz=>(VG.mp b).1 (by rw[z];simp),a x (by simp),a y (by simp)⟩
theorem NG (c:x≠y) (hx:x∈wAt wss p) (d:y∈wAt wss p):two wss p=true:=by
 have b:x∈uAt wss p:=iz.mpr (.inr hx);have a:y∈uAt wss p:=iz.mpr (.inr d);refine Zk ?_
 match e:uAt wss p,b,a with
 | [z],b,a=>exact(c ((UG.mp b).trans (UG.mp a).symm)).elim
 | _::_::r,_,_=>simp
def mu (n:Nat) (wss:Ul):Nat:=(Y7 n).countP (two wss)
theorem L0 (n:Nat) (wss:Ul):mu n wss<=n:=by
 unfold mu;exact UK List.countP_le_length (by rw[VN];exact UD _)
theorem E1 {l:List Nat}{f g:Nat->Bool} (h:∀q,f q=true->g q=true) (b:p∈l) (h1:f p=false) (h2:g p=true):l.countP f<l.countP g:=by
 induction l with
 | nil=>cases b
 | cons a l d=>
  have c:l.countP f<=l.countP g:=List.countP_mono_left λq _=>h q;rw[VL,VL];rcases UR.mp b with e | e
  ·rw[<-e,h1,h2];simp;lia
  ·have:=d e;have i:(if f a=true then 1 else 0)<=(if g a=true then 1 else 0):=by
    cases hf:f a with
    | false=>simp
    | true=>rw[h a hf];simp
   lia
theorem Mo (l:p<n) (k:two wss p=true) (s:g∈byW wss p):mu n g<mu n wss:=by
 obtain⟨_,_,o,w,h⟩:=rC s;refine E1 (p:=p) (λq t=>?_) (Vj.mpr l) ?_ k
 ·obtain⟨x,y,c,e,d⟩:=IM t;have i:∀z∈wAt g q,z∈wAt wss q:=λz m=>by
   obtain⟨r,f,rfl⟩:=UE.mp m;exact V5 (o r f)
  exact NG c (i x e) (i y d)
 ·rw[U3];intro z;obtain⟨x,y,c,e,d⟩:=IM z;obtain⟨a,u,rfl⟩:=UE.mp e;obtain⟨b,j,rfl⟩:=UE.mp d;exact c ((h a u).trans (h b j).symm)
theorem yL {s:Int} (h:ik wss p s l=true):two wss p=true:=by
 unfold ik at h;have:=Zm (VM.mp h).1;exact Zk (by lia)
def prt (n:Nat) (s l:Int):Nat->Ul->List Ul
 | 0,g=>[g]
 | N+1,g=>match plc g n s l with
  | none=>[g]
  | some p=>(byW g p).flatMap (prt n s l N)
theorem lF {n:Nat}{s l:Int}:∀{N:Nat}{wss:Ul},GOk n wss->∀g∈prt n s l N wss,GOk n g
 | 0,wss,h,g,hg=>by rw[UG.mp hg];exact h
 | N+1,wss,h,g,hg=>by
  unfold prt at hg
  split at hg
  ·rw[UG.mp hg];exact h
  ·rename_i p _;obtain⟨_,b,a⟩:=VO.mp hg;exact lF (h.sub b) g a
theorem xN:aD K H xs (wss.map wsD)->gR (λx ws=>Den K H x (wsD ws)) xs wss:=by
 induction wss generalizing xs with
 | nil=>intro h;cases h;exact .nil
 | cons ws wss b=>
  intro h;cases h with
  | cons a t=>exact .cons a (b t)
theorem xB (h:gR (λx ws=>Den K H x (wsD ws)) xs wss):aD K H xs (wss.map wsD):=by
 induction h with
 | nil=>exact .nil
 | cons h _ ih=>exact .cons h ih
def tot {α:Type} (st:List (Key×List α)):Nat:=(st.map λp=>p.2.length).sum
theorem FJ {st:List (Key×List α)}{k:Key}{x:α} (h:(st.map (·.1)).Nodup):((bP st k x).map (·.1)).Nodup/\tot (bP st k x)=tot st+1:=by
 unfold bP
 split
 ·rename_i ha;have e:(st.map λp=>if p.1=k then(p.1,p.2++[x])else p).map (·.1)=st.map (·.1):=by
   rw[Vc];exact U5 λp _=>by show(if p.1=k then(p.1,p.2++[x])else p).1=p.1;split <;> rfl
  refine⟨by rw[e];exact h,?_⟩;have d:∀l:List (Key×List α),(l.map (·.1)).Nodup->(l.any λp=>decide (p.1=k))=true->tot (l.map λp=>if p.1=k then(p.1,p.2++[x])else p)=tot l+1:=λl=>by
   induction l with
   | nil=>intro _ h;cases h
   | cons a l j=>
    intro m ha;have c:=VG.mp m;by_cases e:a.1=k
    ·have n:(l.map λp=>if p.1=k then(p.1,p.2++[x])else p)=l:=by
      have:∀p∈l,(if p.1=k then(p.1,p.2++[x])else p)=p:=λp f=>Zo λz=>c.1 (by show a.1∈_;rw[e,<-z];exact V5 f);exact(U5 this).trans (List.map_id' l)
     rw[UW,Zn e,n];simp[tot];lia
    ·have g:(l.any λp=>decide (p.1=k))=true:=by
      rw[Vt,Zl e]at ha;simpa using ha
     have:=j c.2 g;rw[UW,Zo e];simp only[tot,UW,Vo]at this ⊢;lia
  exact d st h ha
 ·rename_i ha;refine⟨?_,by simp[tot]⟩;rw[UL,VE];refine⟨h,by simp,λa o b i e=>?_⟩;apply ha;rw[UW,VQ,UG]at i;obtain⟨p,f,rfl⟩:=UE.mp o;rw[Vz];exact⟨p,f,Zk (e.trans i)⟩
theorem uB (l:List (Key×α)):tot (cu l)=l.length:=by
 have b:∀(r:List (Key×α)) (a:List (Key×List α)),(a.map (·.1)).Nodup->tot (r.foldl (λa p=>bP a p.1 p.2) a)=tot a+r.length:=λr=>by
  induction r with
  | nil=>intro a _;rfl
  | cons q r c=>
   intro a h;have:=FJ (k:=q.1) (x:=q.2) h;rw[List.foldl_cons,c _ this.1,this.2,U1];lia
 have:=b l [] (by simp);simpa[cu,tot]using this
def jc {α:Type} (gs:List (List α)):Nat:=(gs.map YV).sum
theorem BF (wss:Ul) (p:Nat):jc (byW wss p)=wss.length:=by
 have h:=uB (((wAt wss p).map (Sum.inr:Str->Key)).zip wss);have e:jc (byW wss p)=tot (cu (((wAt wss p).map (Sum.inr:Str->Key)).zip wss)):=by
  unfold jc byW grp tot;rw[Vc];rfl
 rw[e,h,VU,UA];unfold wAt;rw[UA,V1]
theorem pR {n:Nat}{s l:Int}:∀{N:Nat}{wss:Ul},wss≠[]->(prt n s l N wss).length<=wss.length
 | 0,wss,h=>by
  show 1<=_;exact Wn.mpr h
 | N+1,wss,h=>by
  unfold prt
  split
  ·show 1<=_;exact Wn.mpr h
  ·rename_i p _;have b:∀gs:List Ul,(∀g∈gs,g≠[])->(gs.flatMap (prt n s l N)).length<=jc gs:=λgs=>by
    induction gs with
    | nil=>intro _;exact UD _
    | cons g gs d=>
     intro a;rw[Wg,UH];have i:=pR (n:=n) (s:=s) (l:=l) (N:=N) (a g (by simp));have f:=d λe c=>a e (by simp[c]);simp only[jc,UW,Vo]at f ⊢;lia
   have:=b (byW wss p) λg a=>(rC a).1;rw[BF]at this;exact this
theorem Kq {s:Int}{N:Nat} (i:Nat):(((byW wss p).take i).flatMap (prt n s l N)).length<=wss.length:=by
 have d:∀gs:List Ul,(∀g∈gs,g≠[])->(gs.flatMap (prt n s l N)).length<=jc gs:=λgs=>by
  induction gs with
  | nil=>intro _;exact UD _
  | cons g gs c=>
   intro b;rw[Wg,UH];have h:=pR (n:=n) (s:=s) (l:=l) (N:=N) (b g (by simp));have f:=c λj e=>b j (by simp[e]);simp only[jc,UW,Vo]at f ⊢;lia
 have a:∀(gs:List Ul) (i:Nat),jc (gs.take i)<=jc gs:=λgs=>by
  induction gs with
  | nil=>intro i;simp[jc]
  | cons g gs c=>
   intro i;cases i with
   | zero=>simp[jc]
   | succ i=>
    have:=c i;simp only[jc,List.take_succ_cons,UW,Vo]at this ⊢;lia
 have h:=d ((byW wss p).take i) λg b=>(rC (VS b)).1;have f:=a (byW wss p) i;rw[BF]at f;lia
def hU (A B:Hp):Hp:=λb=>match A b with
 | some o=>some o
 | none=>B b
section
variable {A:Hp}
theorem Qi:af A (hU A B):=λb o e=>by unfold hU;rw[e]
theorem RS (a:af A H) (b:af B H):af B (hU A B):=λc o e=>by
 unfold hU;cases q:A c with
 | none=>exact e
 | some o'=>
  have h1:=a c o' q;have h2:=b c o e;rw[h1]at h2;exact h2
theorem Qt (a:af A H) (b:af B H):af (hU A B) H:=λc o e=>by
 unfold hU at e
 split at e
 ·rename_i o' q;cases e;exact a c _ q
 ·exact b c o e
theorem y7 (a:A c=none) (b:B c=none):hU A B c=none:=by unfold hU;rw[a];exact b
theorem Qw (h:hU A B c≠none):A c≠none\/B c≠none:=by
 unfold hU at h
 split at h
 ·rename_i o q;exact .inl (by rw[q];simp)
 ·exact .inr h
end
theorem jn {P G:Za} (h:gO P pos qual H) (f:H G=some (.lst xs)):gO P pos qual (upd H G (.lst ys)):=by
 obtain⟨g,d,i,j⟩:=h;have a:P≠G:=nn d f
 refine⟨g,by rw[ap a];exact d,i,j.imp id λ⟨c,x,y⟩=>⟨c,x,?_⟩⟩;have b:c≠G:=nn y f
 rw[ap b];exact y
def jb (ws:Uq):Ui:=ws.map Pt.word
def byL (rss:Ul):List Ul:=grp (rss.map λws=>(Sum.inl (ws.length:Int):Key)) rss
theorem CY {b:Ul} (h:g∈byL b):g≠[]/\g.length<=b.length/\(∀ws∈g,ws∈b)/\∃n:Nat,∀ws∈g,ws.length=n:=by
 unfold byL grp at h;obtain⟨q,i,rfl⟩:=UE.mp h;rw[zip_map]at i;have d:=xn _ q i;have c:∀ws∈q.2,ws∈b/\(Sum.inl (ws.length:Int):Key)=q.1:=λws a=>by
  obtain⟨v,k,e⟩:=UE.mp (d.of ws a);injection e with e1 e2;rw[<-e2];exact⟨k,e1⟩
 refine⟨d.ne,?_,λws a=>(c ws a).1,?_⟩
 ·have:=d.le
  rwa [UA]at this
 ·obtain⟨j,f⟩:=VB _ d.ne;refine⟨j.length,λws a=>?_⟩;have:=(c ws a).2.trans (c j f).2.symm;have:=Sum.inl.inj this;lia
theorem Gb (rss:Ul):jc (byL rss)=rss.length:=by
 have h:=uB ((rss.map λa=>(Sum.inl (a.length:Int):Key)).zip rss);have e:jc (byL rss)=tot (cu ((rss.map λa=>(Sum.inl (a.length:Int):Key)).zip rss)):=by
  unfold jc byL grp tot;rw[Vc];rfl
 rw[e,h,VU,UA,V1]
def iY (rss:Ul):Prop:=rss.length<64/\∀ws∈rss,0<ws.length/\ws.length<=12/\∀w∈ws,PtW (.word w)
def gn (g:Ul):Nat:=(g.headD []).length
theorem rX {a:Ul} (h:iY a) (l:g∈byL a):GOk (gn g) g:=by
 obtain⟨i,k,j,n,f⟩:=CY l;obtain⟨b,r,rfl⟩:∃w r,g=w::r:=by
  cases g with
  | nil=>exact(i rfl).elim
  | cons w r=>exact⟨w,r,rfl⟩
 have e:gn (b::r)=n:=f b (by simp);have:=h.2 b (j b (by simp));have m:=f b (by simp);refine⟨i,Wb k h.1,by lia,by lia,λd c=>⟨by rw[e];exact f d c,(h.2 d (j d c)).2.2⟩⟩
def ya (s l:Int) (g:Ul):Uh:=(prt (gn g) s l 13 g).map λg'=>bw (g'.map jb) (gn g)
def gth (s l:Int) (rss:Ul):Uh:=(byL rss).flatMap (ya s l)
theorem A6 (s l:Int) (rss:Ul) (i:Nat):(((byL rss).take i).flatMap (ya s l)).length<=rss.length:=by
 have d:∀gs:List Ul,(∀g∈gs,g≠[])->(gs.flatMap (ya s l)).length<=jc gs:=λgs=>by
  induction gs with
  | nil=>intro _;exact UD _
  | cons g gs c=>
   intro b;rw[Wg,UH];have h:(ya s l g).length<=g.length:=by unfold ya;rw[UA];exact pR (b g (by simp))
   have f:=c λj e=>b j (by simp[e]);simp only[jc,UW,Vo]at f ⊢;lia
 have a:∀(gs:List Ul) (i:Nat),jc (gs.take i)<=jc gs:=λgs=>by
  induction gs with
  | nil=>intro i;simp[jc]
  | cons g gs c=>
   intro i;cases i with
   | zero=>simp[jc]
   | succ i=>
    have:=c i;simp only[jc,List.take_succ_cons,UW,Vo]at this ⊢;lia
 have h:=d ((byL rss).take i) λg b=>(CY (VS b)).1;have f:=a (byL rss) i;rw[Gb]at f;lia
theorem Lh {ps:Ui} (a:ps≠[]) (h:∀p∈ps,PtW p):PtW (jl ps):=by
 cases ps with
 | nil=>exact(a rfl).elim
 | cons p r=>
  have b:=h p (by simp);show PtW (if r.all (λq=>decide (q=p))=true then p else if r.all (λq=>decide (q.around=p.around))=true then .hole p.around else .hole 2)
  split
  ·exact b
  ·split
   ·exact qQ b.ok
   ·exact(by decide:2<3)
theorem Ce (h:GOk n g):PW (bw (g.map jb) n)/\bw (g.map jb) n≠[]/\(bw (g.map jb) n).length<=12:=by
 have f:(bw (g.map jb) n).length=n:=by unfold bw;rw[UA,VN]
 refine⟨λp d=>?_,λe=>?_,by rw[f];exact h.Fs⟩
 ·unfold bw at d;obtain⟨i,m,rfl⟩:=UE.mp d;have k:=Vj.mp m;refine Lh (λe=>h.ne (VC.mp (VC.mp e))) λq l=>?_;obtain⟨_,b,rfl⟩:=UE.mp l;obtain⟨ws,c,rfl⟩:=UE.mp b;have j:=h.row ws c;have a:i<ws.length:=by lia
  unfold jb;rw[US,UI,UB a];exact j.2 _ (Vh a)
 ·have:=congrArg YV e;rw[f]at this;have o:=h.pos;simp at this;lia
theorem LA {s:Int} (h:GOk (gn g) g):nY (ya s l g):=λps hps=>by
 unfold ya at hps;obtain⟨g',hg',rfl⟩:=UE.mp hps;exact Ce (lF h g' hg')
theorem Il {s:Int} (h:iY rss):nY (gth s l rss):=λps hps=>by
 obtain⟨g,hg,hp⟩:=VO.mp hps;exact LA (rX h hg) ps hp
def b8 {α:Type} (l:List (Key×α)):List Key:=l.foldl (λks p=>if (ks.any λq=>decide (q=p.1))=true then ks else ks++[p.1]) []
theorem PC {k:Key}:(ks.any λq=>decide (q=k))=true↔k∈ks:=by
 rw[Vz];constructor
 ·rintro⟨q,hq,e⟩;rw[<-Zm e];exact hq
 ·exactλh=>⟨k,h,Zk rfl⟩
theorem vX {l:List (Key×α)}{p:Key×α} (h:p.1∈b8 l):b8 (l++[p])=b8 l:=by
 have e:b8 (l++[p])=if ((b8 l).any λq=>decide (q=p.1))=true then b8 l else b8 l++[p.1]:=by
  unfold b8;rw[Ww];rfl
 rw[e,Zn (PC.mpr h)]
theorem rM {l:List (Key×α)}{p:Key×α} (h:p.1∉b8 l):b8 (l++[p])=b8 l++[p.1]:=by
 have e:b8 (l++[p])=if ((b8 l).any λq=>decide (q=p.1))=true then b8 l else b8 l++[p.1]:=by
  unfold b8;rw[Ww];rfl
 rw[e,Zo (λz=>h (PC.mp z))]
theorem snoc_ind {C:List α->Prop} (c:C []) (b:∀l x,C l->C (l++[x])) (l:List α):C l:=by
 have:∀r:List α,C r.reverse:=λr=>by
  induction r with
  | nil=>exact c
  | cons x r a=>rw[List.reverse_cons];exact b _ _ a
 have e:=this l.reverse
 rwa [List.reverse_reverse]at e
theorem rT (l:List (Key×α)):(b8 l).Nodup:=by
 refine snoc_ind (C:=λl=>(b8 l).Nodup) Wh (λl p d=>?_) l;by_cases c:p.1∈b8 l
 ·rw[vX c];exact d
 ·rw[rM c,VE];refine⟨d,by simp,λa g b f=>?_⟩;rw[UG.mp f];exactλe=>c (e ▸ g)
theorem qO {k:Key} (l:List (Key×α)):k∈b8 l↔∃x,(k,x)∈l:=by
 refine snoc_ind (C:=λl=>k∈b8 l↔∃x,(k,x)∈l) (by simp[b8]) (λl p c=>?_) l;have e:k∈b8 (l++[p])↔k∈b8 l\/k=p.1:=by
  by_cases b:p.1∈b8 l
  ·rw[vX b];exact⟨.inl,λh=>h.elim id λz=>z ▸ b⟩
  ·rw[rM b,UY,UG]
 rw[e,c];constructor
 ·rintro(⟨x,a⟩ | rfl)
  ·exact⟨x,V3 _ a⟩
  ·exact⟨p.2,U8 _ (UG.mpr rfl)⟩
 ·rintro⟨x,a⟩;rcases UY.mp a with a | a
  ·exact .inl ⟨x,a⟩
  ·exact .inr (by rw[<-UG.mp a])
def ofK {α:Type} (l:List (Key×α)) (k:Key):List α:=(l.filter λp=>decide (p.1=k)).map (·.2)
theorem vB (l:List (Key×α)) (p:Key×α) (k:Key):ofK (l++[p]) k=if p.1=k then ofK l k++[p.2]else ofK l k:=by
 unfold ofK;rw[Vi,UL];by_cases h:p.1=k
 ·rw[Zn h];simp[h]
 ·rw[Zo h];simp[h]
theorem GA {l:List (Key×α)}{k:Key} (h:k∉b8 l):ofK l k=[]:=by
 unfold ofK;rw[VC,Wx];intro p hp e;have e':=Zm e;exact h ((qO l).mpr ⟨p.2,by rw[<-e'];exact hp⟩)
theorem E9 (l:List (Key×α)):cu l=(b8 l).map λk=>(k,ofK l k):=by
 refine snoc_ind (C:=λl=>cu l=(b8 l).map λk=>(k,ofK l k)) rfl (λl p c=>?_) l;have e:cu (l++[p])=bP (cu l) p.1 p.2:=by
  unfold cu;rw[Ww];rfl
 rw[e,c];unfold bP;by_cases h:p.1∈b8 l
 ·rw[vX h];have b:(((b8 l).map λk=>(k,ofK l k)).any λq=>decide (q.1=p.1))=true:=by
   rw[Vz];exact⟨_,UE.mpr ⟨_,h,rfl⟩,Zk rfl⟩
  rw[Zn b,Vc];refine U5 λk a=>?_;show(if k=p.1 then(k,ofK l k++[p.2])else(k,ofK l k))=(k,ofK (l++[p]) k);rw[vB];by_cases e:k=p.1
  ·rw[Zn e,Zn e.symm]
  ·rw[Zo e,Zo (YR e)]
 ·rw[rM h];have b:¬ (((b8 l).map λk=>(k,ofK l k)).any λq=>decide (q.1=p.1))=true:=by
   intro z;obtain⟨q,f,d⟩:=Vz.mp z;obtain⟨k,a,rfl⟩:=UE.mp f;have:=Zm d;exact h (this ▸ a)
  rw[Zo b,UL]
  congr 1
  ·refine U5 λk a=>?_;show(k,ofK l k)=(k,ofK (l++[p]) k);rw[vB,Zo (λe:p.1=k=>h (e ▸ a))]
  ·show[(p.1,[p.2])]=[(p.1,ofK (l++[p]) p.1)];rw[vB,Zn rfl,GA h];rfl
theorem En (f:α->Key) (xs:List α):grp (xs.map f) xs=(b8 (xs.map λx=>(f x,x))).map λk=>xs.filter λx=>decide (f x=k):=by
 unfold grp;rw[zip_map,E9,Vc];refine U5 λk _=>?_;show ofK (xs.map λx=>(f x,x)) k=_;unfold ofK;rw[List.filter_map,Vc];simp[Function.comp_def]
theorem GH (wss:Ul) (p:Nat):∃ks:List Key,ks.Nodup/\(∀k,k∈ks↔∃ws∈wss,(Sum.inr (ws.getD p Yh):Key)=k)/\byW wss p=ks.map λk=>wss.filter λws=>decide ((Sum.inr (ws.getD p Yh):Key)=k):=by
 refine⟨_,rT (wss.map λws=>((Sum.inr (ws.getD p Yh):Key),ws)),λk=>?_,?_⟩
 ·rw[qO];constructor
  ·rintro⟨x,b⟩;obtain⟨ws,a,e⟩:=UE.mp b;injection e with e1 e2;exact⟨ws,a,e1⟩
  ·rintro⟨ws,a,rfl⟩;exact⟨ws,UE.mpr ⟨ws,a,rfl⟩⟩
 ·unfold byW wAt;rw[Vc];exact En (λws:Uq=>(Sum.inr (ws.getD p Yh):Key)) wss
theorem HP (a:Ul):∃ks:List Key,ks.Nodup/\(∀k,k∈ks↔∃ws∈a,(Sum.inl (ws.length:Int):Key)=k)/\byL a=ks.map λk=>a.filter λws=>decide ((Sum.inl (ws.length:Int):Key)=k):=by
 refine⟨_,rT (a.map λws=>((Sum.inl (ws.length:Int):Key),ws)),λk=>?_,?_⟩
 ·rw[qO];constructor
  ·rintro⟨x,c⟩;obtain⟨ws,b,e⟩:=UE.mp c;injection e with e1 e2;exact⟨ws,b,e1⟩
  ·rintro⟨ws,b,rfl⟩;exact⟨ws,UE.mpr ⟨ws,b,rfl⟩⟩
 ·exact En (λws:Uq=>(Sum.inl (ws.length:Int):Key)) a
theorem DB:(∃g∈byW wss p,ws∈g)↔ws∈wss:=by
 obtain⟨_,_,a,e⟩:=GH wss p;rw[e];constructor
 ·rintro⟨g,c,b⟩;obtain⟨k,_,rfl⟩:=UE.mp c;exact(U0.mp b).1
 ·intro h;exact⟨_,UE.mpr ⟨_,(a _).mpr ⟨ws,h,rfl⟩,rfl⟩,U0.mpr ⟨h,Zk rfl⟩⟩
theorem KA:(∃g∈byL rss,ws∈g)↔ws∈rss:=by
 obtain⟨_,_,a,e⟩:=HP rss;rw[e];constructor
 ·rintro⟨g,c,b⟩;obtain⟨k,_,rfl⟩:=UE.mp c;exact(U0.mp b).1
 ·intro h;exact⟨_,UE.mpr ⟨_,(a _).mpr ⟨ws,h,rfl⟩,rfl⟩,U0.mpr ⟨h,Zk rfl⟩⟩
theorem nN {n:Nat}{s l:Int}:∀{N:Nat}{wss:Ul}{ws:Uq},(∃g∈prt n s l N wss,ws∈g)↔ws∈wss
 | 0,wss,ws=>by simp[prt]
 | N+1,wss,ws=>by
  unfold prt
  split
  ·simp
  ·rename_i p _;constructor
   ·rintro⟨g,f,e⟩;obtain⟨a,b,c⟩:=VO.mp f;exact DB.mp ⟨a,b,nN.mp ⟨g,c,e⟩⟩
   ·intro h;obtain⟨a,b,c⟩:=DB.mpr h;obtain⟨g,i,d⟩:=nN.mpr c;exact⟨g,VO.mpr ⟨a,b,i⟩,d⟩
def uY (n:Nat) (g g':Ul):Prop:=∃(p:Nat) (w w':Str),p<n/\w≠w'/\(∀ws∈g,ws.getD p Yh=w)/\∀ws∈g',ws.getD p Yh=w'
theorem Ks (g:p<n):(byW wss p).Pairwise (uY n):=by
 obtain⟨_,b,f,e⟩:=GH wss p;rw[e,VD];refine b.imp_of_mem λ{k l} h j d=>?_;obtain⟨i,_,rfl⟩:=(f k).mp h;obtain⟨a,_,rfl⟩:=(f l).mp j;refine⟨p,_,_,g,λz:i.getD p Yh=a.getD p Yh=>d (congrArg Sum.inr z),λv c=>?_,λv c=>?_⟩
 ·exact Sum.inr.inj (Zm (U0.mp c).2)
 ·exact Sum.inr.inj (Zm (U0.mp c).2)
theorem uY.sub {h h':Ul} (s:uY n g g') (a:∀ws∈h,ws∈g) (b:∀ws∈h',ws∈g'):uY n h h':=by
 obtain⟨p,w,i,e,c,f,j⟩:=s;exact⟨p,w,i,e,c,λws d=>f ws (a ws d),λws d=>j ws (b ws d)⟩
theorem Dy {n:Nat}{s l:Int}:∀{N:Nat}{wss:Ul},(prt n s l N wss).Pairwise (uY n)
 | 0,wss=>by simp[prt]
 | N+1,wss=>by
  unfold prt
  split
  ·simp
  ·rename_i p hp;rw[List.pairwise_flatMap];refine⟨λg _=>Dy,(Ks (yz hp).1).imp λ{g _} b x d y e=>?_⟩;exact b.sub (λc a=>nN.mp ⟨x,d,a⟩) λc a=>nN.mp ⟨y,e,a⟩
theorem yn {s:Int}{N:Nat} (hg:g∈prt n s l N wss)  (h:ws∈g):ws∈wss:=nN.mp ⟨g,hg,h⟩
theorem Ec {n:Nat}{s l:Int}:∀{N:Nat}{wss:Ul},mu n wss<=N->∀g∈prt n s l N wss,plc g n s l=none
 | 0,wss,hm,g,hg=>by
  rw[UG.mp hg];cases e:plc wss n s l with
  | none=>rfl
  | some p=>
   obtain⟨a,b⟩:=yz e;have:0<mu n wss:=List.countP_pos_iff.mpr ⟨p,Vj.mpr a,yL b⟩;lia
 | N+1,wss,hm,g,hg=>by
  unfold prt at hg
  split at hg
  ·rename_i e;rw[UG.mp hg];exact e
  ·rename_i p e;obtain⟨a,b⟩:=yz e;obtain⟨_,d,c⟩:=VO.mp hg;have:=Mo a (yL b) d;exact Ec (by lia) g c
theorem uz (hi:i<n):(bw pss n)[i]? = some (jl (pss.map λps=>ps.getD i (.hole 2))):=by
 unfold bw;rw[UI,List.getElem?_range hi];rfl
theorem jv (pss:Uh) (n:Nat):(bw pss n).length=n:=by simp[bw]
theorem J7 (h:i<ws.length):(jb ws).getD i (.hole 2) = .word (ws.getD i Yh):=by
 unfold jb;simp[YA,UI,UB h]
theorem IK (b:∀ws∈g,ws.length=n) (hi:i<n):((g.map jb).map λps=>ps.getD i (.hole 2))=(wAt g i).map Pt.word:=by
 unfold wAt;rw[Vc,Vc];refine U5 λws a=>?_;exact J7 (by rw[b ws a];exact hi)
theorem E5 {ps:Ui} (o:ps≠[]) (h:∀p,p∈ps↔p∈qs):jl ps=jl qs:=by
 cases ps with
 | nil=>exact absurd rfl o
 | cons p r=>
  cases qs with
  | nil=>exact absurd ((h p).mp (UM ..)) (by simp)
  | cons q t=>
   have d:∀{x y:Pt}{r t:Ui},(∀p,p∈x::r↔p∈y::t)->∀f:Pt->Pt->Bool,(∀a,f a a=true)->(∀a b,f a b=true->f b a=true)->(∀a b c,f a b=true->f b c=true->f a c=true)->(r.all (λq=>f q x))=true->(t.all (λq=>f q y))=true:=λ{x y r t} h f m k l A=>by
    have v:∀z∈x::r,f z x=true:=λz g=>by
     rcases UR.mp g with rfl | g
     ·exact m _
     ·exact U4.mp A z g
    exact U4.mpr λz g=>l _ _ _ (v z ((h z).mpr (UJ _ g))) (k _ _ (v y ((h y).mpr (UM ..))))
   have s:∀f:Pt->Pt->Bool,(∀a,f a a=true)->(∀a b,f a b=true->f b a=true)->(∀a b c,f a b=true->f b c=true->f a c=true)->r.all (λz=>f z p)=t.all (λz=>f z q):=λf m k l=>by
    rw[Va];exact⟨d h f m k l,d (λp=>(h p).symm) f m k l⟩
   have w:=s (λa b=>decide (a=b)) (λa=>by simp) (λa b e=>by simpa using(Zm e).symm) (λa b c e n=>by simpa using(Zm e).trans (Zm n));have u:=s (λa b=>decide (a.around=b.around)) (λa=>by simp) (λa b e=>by simpa using(Zm e).symm) (λa b c e n=>by simpa using(Zm e).trans (Zm n));unfold jl;simp only at w u ⊢;rw[<-w,<-u];by_cases i:r.all (λz=>decide (z=p))=true
   ·rw[Zn i,Zn i];rcases UR.mp ((h q).mpr (UM ..))with e | e
    ·exact e.symm
    ·exact(Zm (U4.mp i q e)).symm
   ·rw[Zo i,Zo i];by_cases j:r.all (λz=>decide (z.around=p.around))=true
    ·rw[Zn j,Zn j];rcases UR.mp ((h q).mpr (UM ..))with e | e
     ·rw[e]
     ·rw[Zm (U4.mp j q e)]
    ·rw[Zo j,Zo j]
theorem mM {w:Str} (a:g≠[]) (h:∀ws∈g,ws.length=n) (c:p<n) (d:∀ws∈g,ws.getD p Yh=w):(bw (g.map jb) n)[p]? = some (.word w):=by
 rw[uz c,IK h c];have e:jl ((wAt g p).map Pt.word)=jl [.word w]:=E5 (by simpa[wAt]using a) λq=>by
  rw[UG];constructor
  ·intro i;obtain⟨z,f,rfl⟩:=UE.mp i;obtain⟨ws,b,rfl⟩:=UE.mp f;show Pt.word (ws.getD p Yh)=_;rw[d ws b]
  ·rintro rfl;obtain⟨ws,b⟩:=VB _ a;exact UE.mpr ⟨w,UE.mpr ⟨ws,b,d ws b⟩,rfl⟩
 rw[e];simp[jl]
theorem zU {w:Str} (a:w∈ws) (f:∀z∈ws,dN z=true):(jl (ws.map Pt.word)).takes w=true:=by
 cases ws with
 | nil=>cases a
 | cons x r=>
  unfold jl;simp only[UW];by_cases b:(r.map Pt.word).all (λz=>decide (z=Pt.word x))=true
  ·rw[Zn b];rcases UR.mp a with rfl | h
   ·exact Zk rfl
   ·have:=Zm (U4.mp b _ (UE.mpr ⟨w,h,rfl⟩));injection this with this;exact Zk this
  ·rw[Zo b];by_cases d:(r.map Pt.word).all (λz=>decide (z.around=(Pt.word x).around))=true
   ·rw[Zn d];have g:dX w=dX x:=by
     rcases UR.mp a with rfl | h
     ·rfl
     ·exact Zm (U4.mp d _ (UE.mpr ⟨w,h,rfl⟩))
    show(Pt.hole (dX x)).takes w=true;rw[<-g];have c:=f w a
    match e:dX w with
    | 0=>exact Zk e
    | 1=>exact Zk e
    | n+2=>exact c
   ·rw[Zo d];exact f w a
theorem AD {ps:Ui} (c:ps.length=ws.length) (h:∀(i:Nat) p w,ps[i]? = some p->ws[i]? = some w->p.takes w=true):a8 ps ws=true:=by
 unfold a8;rw[Zk c,V4,U4];intro x b;obtain⟨i,a⟩:=VJ b;rw[Vf]at a;exact h i _ _ a.1 a.2
theorem Dm (b:∀ws∈g,ws.length=n/\∀w∈ws,dN w=true)  (h:ws∈g):a8 (bw (g.map jb) n) ws=true:=by
 have j:=(b ws h).1;refine AD (by rw[jv,j]) λi p w e f=>?_;have d:i<n:=by rw[<-j];exact aH f
 rw[uz d,IK (λv a=>(b v a).1) d]at e;cases e;refine zU (UE.mpr ⟨ws,h,by simp[YA,f]⟩) λz k=>?_;obtain⟨v,a,rfl⟩:=UE.mp k;have c:i<v.length:=by rw[(b v a).1];exact d
 refine(b v a).2 _ ?_;show v.getD i Yh∈v;simp[YA,UB c]
theorem BD {ps:Ui}{p:Pt}{w:Str} (h:a8 ps ws=true) (a:ps[i]? = some p) (b:ws[i]? = some w):p.takes w=true:=by
 unfold a8 at h;have:=U4.mp (VM.mp h).2 (p,w) (UC (Vf.mpr ⟨a,b⟩));exact this
theorem Fp (sp:uY n g g') (b:g≠[]) (k:∀ws∈g,ws.length=n) (c:∀ws∈g',ws.length=n)  (h:ws∈g'):a8 (bw (g.map jb) n) ws=false:=by
 obtain⟨p,w,w',d,l,f,i⟩:=sp;refine U3.mpr λz=>?_;have a:p<ws.length:=by rw[c ws h];exact d
 have e:=i ws h;have j:ws[p]? = some w':=by
  rw[UB a];simp[YA,UB a]at e;rw[e]
 have:=BD z (mM b k d f) j;exact l (Zm this).symm
theorem uY.symm (s:uY n g g'):uY n g' g:=by
 obtain⟨p,w,w',hp,hne,h1,h2⟩:=s;exact⟨p,w',w,hp,YR hne,h2,h1⟩
theorem J2 (sp:uY n g g') (c:g≠[]) (l:g'≠[]) (k:∀ws∈g,ws.length=n) (d:∀ws∈g',ws.length=n):o5 (bw (g.map jb) n) (bw (g'.map jb) n)=none:=by
 obtain⟨p,w,i,e,f,h,j⟩:=sp;unfold o5;refine Zo λz=>?_;have a:=mM c k e h;have b:=mM l d e j;have:=U4.mp z.2 (Pt.word w,Pt.word i) (UC (Vf.mpr ⟨a,b⟩));simp[KN,Pt.within,Pt.takes,f,YR f]at this
theorem pw_all {α:Type}{R:α->α->Prop} (c:∀a b,R a b->R b a):∀{l:List α},l.Pairwise R->∀a∈l,∀b∈l,a≠b->R a b
 | [],_,a,ha,_,_,_=>by cases ha
 | x::r,h,a,ha,b,hb,hne=>by
  obtain⟨d,e⟩:=List.pairwise_cons.mp h;rcases UR.mp ha with ea | ha'
  ·rcases UR.mp hb with eb | hb'
   ·exact absurd (ea.trans eb.symm) hne
   ·rw[ea];exact d b hb'
  ·rcases UR.mp hb with eb | hb'
   ·rw[eb];exact c _ _ (d a ha')
   ·exact pw_all c e a ha' b hb' hne
def jnG (g:Ul):Ui:=bw (g.map jb) (gn g)
def grs (s l:Int) (rss:Ul):List Ul:=(byL rss).flatMap λg=>prt (gn g) s l 13 g
theorem Qm (hne:g≠[]) (h:∀ws∈g,ws.length=n):gn g=n:=by
 cases g with
 | nil=>exact absurd rfl hne
 | cons a r=>exact h a (UM ..)
theorem GOk.gn (h:GOk n g):gn g=n:=Qm h.ne λws hw=>(h.row ws hw).1
theorem Cu {s:Int}{a:Ul} (h:iY a):gth s l a=(grs s l a).map jnG:=by
 unfold gth grs ya;rw[List.map_flatMap];rw[List.flatMap_def,List.flatMap_def]
 congr 1
 refine U5 λg d=>U5 λb c=>?_;have:=(lF (rX h d) b c).gn;show _=bw (b.map jb) (LG.gn b);rw[this]
theorem pf {s:Int}{a:Ul} (h:iY a) (i:g∈grs s l a):GOk (gn g) g/\plc g (gn g) s l=none:=by
 obtain⟨_,f,d⟩:=VO.mp i;have c:=rX h f;have b:=lF c g d;have e:=b.gn;rw[e];refine⟨b,Ec (UK (L0 _ _) (UK c.Fs (by decide))) g d⟩
theorem yu {s:Int}:(∃g∈grs s l rss,ws∈g)↔ws∈rss:=by
 rw[<-KA];constructor
 ·rintro⟨g,f,e⟩;obtain⟨a,b,c⟩:=VO.mp f;exact⟨a,b,yn c e⟩
 ·rintro⟨a,b,c⟩;obtain⟨g,h,d⟩:=nN.mpr c;exact⟨g,VO.mpr ⟨a,b,h⟩,d⟩
def Sep (g g':Ul):Prop:=gn g≠gn g'\/(gn g=gn g'/\uY (gn g) g g')
theorem Ku {a:Ul}:(byL a).Pairwise λg g'=>∀ws∈g,∀ws'∈g',ws.length≠ws'.length:=by
 obtain⟨_,b,_,e⟩:=HP a;rw[e,VD];refine b.imp λ{k _} c ws h ws' f z=>?_;have d:=Zm (U0.mp h).2;have i:=Zm (U0.mp f).2;rw[z]at d;exact c (d.symm.trans i)
theorem yj {s:Int}{c:Ul} (h:iY c):(grs s l c).Pairwise Sep:=by
 unfold grs;rw[List.pairwise_flatMap];constructor
 ·intro g f;refine Dy.imp_of_mem λ{x y} e d q=>?_;have n:=(lF (rX h f) x e).gn;have r:=(lF (rX h f) y d).gn;exact .inr ⟨by rw[n,r],by rw[n];exact q⟩
 ·refine Ku.imp_of_mem λ{g _} f i p x e y d=>.inl λz=>?_;have k:=lF (rX h f) x e;have j:=lF (rX h i) y d;obtain⟨a,o⟩:=VB _ k.ne;obtain⟨b,m⟩:=VB _ j.ne;refine p a (yn e o) b (yn d m) ?_;rw[(k.row a o).1,(j.row b m).1,<-k.gn,<-j.gn,z]
theorem Sep.symm (s:Sep g g'):Sep g' g:=s.elim (λh=>.inl h.symm) λh=>.inr ⟨h.1.symm,by rw[<-h.1];exact h.2.symm⟩
theorem N6 (s:Sep g g') (o:GOk (gn g) g) (o':GOk (gn g') g'):o5 (jnG g) (jnG g')=none:=by
 rcases s with h | ⟨c,d⟩
 ·unfold o5 jnG;refine Zo λz=>h ?_;have:=z.1
  rwa [jv,jv]at this
 ·unfold jnG;rw[<-c];exact J2 d o.ne o'.ne (λa b=>(o.row a b).1) λa b=>by rw[c];exact(o'.row a b).1
theorem Ge (s:Sep g g') (o:GOk (gn g) g) (o':GOk (gn g') g')  (a:ws∈g'):a8 (jnG g) ws=false:=by
 rcases s with h | ⟨b,c⟩
 ·refine U3.mpr λz=>h ?_;unfold a8 at z;have:=Zm (VM.mp z).1;unfold jnG at this;rw[jv,(o'.row ws a).1]at this;exact this
 ·exact Fp c o.ne (λws a=>(o.row ws a).1) (λws a=>by rw[b];exact(o'.row ws a).1) a
theorem GI {w:Str} (h:PtW (.word w)):dN w=true:=h.1
theorem uw {s:Int}{d:Ul} (h:iY d) (m:g∈grs s l d)  (i:ws∈d):a8 (jnG g) ws=true↔ws∈g:=by
 have o:=(pf h m).1;constructor
 ·intro k;obtain⟨j,f,c⟩:=yu (s:=s) (l:=l).mpr i;by_cases e:g=j
  ·rw[e];exact c
  ·have p:=pw_all (λa b q=>Sep.symm q) (yj (s:=s) (l:=l) h) g m j f e;rw[Ge p o (pf h f).1 c]at k;cases k
 ·exactλc=>Dm (λv n=>⟨(o.row v n).1,λw i=>GI ((o.row v n).2 w i)⟩) c
theorem Lw {s:Int} (h:iY rss):(gth s l rss).Pairwise λp q=>o5 p q=none:=by
 rw[Cu h,VD];exact(yj h).imp_of_mem λ{a b} ha hb sp=>N6 sp (pf h ha).1 (pf h hb).1
theorem oY {a b:Uq} (c:a.Perm b) (h:UpS a) (h':UpS b):a=b:=by
 refine map_inj (f:=PyData.str) (λx y e=>by injection e) ?_;refine jN (Sh.ok .str) (λx d=>?_) (c.map _) ?_ ?_
 ·obtain⟨z,_,rfl⟩:=UE.mp d;exact⟨z,rfl⟩
 ·rw[VD];exact h
 ·rw[VD];exact h'
theorem JE {c a b:Uq} (e:a.Perm (fA [] zs)) (d:b.Perm (fA [] c)) (f:UpS a) (g:UpS b) (h:∀z,z∈zs↔z∈c):a=b:=by
 refine oY ((WK (e.nodup_iff.mpr (iF Wh)) (d.nodup_iff.mpr (iF Wh))).mpr λz=>?_) f g;rw[e.mem_iff,d.mem_iff,iz,iz,h z]
theorem Cf {ps:Ui} (h:iG ps qs=true):o5 ps qs≠none:=by
 unfold iG at h;obtain⟨c,a⟩:=VM.mp h;unfold o5;rw[Zn ⟨Zm c,U4.mpr λx b=>by
  have:=U4.mp a x b;unfold KN;rw[Zn this];rfl⟩]
 simp
theorem Gp (hp:ms.Perm (fA [] zs)) :z∈ms↔z∈zs:=by
 rw[hp.mem_iff,iz];simp
theorem MH (hp:ms.Perm (fA [] zs)):ms.length<=zs.length:=by
 rw[hp.length_eq];exact uo zs
theorem y0 (e:ms.Perm (fA [] zs)) (f:zs.length<64) (hz:∀z∈zs,∃ws,gZ 12 z ws):iY (ms.map λz=>Y4 z " "):=by
 have:=MH e;refine⟨by rw[UA];lia,λws b=>?_⟩;obtain⟨z,d,rfl⟩:=UE.mp b;obtain⟨ws,a⟩:=hz z ((Gp e).mp d);rw[a.split];exact⟨a.pos,a.le,λw c=>⟨(a.wd w c).word,UK (a.wd w c).len (by decide),(a.wd w c).ok⟩⟩
section
variable {s:Int}
theorem HY {α:Type}{f:α->Bool}:∀{l:List α},l.Pairwise (λa b=>f a=true->f b=true->False)->(∃a∈l,f a=true)->(l.filter f).length=1
 | [],_,h=>by obtain⟨a,i,_⟩:=h;cases i
 | x::r,hp,h=>by
  obtain⟨j,m⟩:=List.pairwise_cons.mp hp;by_cases d:f x=true
  ·rw[V7 d];have:r.filter f=[]:=Wx.mpr λb k g=>j b k d g;rw[this];rfl
  ·rw[VT d];refine HY m ?_;obtain⟨a,i,c⟩:=h;rcases UR.mp i with e | e
   ·exact absurd (e ▸ c) d
   ·exact⟨a,e,c⟩
theorem Ja {ps:Uh} (n:ms.Perm (fA [] zs)) (c:iY (ms.map λz=>Y4 z " ")) (e:ps.Perm (gth s l (ms.map λz=>Y4 z " "))) (hz:z∈zs):(ps.filter λp=>a8 p (Y4 z " ")).length=1:=by
 have h:Y4 z " " ∈ ms.map λz=>Y4 z " " :=UE.mpr ⟨z,(Gp n).mpr hz,rfl⟩;rw[(e.filter _).length_eq,Cu c,List.filter_map,UA];obtain⟨g,j,q⟩:=yu (s:=s) (l:=l).mpr h;refine HY ((yj c).imp_of_mem λ{a b} r i k m o=>?_) ⟨g,j,(uw c j h).mpr q⟩;have f:=(uw c i h).mp o;have:=Ge k (pf c r).1 (pf c i).1 f;have d:a8 (jnG a) (Y4 z " ")=true:=m;rw[this]at d;cases d
end
section
variable {s:Int}
end
theorem o8 (us:Uq):∃ms:Uq,ms.Perm us/\UpS ms:=by
 have o:=Sh.ok .str;have d:∀x:Str,Sh.str.has (.str x):=λx=>⟨x,rfl⟩;refine⟨us.mergeSort λx y=>!ltv (.str y) (.str x),List.mergeSort_perm _ _,?_⟩;refine(List.pairwise_mergeSort (λa b c f g=>?_) (λa b=>?_) us).imp λ{a b} h=>by simpa using h
 ·cases q:ltv (.str c) (.str a)with
  | false=>rfl
  | true=>
   rcases o.neg (d c) (d b) (d a) q with e | e
   ·rw[e]at g;cases g
   ·rw[e]at f;cases f
 ·cases q:ltv (.str b) (.str a)with
  | false=>rfl
  | true=>rw[o.asymm (d b) (d a) q];rfl
def nV (i:Nat):V:=V.int (i:Int)
noncomputable def FN (zs:Uq):Uq:=(o8 (fA [] zs)).choose
theorem xY (zs:Uq):(FN zs).Perm (fA [] zs)/\UpS (FN zs):=(o8 (fA [] zs)).choose_spec
theorem QB (hp:ms.Perm (fA [] zs)) (hu:UpS ms):ms=FN zs:=oY (hp.trans (xY zs).1.symm) hu (xY zs).2
noncomputable def Nt (s l:Int) (zs:Uq):Uh:=gth s l ((FN zs).map λz=>Y4 z " ")
noncomputable def xH (s l:Int) (zs:Uq) (z:Str):Bool:=!((Nt s l zs).any λp=>a8 p (Y4 z " "))
noncomputable def Tw (s l:Int) (zs:Uq) (n:Nat):List Nat:=(Y7 n).filter λi=>xH s l (zs.take i) (zs.getD i Yh)
theorem Ac {f:α->Bool}{a b:List α} (h:a.Perm b):a.any f=b.any f:=by
 rw[Va,Vz,Vz];exact⟨λ⟨x,h1,h2⟩=>⟨x,h.mem_iff.mp h1,h2⟩,λ⟨x,h1,h2⟩=>⟨x,h.mem_iff.mpr h1,h2⟩⟩
theorem IS {s:Int}{ps:Uh} (b:ms.Perm (fA [] zs)) (c:UpS ms) (a:ps.Perm (gth s l (ms.map λz=>Y4 z " "))):xH s l zs z = !(ps.any λp=>a8 p (Y4 z " ")):=by
 unfold xH Nt;rw[<-QB b c,Ac a]
theorem pB {f:α->Bool} (l:List α):(l.filter f).isEmpty = !(l.any f):=by
 induction l with
 | nil=>rfl
 | cons a l b=>
  rw[Vt];cases h:f a with
  | true=>rw[V7 h];rfl
  | false=>rw[VT (by rw[h];decide),b];rfl
theorem G5 {s:Int} (c:zs.length<64) (hz:∀z∈zs,∃ws,gZ 12 z ws) (h:z∈zs):xH s l zs z=false:=by
 obtain⟨g,_⟩:=xY zs;have d:=y0 g c hz;have e:=Ja (s:=s) (l:=l) g d (Z8 _) h;unfold xH Nt;have:=pB (f:=λp=>a8 p (Y4 z " ")) (gth s l ((FN zs).map λz=>Y4 z " "));rw[<-this];cases q:(gth s l ((FN zs).map λz=>Y4 z " ")).filter λp=>a8 p (Y4 z " ")with
 | nil=>rw[q]at e;cases e
 | cons a b=>rfl
def oP:Option Ui->Zf
 | none=>.none
 | some ps=>be ps
def zw (r:Int×Str):Zf:=.tuple [.int r.1,.str r.2]
def Ez (bs:Uh) (z:Str) (o:Option Ui):Prop:=(bs.filter (bT z)=[]/\o=none)\/∃p,o=some p/\vb (bs.filter (bT z)) p
def mG (bs fs:Uh) (z:Str) (o:Option Ui):Prop:=(∃p,o=some p/\vb (bs.filter (bT z)) p)\/(bs.filter (bT z)=[]/\Ez fs z o)
def yE (bs fs:Uh) (zs:Uq) (os:List (Option Ui)):Prop:=os.length=zs.length/\∀(i:Nat) z o,zs[i]? = some z->os[i]? = some o->mG bs fs z o
structure eh (s l:Int) (zs:Uq) (ps:Uh):Prop where
 ex:∃ms:Uq,ms.Perm (fA [] zs)/\UpS ms/\ps.Perm (gth s l (ms.map λz=>Y4 z " "))
 ord:lB ps
 ok:nY ps
 lt:ps.length<64
def e9 (bs:Uh) (zs:Uq):Uq:=zs.filter λz=>(bs.filter (bT z)).isEmpty
section
variable {g:Za}{fs:List (Str×V)}
theorem IZ (h:H g=some (.ins C dx fs)) (r:Rd H a o) (n:∀C dx fs,o ≠ .ins C dx fs):Rd (wo g H) a o:=by
 rcases r with r | ⟨b,r⟩
 ·exact .inl (by rw[ak λe=>by rw[e,h]at r;cases r;exact n _ _ _ rfl];exact r)
 ·exact .inr ⟨b,by rw[ak λe=>by rw[e,h]at r;cases r];exact r⟩
theorem KH (h:H g=some (.ins C dx fs)) (r:SqL K H a xs):SqL K (wo g H) a xs:=by
 rcases r with r | r
 ·exact .inl (IZ h r λ_ _ _ e=>by cases e)
 ·exact .inr r
theorem t8 (h:H g=some (.ins C dx fs)) (r:SqT K H a xs):SqT K (wo g H) a xs:=by
 rcases r with r | r
 ·exact .inl (IZ h r λ_ _ _ e=>by cases e)
 ·exact .inr r
theorem uU {v:Uj}{d:UF} (h:H g=some (.ins C dx fs)) (r:aD K H v d):aD K (wo g H) v d:=r.keep (λ_ _ q=>KH h q) λ_ _ q=>t8 h q
theorem JN {P:Za}{m:Za} (h:gO P pos qual H) (i:H g=some (.ins C dx fs)):gO P pos qual (upd H g (.ins m f fs')):=by
 obtain⟨j,d,k,l⟩:=h;have a:P≠g:=nn d i
 refine⟨j,by rw[ap a];exact d,k,l.imp id λ⟨c,x,y⟩=>⟨c,x,?_⟩⟩;have b:c≠g:=nn y i
 rw[ap b];exact y
theorem eY {P:Za}{p:Hp->Prop} (d:gO P pos qual H) (e:H g=some (.ins C dx fs)) (k:∀H',H' g=some (.ins b a fs')->(∀c,c≠g->H' c=H c)->gO P pos qual H'->p H'):p (upd H g (.ins b a fs')):=k _ ab (λc h=>ap h) (JN d e)
theorem dW (o:HO) (h:H a=none):∃H',upd H a o=H'/\af H H'/\H' a=some o:=⟨_,rfl,af.new h,ab⟩
theorem xZ {e:Za} (B:Za) (h:H a=none) (h':H e=none) (n:e≠a):∃H',upd (upd H e (.own a)) a (.ins B e [])=H'/\af H H'/\H' a=some (.ins B e []):=⟨_,rfl,(af.new h').trans (af.new (by rw[ap n.symm];exact h)),ab⟩
theorem Bp {f:List (Int×Str)}{x:V} (h:aD K H xs (f.map zw)) (hx:xs[i]? = some x):∃r t,f[i]? = some r/\x = .ref t/\SqT K H t [.int r.1,.str r.2]/\Y1 r.2=true:=by
 obtain⟨d,c,k⟩:=h.get hx;rw[UI]at c;cases e:f[i]? with
 | none=>rw[e]at c;cases c
 | some r=>
  rw[e]at c;cases c;cases k with
  | tup j c=>
   cases c with
   | cons a t=>
    cases t with
    | cons b t=>
     cases t;cases a;cases b with
     | str g=>exact⟨r,_,rfl,rfl,j,g⟩
theorem DO {b:List (Option Ui)}{x:V} (h:aD K H xs (b.map oP)) (hx:xs[i]? = some x):∃o,b[i]? = some o/\Den K H x (oP o):=by
 obtain⟨d,a,c⟩:=h.get hx;rw[UI]at a;cases e:b[i]? with
 | none=>rw[e]at a;cases a
 | some o=>rw[e]at a;cases a;exact⟨o,rfl,c⟩
theorem BS {x:V}{o:Option Ui} (h:Den K H x (oP o)):decide (x = .non)=o.isNone:=by
 cases o with
 | none=>cases h;rfl
 | some ps=>cases h;exact Zl (by intro e;cases e)
theorem zA {bs:Uh}{r:V} (h:Mb K H H' (bs.filter (bT z)) r):∃o,Ez bs z o/\Den K (lim H H') r (oP o):=by
 rcases h with⟨e,rfl⟩ | ⟨t,_,a,rfl,_,_,c,b⟩
 ·exact⟨none,.inl ⟨e,rfl⟩,.non⟩
 ·exact⟨some a,.inr ⟨a,rfl,c⟩,b⟩
end
theorem pY {T:Hp}{x P:Za}{v:Uj} (d:aD K (lim Ha Hb) v ds) (hx:∃C dx fs,lim Ha Hb x=some (.ins C dx fs)) (a:∃ps,lim Ha Hb P=some (.tbl ps))
  (h:∀b o,b≠x->b≠P->(∀zs,Ha b≠some (.lst zs))->Hb b=some o->T b=some o):aD K T v ds:=by
 obtain⟨C,dx,fs,hx⟩:=hx;obtain⟨ps,a⟩:=a;have c:P≠x:=nn a hx
 have d2:=fO (P:=P) (ps:=ps) (Zp c a) (uU hx d);refine d2.same λb o e=>?_;obtain⟨g,e⟩:=aJ e;obtain⟨i,e⟩:=aJ e;have f:=jq e;rw[bO f]at e;exact h b o i g f e
theorem Em {T:Hp}{x P:Za}{ds:Zf} (d:Den K (lim Ha Hb) v ds) (hx:∃C dx fs,lim Ha Hb x=some (.ins C dx fs)) (c:∃ps,lim Ha Hb P=some (.tbl ps))
  (h:∀b o,b≠x->b≠P->(∀zs,Ha b≠some (.lst zs))->Hb b=some o->T b=some o):Den K T v ds:=by
 cases pY (.cons d .nil) hx c h with
 | cons a _=>exact a
theorem IG {F:Za} (s:af H H2) (hF:H2 F=some (.lst ys)):af (lim H2 H3) (wo F (lim H H3)):=λb o e=>by
 have a:=jq e;rw[bO a]at e;rw[ak λz=>a ys (by rw[z];exact hF),bO λc z=>a c (s _ _ z)];exact e
theorem t9 {F:Za}:wo F (lim H (upd H3 F o))=wo F (lim H H3):=by
 funext b
 by_cases e:b=F
 ·rw[e,bp,bp]
 ·rw[ak e,ak e];unfold lim
  split
  ·rfl
  ·exact ap e
theorem Ez.none {bs:Uh}{o:Option Ui} (h:Ez bs z o):o.isNone=(bs.filter (bT z)).isEmpty:=by
 rcases h with⟨e,rfl⟩ | ⟨p,rfl,b⟩
 ·rw[e];rfl
 ·cases hf:bs.filter (bT z)with
  | nil=>rw[hf]at b;cases b.1
  | cons a r=>rfl
theorem eh.unique {s:Int}{ps qs:Uh} (h:eh s l zs ps) (h':eh s l zs qs):ps=qs:=by
 obtain⟨_,a,b,c⟩:=h.ex;obtain⟨_,e,f,d⟩:=h'.ex;rw[oY (e.trans a.symm) f b]at d;exact rR (c.trans d.symm) h.ord h'.ord
theorem eh.Qz {s:Int}{d:Uq}{ps:Uh} (h:eh s l zs ps) (i:∀z,z∈zs↔z∈d):eh s l d ps:=by
 obtain⟨_,a,b,c⟩:=h.ex;obtain⟨e,f,g⟩:=o8 (fA [] d);rw[<-JE f a g b λz=>(i z).symm]at c;exact⟨⟨e,f,g,c⟩,h.ord,h.ok,h.lt⟩
theorem eh.news {s:Int}{ps:Uh} (h:eh s l zs ps):xH s l zs z = !(ps.any (bT z)):=by
 obtain⟨ms,a,b,c⟩:=h.ex;exact IS a b c
def core (H:Hp):Hp:=λc=>match H c with | some (.ins _ _ _)=>none | some (.tbl _)=>none | o=>o
theorem HE (h:core H c=some o):H c=some o/\(∀C dx fs,o ≠ .ins C dx fs)/\∀ps,o ≠ .tbl ps:=by
 unfold core at h
 split at h
 ·cases h
 ·cases h
 ·rename_i h1 h2;refine⟨h,λC dx fs e=>?_,λps e=>?_⟩
  ·subst e;exact h1 _ _ _ h
  ·subst e;exact h2 _ h
theorem D6 (h:H c=some o) (h1:∀C dx fs,o ≠ .ins C dx fs) (h2:∀ps,o ≠ .tbl ps):core H c=some o:=by
 unfold core
 split
 ·rename_i e;rw[h]at e;cases e;exact(h1 _ _ _ rfl).elim
 ·rename_i e;rw[h]at e;cases e;exact(h2 _ rfl).elim
 ·exact h
theorem Ek (r:Rd H a o) (h1:∀C dx fs,o ≠ .ins C dx fs) (h2:∀ps,o ≠ .tbl ps):Rd (core H) a o:=by
 rcases r with r | ⟨b,r⟩
 ·exact .inl (D6 r h1 h2)
 ·exact .inr ⟨b,D6 r (λ_ _ _ e=>by cases e) λ_ e=>by cases e⟩
theorem FV {v:Uj}{d:UF} (r:aD K H v d):aD K (core H) v d:=by
 refine r.keep (λa b q=>?_) λa b q=>?_
 ·rcases q with q | q
  ·exact .inl (Ek q (λ_ _ _ e=>by cases e) λ_ e=>by cases e)
  ·exact .inr q
 ·rcases q with q | q
  ·exact .inl (Ek q (λ_ _ _ e=>by cases e) λ_ e=>by cases e)
  ·exact .inr q
structure StV where
 rs:List (Int×Str)
 bs:Uh
 fs:Uh
 os:List (Option Ui)
def StV.zZ (v:StV):Uq:=v.rs.map (·.2)
structure StV.Ok (v:StV) (s l:Int):Prop where
 gth:eh s l (e9 v.bs v.zZ) v.fs
 fls:yE v.bs v.fs v.zZ v.os
 lns:∀q∈v.rs,∃ws,gZ 12 q.2 ws
 hnd:nY v.bs
 rl:v.rs.length<64
 bl:v.bs.length<64
structure fc where
 s:Int
 l:Int
 cur:StV
 ah:StV
 past:List (List (Int×Str)×Uh)
 tbk:List (List (Int×Str)×Uh)
def C7 (K:Xz) (C:Za) (B:Hp) (st:Za) (v:StV):Prop:=∃(dx r b f fl:Za) (rv bv fv lv:Uj),B st=some (.ins C dx [("rows",.ref r),("by_hand",.ref b),("found",.ref f),("falls",.ref fl)]) /\
 B r=some (.lst rv)/\aD K B rv (v.rs.map zw)/\B b=some (.lst bv)/\aD K B bv (v.bs.map be)/\B f=some (.lst fv)/\aD K B fv (v.fs.map be)/\B fl=some (.lst lv)/\aD K B lv (v.os.map oP)
theorem C7.same {st:Za}{v:StV} (h:C7 K C B st v) (s:af B B'):C7 K C B' st v:=by
 obtain⟨m,r,b,f,q,a,t,p,g,d,n,o,j,l,c,i,e,k⟩:=h;exact⟨m,r,b,f,q,a,t,p,g,s _ _ d,s _ _ n,o.same s,s _ _ j,l.same s,s _ _ c,i.same s,s _ _ e,k.same s⟩
def HeldAt (K:Xz) (B:Hp) (x:V) (h:List (Int×Str)×Uh):Prop:=∃(t r b:Za) (rv bv:Uj),x = .ref t/\SqT K B t [.ref r,.ref b]/\B r=some (.lst rv)/\aD K B rv (h.1.map zw)/\B b=some (.lst bv)/\aD K B bv (h.2.map be)
theorem HeldAt.same {x:V}{h:List (Int×Str)×Uh} (a:HeldAt K B x h) (s:af B B'):HeldAt K B' x h:=by
 obtain⟨t,r,b,c,k,e,d,i,j,f,g⟩:=a;exact⟨t,r,b,c,k,e,s.eA d,s _ _ i,j.same s,s _ _ f,g.same s⟩
def cW (K:Xz) (B:Hp) (xs:Uj) (l:List (List (Int×Str)×Uh)):Prop:=xs.length=l.length/\∀(i:Nat) x h,xs[i]? = some x->l[i]? = some h->HeldAt K B x h
section
variable {x:V}{l:List (List (Int×Str)×Uh)}{h:List (Int×Str)×Uh}
theorem cW.same (a:cW K B xs l) (s:af B B'):cW K B' xs l:=⟨a.1,λi x h h1 h2=>(a.2 i x h h1 h2).same s⟩
theorem cW.nil:cW K B [] []:=⟨rfl,λi x h e=>by cases e⟩
theorem cW.snoc (a:cW K B xs l) (b:HeldAt K B x h):cW K B (xs++[x]) (l++[h]):=by
 refine⟨by rw[UH,UH,a.1];rfl,λi y k c d=>?_⟩;by_cases f:i<xs.length
 ·rw[U6 f]at c;rw[U6 (a.1 ▸ f)]at d;exact a.2 i y k c d
 ·have e:i=xs.length:=by
   have:=aH c;rw[UH,UQ]at this;lia
  rw[e,Vb (UD _),Wi]at c;rw[e,a.1,Vb (UD _),Wi]at d;cases c;cases d;exact b
theorem cW.pop (a:cW K B xs (l++[h])):∃ys y,xs=ys++[y]/\cW K B ys l/\HeldAt K B y h:=by
 have e:=a.1;rw[UH,UQ]at e;have b:xs≠[]:=λz=>by rw[z]at e;simp at e
 have c:=(WI b).symm;generalize xs.dropLast=ys at c;generalize xs.getLast b=y at c;subst c;rw[UH,UQ]at e;have f:ys.length=l.length:=by lia
 refine⟨ys,y,rfl,⟨f,λi x k d g=>?_⟩,?_⟩
 ·exact a.2 i x k (by rw[U6 (aH d)];exact d) (by rw[U6 (aH g)];exact g)
 ·exact a.2 ys.length y h (by simp) (by rw[f];simp)
end
def bA (K:Xz) (CL CS:Za) (B H:Hp) (g pa tb:Za) (v:fc):Prop:=∃(dx t st ah:Za) (pv tv:Uj),H g=some (.ins CL dx [("sieve",.ref t),("state",.ref st),("ahead",.ref ah),("past",.ref pa),("taken_back",.ref tb)]) /\
 H pa=some (.lst pv)/\H tb=some (.lst tv)/\af B H/\B g=none/\B pa=none/\B tb=none/\pa≠tb/\SqT K B t [.int v.s,.int v.l]/\C7 K CS B st v.cur/\C7 K CS B ah v.ah/\cW K B pv v.past/\cW K B tv v.tbk/\v.cur.Ok v.s v.l/\v.ah.Ok v.s v.l
section
variable {g tb:Za}{v:fc}
theorem bA.grow (h:bA K CL CS B H g pa tb v) (s:af B B') (s':af B' H') (x:B' g=none) (n:B' pa=none) (l:B' tb=none) (u:H' g=H g) (ep:H' pa=H pa) (m:H' tb=H tb):bA K CL CS B' H' g pa tb v:=by
 obtain⟨j,t,w,i,pv,q,r,k,p,_,_,_,_,f,o,e,a,b,d,c⟩:=h;exact⟨j,t,w,i,pv,q,u.trans r,ep.trans k,m.trans p,s',x,n,l,f,s.eA o,e.same s,a.same s,b.same s,d.same s,c⟩
theorem bA.to (h:bA K CL CS B H g pa tb v) (s':af B H') (f:H' g=H g) (ep:H' pa=H pa) (e:H' tb=H tb):bA K CL CS B H' g pa tb v:=by
 have c:=h;obtain⟨_,t,_,_,pv,_,_,_,_,_,d,a,b,_⟩:=c;exact h.grow (af.refl B) s' d a b f ep e
theorem bA.same (h:bA K CL CS B H g pa tb v) (s:af H H'):bA K CL CS B H' g pa tb v:=by
 have d:=h;obtain⟨_,t,_,_,pv,_,a,b,c,e,_⟩:=d;exact h.to (e.trans s) ((s _ _ a).trans a.symm) ((s _ _ b).trans b.symm) ((s _ _ c).trans c.symm)
theorem bA.wo (h:bA K CL CS B H g pa tb v) (j:B d=none) (e:d≠g) (n2:d≠pa) (k:d≠tb) (s:af (wo d H) H'):bA K CL CS B H' g pa tb v:=by
 have f:=h;obtain⟨_,t,_,_,pv,_,a,b,c,i,_⟩:=f;exact h.to ((bB j i).trans s) ((s _ _ (Zp e.symm a)).trans a.symm) ((s _ _ (Zp n2.symm b)).trans b.symm) ((s _ _ (Zp k.symm c)).trans c.symm)
end
def nxt (B H H':Hp) (g pa tb:Za):Hp:=λc=>if c=g\/c=pa\/c=tb then none else match H c with | some (.lst _)=>B c | some (.ins _ _ _)=>B c | some (.tbl _)=>B c | _=>H' c
section
variable {g tb:Za}
theorem KZ (a:c≠g) (n2:c≠pa) (b:c≠tb) (h:(∃ys,H c=some (.lst ys))\/(∃C dx fs,H c=some (.ins C dx fs))\/∃ps,H c=some (.tbl ps)):nxt B H H' g pa tb c=B c:=by
 unfold nxt;rw[Zo (λe=>e.elim a λe=>e.elim n2 b)];rcases h with⟨_,e⟩ | ⟨_,_,_,e⟩ | ⟨_,e⟩ <;> rw[e]
theorem fJ (a:c≠g) (n2:c≠pa) (d:c≠tb) (h1:∀ys,H c≠some (.lst ys)) (h2:∀C dx fs,H c≠some (.ins C dx fs)) (b:∀ps,H c≠some (.tbl ps)):nxt B H H' g pa tb c=H' c:=by
 unfold nxt;rw[Zo (λe=>e.elim a λe=>e.elim n2 d)]
 split
 ·rename_i e;exact(h1 _ e).elim
 ·rename_i e;exact(h2 _ _ _ e).elim
 ·rename_i e;exact(b _ e).elim
 ·rfl
theorem pW:nxt B H H' g pa tb g=none/\nxt B H H' g pa tb pa=none/\nxt B H H' g pa tb tb=none:=by
 unfold nxt;exact⟨Zn (.inl rfl),Zn (.inr (.inl rfl)),Zn (.inr (.inr rfl))⟩
theorem vU (j:af B H) (h:B g=none) (b:B pa=none) (f:B tb=none) (s:∀c o,B c=some o->H' c=some o):af B (nxt B H H' g pa tb):=λc o e=>by
 have a:c≠g:=nn e h
 have d:c≠pa:=nn e b
 have i:c≠tb:=nn e f
 unfold nxt;rw[Zo (λz=>z.elim a λz=>z.elim d i)]
 split
 ·exact e
 ·exact e
 ·exact e
 ·exact s c o e
theorem zc (s:∀c o,B c=some o->H' c=some o):af (nxt B H H' g pa tb) H':=λc o e=>by
 unfold nxt at e
 split at e
 ·cases e
 ·split at e
  ·exact s c o e
  ·exact s c o e
  ·exact s c o e
  ·exact e
end
def lZ (o:HO):Prop:=(∃ys,o = .lst ys)\/(∃C dx fs,o = .ins C dx fs)\/∃ps,o = .tbl ps
theorem qa {g tb:Za} (i:B c=none) (h:H c=some o) (m:lZ o):nxt B H H' g pa tb c=none:=by
 have a:=pW (B:=B) (H:=H) (H':=H') (g:=g) (pa:=pa) (tb:=tb);by_cases b:c=g
 ·rw[b];exact a.1
 by_cases d:c=pa
 ·rw[d];exact a.2.1
 by_cases f:c=tb
 ·rw[f];exact a.2.2
 rw[KZ b d f ?_]
 ·exact i
 ·rcases m with⟨_,e⟩ | ⟨_,_,_,e⟩ | ⟨_,e⟩
  ·exact .inl ⟨_,by rw[h,e]⟩
  ·exact .inr (.inl ⟨_,_,_,by rw[h,e]⟩)
  ·exact .inr (.inr ⟨_,by rw[h,e]⟩)
theorem qt {T:Hp}{v:Uj} (d:aD K (lim Ha Hb) v ds) (h:∀c o,(∀ys,Ha c≠some (.lst ys))->Hb c=some o -> ¬ lZ o\/(∃ys,o = .lst ys)->(∀C dx fs,o ≠ .ins C dx fs)->(∀ps,o ≠ .tbl ps)->T c=some o):aD K T v ds:=by
 refine(FV d).same λc o e=>?_;obtain⟨e,a,f⟩:=HE e;have b:=jq e;rw[bO b]at e;refine h c o b e ?_ a f;by_cases q:∃ys,o = .lst ys
 ·exact .inr q
 ·exact .inl λm=>m.elim q λm=>m.elim (λ⟨_,_,_,z⟩=>a _ _ _ z) λ⟨_,z⟩=>f _ z
theorem Kb {x:V}:atI (xs++[x]) (-1)=some x:=by
 unfold atI ixN;rw[Zo (by lia),Zn (by rw[UH];simp;lia)];show(xs++[x])[(-1+((xs++[x]).length:Int)).toNat]? = some x;rw[UH,show(-1+((xs.length + [x].length:Nat):Int)).toNat=xs.length by simp;lia];simp
theorem wR (a b c d:Int):Yc (.tuple [.int a,.int b]) (.tuple [.int c,.int d])=decide (a=c/\b=d):=by
 have h:∀x y:Int,(Sh.bC .int (.bC .int .lD)).has (.tuple [.int x,.int y]):=λx y=>⟨_,_,rfl,⟨_,rfl⟩,_,_,rfl,⟨_,rfl⟩,rfl⟩;have e:=(Sh.ok (.bC .int (.bC .int .lD))).eqv _ _ (h a b) (h c d);by_cases q:a=c/\b=d
 ·rw[Zk q];exact e.mpr (by rw[q.1,q.2])
 ·rw[Zl q];refine U3.mpr λz=>q ?_;have:=e.mp z;cases this;exact⟨rfl,rfl⟩
theorem Hj {ps:Uh}:(ps.filter (bT z)).isEmpty = !(ps.any (bT z)):=by
 induction ps with
 | nil=>rfl
 | cons a r b=>
  rw[VP,Vt];cases h:bT z a with
  | true=>rfl
  | false=>simpa using b
theorem bA.gg {g tb:Za}{v:fc} (h:bA K CL CS B H g pa tb v):∃dx t st ah,H g=some (.ins CL dx [("sieve",.ref t),("state",.ref st),("ahead",.ref ah),("past",.ref pa),("taken_back",.ref tb)]):=by
 obtain⟨dx,t,st,ah,_,_,a,_⟩:=h;exact⟨dx,t,st,ah,a⟩
theorem bA.okc {g tb:Za}{v:fc} (h:bA K CL CS B H g pa tb v):v.cur.Ok v.s v.l:=by
 obtain⟨_,_,_,_,_,_,_,_,_,_,_,_,_,_,_,_,_,_,_,okc,_⟩:=h;exact okc
def oz (K:Xz):Sp:=λvs H Q _=>∃(c:Int) (m:Nat),vs=[.int c,.int m]/\m<10000/\∀d H',H d=none->af H H'->Dk H' d m->Q (.ref d) H'
def G8:Pt->Bool
 | .word w=>dN w
 | .hole _=>true
def uQ (K:Xz):Sp:=λvs H Q _=>∃(v:V) (p:Pt),vs=[v]/\Den K H v p.dat/\p.ok/\Q (.bl (G8 p)) H
def oF (K:Xz):Sp:=λvs H Q _=>∃(v:V) (ps:Ui),vs=[v]/\Den K H v (be ps)/\(∀p∈ps,p.ok)/\1<=ps.length/\ps.length<=12/\(∀p∈ps,G8 p=true)/\∀H',af H H'->Q (.bl true) H'
theorem pM {ps:Ui} (h:∀q∈pss,∀p∈q,p.ok) (c:∀p∈ps,p.ok):((pss.map be).any λe=>Yc e (be ps))=decide (ps∈pss):=by
 rw[List.any_map]
 induction pss with
 | nil=>rfl
 | cons a r b=>
  rw[Vt,b λq d=>h q (UJ _ d)];show(Yc (be a) (be ps) || _)=_;rw[tS (h a (UM ..)) c,Va,Bool.or_eq_true,decide_eq_true_eq,decide_eq_true_eq,decide_eq_true_eq,UR];exact⟨λz=>z.imp Eq.symm id,λz=>z.imp Eq.symm id⟩
theorem PtW.okP {p:Pt} (h:PtW p):p.ok/\G8 p=true:=by
 cases p with
 | word w=>exact⟨⟨UK h.2.1 (by decide),h.2.2⟩,h.1⟩
 | hole k=>exact⟨h,rfl⟩
structure FA (h:List (Int×Str)×Uh):Prop where
 rl:h.1.length<64
 lns:∀q∈h.1,∃ws,gZ 12 q.2 ws
 bl:h.2.length<64
 hnd:nY h.2
theorem StV.Ok.held {v:StV}{s:Int} (h:v.Ok s l):FA (v.rs,v.bs):=⟨h.rl,h.lns,h.bl,h.hnd⟩
section
variable {P:Za}{H6:Hp}{g tb:Za}{v:fc}
theorem FT {fs:List (Str×V)}{pv tv:Uj}{l:Uj} (a:af H Ha) (s:af Ha Hb) (r:H g=some (.ins C dx fs)) (h:H pa=some (.lst pv)) (f:H tb=some (.lst tv)) (d:aD K (lim Ha Hb) l ds):aD K (nxt B H Hb g pa tb) l ds:=
 qt d λc o i b _ j m=>by
  have k:c≠g:=λe=>by rw[e,s _ _ (a _ _ r)]at b;cases b;exact j _ _ _ rfl
  have n:c≠pa:=λe=>i _ (by rw[e];exact a _ _ h);have p:c≠tb:=λe=>i _ (by rw[e];exact a _ _ f);rw[fJ k n p (λq e=>i q (a _ _ e)) (λC _ fs e=>?_) (λ_ e=>?_)]
  ·exact b
  ·have:=s _ _ (a _ _ e);rw[b]at this;cases this;exact j _ _ _ rfl
  ·have:=s _ _ (a _ _ e);rw[b]at this;cases this;exact m _ rfl
theorem vn {t st x r fl:Za}{fs:List (Str×V)}{pv tv rv bv fv G F:Uj}{ab:Uy}{O:List (Int×Str)}{bs p:Uh}{I:List (Option Ui)}{past tbk:List (List (Int×Str)×Uh)}
  (X:H g=some (.ins CL dx fs)) (m:H pa=some (.lst pv)) (k:H tb=some (.lst tv)) (sB:af B H) (S:B g=none) (lO:B pa=none) (m9:B tb=none) (a0:pa≠tb) (a8:SqT K B t [.int v.s,.int v.l]) (a6:C7 K CS B st v.cur) (aj:v.cur.Ok v.s v.l) (ai:B P=none) (U:H P=some (.tbl ab))
  (Z:∀c o,c≠pa->c≠tb->H c=some o->H5 c=some o) (J:H5 pa=some (.lst G)) (M:H5 tb=some (.lst F))
  (hx:H5 x=none) (hf:H5 f=none) (ag:H5 fl=none) (Y:af (wo g (wo P H5)) H6) (Tg:∃q,H6 P=some (.tbl q)) (Q:H6 g=some (.ins CL dx [("sieve",.ref t),("state",.ref x),("ahead",.ref st),("past",.ref pa),("taken_back",.ref tb)]))
  (a9:H6 x=some (.ins CS T [("rows",.ref r),("by_hand",.ref b),("found",.ref f),("falls",.ref fl)])) (ah:H6 f=some (.lst fv)) (df:aD K (lim H5 H6) fv (p.map be)) (CI:H6 fl=some (.lst lv)) (dl:aD K (lim H5 H6) lv (I.map oP))
  (ao:B r=some (.lst rv)) (a5:aD K B rv (O.map zw)) (a4:B b=some (.lst bv)) (a7:aD K B bv (bs.map be)) (u:FA (O,bs)) (oo:eh v.s v.l (e9 bs (O.map (·.2))) p) (iV:yE bs p (O.map (·.2)) I)
  (dp:∀B',af B B'->(∀c o,H c=none->H5 c=some o->B' c=some o)->cW K B' G past/\cW K B' F tbk) :
  af (wo g (wo pa (wo tb (wo P H)))) H6/\af B (nxt B H H6 g pa tb)/\bA K CL CS (nxt B H H6 g pa tb) H6 g pa tb ⟨v.s,v.l,⟨O,bs,p,I⟩,v.cur,past,tbk⟩:=by
 have N:pa≠g:=nn m X
 have R:tb≠g:=nn k X
 have aa:pa≠P:=λe=>by rw[<-e,m]at U;cases U
 have a3:tb≠P:=λe=>by rw[<-e,k]at U;cases U
 have w:∀c o,c≠g->c≠pa->c≠tb->c≠P->H c=some o->H6 c=some o:=λc o a i E D e=>Y _ _ (Zq a D (Z c o i E e));have j:∀{c:Za}{o:HO},B c=some o->c≠g/\c≠pa/\c≠tb/\c≠P:=λ{c o} e=>⟨(nn e S),(nn e lO),(nn e m9),nn e ai⟩;have GW:∀c o,B c=some o->H6 c=some o:=λc o e=>w c o (j e).1 (j e).2.1 (j e).2.2.1 (j e).2.2.2 (sB _ _ e);have h:=vU (H':=H6) sB S lO m9 GW;have ja:=pW (B:=B) (H:=H) (H':=H6) (g:=g) (pa:=pa) (tb:=tb);have ae:H5 g=_:=Z _ _ N.symm R.symm X;have h0:∀{c:Za},H5 c=none->H c=none/\c≠g/\c≠pa/\c≠tb:=λ{c} e=>by
  have A:c≠g:=nn e ae
  have y:c≠pa:=nn e J
  have n:c≠tb:=nn e M
  refine⟨?_,A,y,n⟩;cases e2:H c with
  | none=>rfl
  | some o=>rw[Z c o y n e2]at e;cases e
 have L:∀{c:Za},H5 c=none->nxt B H H6 g pa tb c=H6 c:=λ{c} e=>by
  obtain⟨a,i,E,D⟩:=h0 e;exact fJ i E D (λ_ z=>by rw[a]at z;cases z) (λ_ _ _ z=>by rw[a]at z;cases z) λ_ z=>by rw[a]at z;cases z
 have go:∀{v:Uj}{ds:UF},aD K (lim H5 H6) v ds->aD K (nxt B H H6 g pa tb) v ds:=λ{v ds} d=>qt d λc o a i _ E D=>by
  have A:c≠g:=λe=>by rw[e,Q]at i;cases i;exact E _ _ _ rfl
  have y:c≠pa:=λe=>a _ (by rw[e];exact J);have n:c≠tb:=λe=>a _ (by rw[e];exact M);have W:c≠P:=λe=>by
   obtain⟨q,hq⟩:=Tg;rw[e,hq]at i;cases i;exact D _ rfl
  rw[fJ A y n (λys e=>a ys (Z _ _ y n e)) (λC _ fs e=>?_) (λ_ e=>?_)]
  ·exact i
  ·have:=w _ _ A y n W e;rw[i]at this;cases this;exact E _ _ _ rfl
  ·have:=w _ _ A y n W e;rw[i]at this;cases this;exact D _ rfl
 have hd:=dp (nxt B H H6 g pa tb) h λc o a i=>by
  have A:c≠g:=nn a X
  have y:c≠pa:=nn a m
  have n:c≠tb:=nn a k
  have W:c≠P:=nn a U
  rw[fJ A y n (λ_ z=>by rw[a]at z;cases z) (λ_ _ _ z=>by rw[a]at z;cases z) λ_ z=>by rw[a]at z;cases z];exact Y _ _ (Zq A W i)
 refine⟨λc o e=>?_,h,dx,t,x,st,G,F,Q,Y _ _ (Zq N aa J),Y _ _ (Zq R a3 M),zc GW,ja.1,ja.2.1,ja.2.2,a0,h.eA a8,
  ⟨T,r,b,f,fl,rv,bv,fv,lv,by rw[L hx];exact a9,h _ _ ao,a5.same h,h _ _ a4,a7.same h,by rw[L hf];exact ah,go df,by rw[L ag];exact CI,go dl⟩,
  a6.same h,hd.1,hd.2,⟨oo,iV,u.lns,u.hnd,u.rl,u.bl⟩,aj⟩
 obtain⟨a,e⟩:=aJ e;obtain⟨i,e⟩:=aJ e;obtain⟨E,e⟩:=aJ e;obtain⟨D,e⟩:=aJ e;exact w c o a i E D e
end
theorem EW {s:Int}{a:Ul} (h:iY a):(gth s l a).Nodup:=by
 refine(Lw h).imp_of_mem λ{p q} d _ f e=>?_;subst e;refine Cf (ps:=p) (qs:=p) (FY rfl λi x y b c=>?_) f;rw[b]at c;cases c;exact Bt (((Il h) p d).1 x (UC b))
theorem eh.nodup {s:Int}{ps:Uh} (h:eh s l zs ps) (d:zs.length<64) (hz:∀z∈zs,∃ws,gZ 12 z ws):ps.Nodup:=by
 obtain⟨_,a,b,c⟩:=h.ex;exact c.nodup_iff.mpr (EW (y0 a d hz))
theorem eh.fit {s:Int}{ps:Uh} (h:eh s l zs ps) (i:zs.length<64) (hz:∀z∈zs,∃ws,gZ 12 z ws) {p:Ui} (n:p∈ps):∃z∈zs,bT z p=true:=by
 obtain⟨r,a,b,c⟩:=h.ex;have k:=y0 a i hz;have d:=c.mem_iff.mp n;rw[Cu k]at d;obtain⟨g,j,rfl⟩:=UE.mp d;obtain⟨ws,m⟩:=VB _ (pf k j).1.ne;have e:ws∈r.map λz=>Y4 z " " :=yu.mp ⟨g,j,m⟩;have o:=(uw k j e).mpr m;obtain⟨z,f,rfl⟩:=UE.mp e;refine⟨z,?_,o⟩;rcases iz.mp (a.mem_iff.mp f)with q | q
 ·cases q
 ·exact q
section
variable {v:StV}{s:Int}
theorem StV.Ok.off (h:v.Ok s l):(e9 v.bs v.zZ).length<64/\∀z∈e9 v.bs v.zZ,∃ws,gZ 12 z ws:=by
 constructor
 ·have c:(e9 v.bs v.zZ).length<=v.zZ.length:=U9 _ _;have d:v.zZ.length=v.rs.length:=by unfold StV.zZ;rw[UA]
  have:=h.rl;lia
 ·intro z a;have a:=(U0.mp a).1;unfold StV.zZ at a;obtain⟨q,b,rfl⟩:=UE.mp a;exact h.lns q b
theorem StV.Ok.len (h:v.Ok s l):v.os.length=v.rs.length:=by
 rw[h.fls.1];unfold StV.zZ;rw[UA]
theorem StV.Ok.QD (h:v.Ok s l) {r:Int×Str}{o:Option Ui} (n:v.rs[i]? = some r) (k:v.os[i]? = some o):∃p,o=some p/\p∈v.bs++v.fs/\bT r.2 p=true:=by
 have c:v.zZ[i]? = some r.2:=by unfold StV.zZ;rw[UI,n];rfl
 rcases h.fls.2 i _ _ c k with⟨p,e,a⟩ | ⟨g,j⟩
 ·have:=U0.mp a.1;exact⟨p,e,UY.mpr (.inl this.1),this.2⟩
 ·rcases j with⟨f,_⟩ | ⟨p,e,a⟩
  ·have m:r.2∈e9 v.bs v.zZ:=U0.mpr ⟨UC c,by rw[g];rfl⟩;have b:=G5 (s:=s) (l:=l) h.off.1 h.off.2 m;rw[h.gth.news]at b;have d:=Hj (ps:=v.fs) (z:=r.2);rw[f,b]at d;cases d
  ·have:=U0.mp a.1;exact⟨p,e,UY.mpr (.inr this.1),this.2⟩
theorem StV.Ok.nodup (h:v.Ok s l) (f:v.bs.Nodup):(v.bs++v.fs).Nodup:=by
 rw[VE];refine⟨f,h.gth.nodup h.off.1 h.off.2,λp c q g e=>?_⟩;subst e;obtain⟨z,d,i⟩:=h.gth.fit h.off.1 h.off.2 g;have a:=(U0.mp d).2;have b:=U0.mpr ⟨c,i⟩;rw[WB]at a;rw[a]at b;cases b
end
def tD (lo hi:Int) (x:(Int×Str)×Option Ui):Bool:=decide (lo<=x.1.1/\x.1.1<hi)
def StV.rf (v:StV):List ((Int×Str)×Option Ui):=v.rs.zip v.os
def cnt (v:StV) (lo hi:Int) (p:Ui):Nat:=(v.rf.filter (tD lo hi)).countP λx=>decide (x.2=some p)
theorem xQ {ps:Uh} (d:ps.Nodup):∀{l:List ((Int×Str)×Option Ui)},(∀x∈l,∃p∈ps,x.2=some p)->(ps.map λp=>l.countP λx=>decide (x.2=some p)).sum=l.length
 | [],_=>by
  have:∀ps:Uh,(ps.map λp=>([]:List ((Int×Str)×Option Ui)).countP λx=>decide (x.2=some p)).sum=0:=λps=>by
   induction ps with
   | nil=>rfl
   | cons a r f=>rw[UW,Vo,f];rfl
  exact this ps
 | a::l,h=>by
  have f:=xQ d (l:=l) λx j=>h x (UJ _ j);obtain⟨q,n,e⟩:=h a (UM ..);have g:∀ps:Uh,ps.Nodup->(ps.map λp=>(a::l).countP λx=>decide (x.2=some p)).sum=(ps.map λp=>l.countP λx=>decide (x.2=some p)).sum+if q∈ps then 1 else 0:=λps d=>by
   induction ps with
   | nil=>rfl
   | cons b r i=>
    obtain⟨k,m⟩:=VG.mp d;rw[UW,Vo,UW,Vo,i m,VL,e];by_cases c:q=b
    ·subst c;simp[k];lia
    ·have:(some q=some b)↔False:=⟨λz=>c (Ye z),False.elim⟩;simp[c];lia
  rw[g ps d,Zn n,f,U1]
theorem Lg {v:StV}{s:Int} (h:v.Ok s l) (c:v.bs.Nodup):((v.bs++v.fs).map λp=>cnt v lo hi p).sum=(v.rf.filter (tD lo hi)).length:=by
 refine xQ (h.nodup c) λx a=>?_;have a:=(U0.mp a).1;obtain⟨i,hi⟩:=VJ a;unfold StV.rf at hi;rw[Vf]at hi;obtain⟨p,e,b,_⟩:=h.QD hi.1 hi.2;exact⟨p,b,e⟩
def hoK (l:List (Str×Nat)):List (Key×V):=l.map λx=>((Sum.inr x.1:Key),V.int (x.2:Nat))
def p9 (l:List (Str×Nat)) (w:Str):Nat:=((l.find? λx=>decide (x.1=w)).map (·.2)).getD 0
def oC (l:List (Str×Nat)) (w:Str):List (Str×Nat):=if (l.any λx=>decide (x.1=w))=true then l.map (λx=>if x.1=w then(x.1,x.2+1)else x)else l++[(w,1)]
theorem JA (l:List (Str×Nat)) (w:Str):fB (hoK l) (Sum.inr w)=(l.find? λx=>decide (x.1=w)).map λx=>V.int (x.2:Nat):=by
 induction l with
 | nil=>rfl
 | cons a l b=>
  unfold hoK;rw[UW,Vw];by_cases h:a.1=w
  ·rw[j3 (by rw[h]),Zk h];rfl
  ·rw[show fB _ _=_ from pN (λz=>h (Sum.inr.inj z)),Zl h];exact b
theorem Nh (l:List (Str×Nat)) (w:Str):((hoK l).any λkv=>decide (kv.1=(Sum.inr w:Key)))=l.any λx=>decide (x.1=w):=by
 unfold hoK;rw[List.any_map]
 congr 1
 funext x
 show decide ((Sum.inr x.1:Key)=Sum.inr w)=decide (x.1=w);by_cases h:x.1=w
 ·rw[h,Zk rfl,Zk rfl]
 ·rw[Zl h,Zl λz=>h (Sum.inr.inj z)]
theorem Kd {l:List (Str×Nat)}{w:Str} (b:(l.map (·.1)).Nodup) {x:Str×Nat} (hx:x∈l) (e:x.1=w):p9 l w=x.2:=by
 induction l with
 | nil=>cases hx
 | cons a l c=>
  rw[UW,VG]at b;unfold p9;rw[Vw];rcases UR.mp hx with h | h
  ·subst h;rw[Zk e];rfl
  ·rw[Zl λz=>b.1 (by rw[z,<-e];exact UE.mpr ⟨x,h,rfl⟩)];exact c b.2 h
theorem Ny {l:List (Str×Nat)}{w:Str} (b:(l.map (·.1)).Nodup):putK (hoK l) (Sum.inr w) (.int ((p9 l w:Nat)+1:Int))=hoK (oC l w):=by
 unfold putK oC;rw[Nh];cases h:l.any λx=>decide (x.1=w)with
 | true=>
  simp only[if_true];unfold hoK;rw[Vc,Vc];refine U5 λx a=>?_;show(if (Sum.inr x.1:Key)=Sum.inr w then _ else _)=_;by_cases e:x.1=w
  ·rw[Zn (by rw[e])];simp only[Function.comp,e,if_true];rw[Kd b a e];rfl
  ·rw[Zo λz=>e (Sum.inr.inj z)];simp only[Function.comp,e,if_false]
 | false=>
  simp only[Ve,if_false];unfold hoK;rw[UL];have:p9 l w=0:=by
   unfold p9;rw[List.find?_eq_none.mpr λx a=>?_]
   ·rfl
   ·have:=Wy.mp h x a;simpa using this
  rw[this];rfl
theorem JP {l:List (Str×Nat)}{w:Str} (f:(l.map (·.1)).Nodup):((oC l w).map (·.1)).Nodup/\(∀y,y∈(oC l w).map (·.1)↔y∈l.map (·.1)\/y=w)/\((oC l w).map (·.2)).sum=(l.map (·.2)).sum+1:=by
 unfold oC;cases h:l.any λx=>decide (x.1=w)with
 | true=>
  simp only[if_true];have k:(l.map λx=>if x.1=w then(x.1,x.2+1)else x).map (·.1)=l.map (·.1):=by
   rw[Vc];refine U5 λx _=>?_;by_cases e:x.1=w <;> simp[e]
  obtain⟨x,d,c⟩:=Vz.mp h;have c:=Zm c;refine⟨by rw[k];exact f,λy=>?_,?_⟩
  ·rw[k];exact⟨.inl,λz=>z.elim id λe=>by rw[e,<-c];exact UE.mpr ⟨x,d,rfl⟩⟩
  ·clear k h
   induction l with
   | nil=>cases d
   | cons a l o=>
    rw[UW,VG]at f;rw[UW,UW,Vo,UW,Vo];by_cases e:a.1=w
    ·have q:(l.map λx=>if x.1=w then(x.1,x.2+1)else x)=l:=by
      refine(U5 λy n=>?_).trans (List.map_id l);rw[Zo λz=>f.1 (by rw[e,<-z];exact UE.mpr ⟨y,n,rfl⟩)];rfl
     rw[q,Zn e];lia
    ·have j:x∈l:=by
      rcases UR.mp d with h | h
      ·exact absurd (h ▸ c) e
      ·exact h
     rw[o f.2 j,Zo e];lia
 | false=>
  simp only[Ve,if_false];have i:w∉l.map (·.1):=λz=>by
   obtain⟨x,d,e⟩:=UE.mp z;have:=Wy.mp h x d;simp[e]at this
  refine⟨?_,λy=>?_,?_⟩
  ·rw[UL,VE];exact⟨f,by simp,λa p b m e=>i (by rw[List.map_singleton,UG]at m;have g:b=w:=m;rw[<-g,<-e];exact p)⟩
  ·rw[UL,UY,List.map_singleton,UG]
  ·rw[UL,List.sum_append];simp
theorem gv {P:Za} (h:gO P pos qual H) (g:H d=some (.lst ys)) (s:af (wo d H) H'):gO P pos qual H':=by
 obtain⟨i,f,j,k⟩:=h;have a:P≠d:=nn f g
 refine⟨i,s _ _ (Zp a f),j,k.imp id λ⟨c,x,y⟩=>⟨c,x,?_⟩⟩;have b:c≠d:=nn y g
 exact s _ _ (Zp b y)
structure MdI (K:Xz) (pos:Pos) (qual:Str) (CL CS P:Za) (H0:Hp) (d g pa LF:Za) (n:Nat) (lv:Uj) (Bi:Hp) (tb:Za) (v:fc) (H:Hp):Prop where
 sB:af (wo d (wo P H0)) H
 la:gO P pos qual H
 dk:Dk H d n
 lg:bA K CL CS Bi H g pa tb v
 mu:∀c o,H0 c=some o->lZ o->Bi c=none
 bl:Bi LF=none
 nt:LF≠tb
 t0:H0 tb=none
 lf:H LF=some (.lst lv)
 d0:∃ys,H0 d=some (.lst ys)
 P0:∃q,H0 P=some (.tbl q)
 g0:H0 g=none
 p0:H0 pa=none
 l0:H0 LF=none
 ng:LF≠g
 np:LF≠pa
section
variable {P:Za}{Bi:Hp}{g LF tb:Za}{m:Nat}{lv':Uj}{v v':fc}
theorem MdI.dd (h:MdI K pos qual CL CS P H0 d g pa LF n lv Bi tb v H):d≠g/\d≠pa/\d≠tb/\d≠LF/\d≠P/\Bi d=none/\Bi P=none:=by
 obtain⟨_,a⟩:=h.d0;obtain⟨q,b⟩:=h.P0;exact⟨(nn a h.g0),(nn a h.p0),(nn a h.t0),(nn a h.l0),(nn a b),h.mu _ _ a (.inl ⟨_,rfl⟩),h.mu _ _ b (.inr (.inr ⟨_,rfl⟩))⟩
theorem MdI.nP (h:MdI K pos qual CL CS P H0 d g pa LF n lv Bi tb v H):g≠P/\pa≠P/\tb≠P/\LF≠P:=by
 obtain⟨q,a⟩:=h.P0;exact⟨(λe=>by rw[<-e,h.g0]at a;cases a),(λe=>by rw[<-e,h.p0]at a;cases a),(λe=>by rw[<-e,h.t0]at a;cases a),λe=>by rw[<-e,h.l0]at a;cases a⟩
theorem MdI.old (h:MdI K pos qual CL CS P H0 d g pa LF n lv Bi tb v H)  (e:H0 c=some o):∃o',H c=some o'/\(lZ o->lZ o'):=by
 by_cases a:c=d
 ·obtain⟨_,f⟩:=h.dk.lst;exact⟨_,by rw[a];exact f,λ_=>.inl ⟨_,rfl⟩⟩
 by_cases b:c=P
 ·obtain⟨q,i⟩:=aU h.la;exact⟨_,by rw[b];exact i,λ_=>.inr (.inr ⟨_,rfl⟩)⟩
 exact⟨o,h.sB _ _ (Zq a b e),id⟩
theorem MdI.free (h:MdI K pos qual CL CS P H0 d g pa LF n lv Bi tb v H)  (e:H c=none):H0 c=none:=by
 cases e2:H0 c with
 | none=>rfl
 | some o=>
  obtain⟨_,a,_⟩:=h.old e2;rw[e]at a;cases a
theorem MdI.same (h:MdI K pos qual CL CS P H0 d g pa LF n lv Bi tb v H) (s:af H H'):MdI K pos qual CL CS P H0 d g pa LF n lv Bi tb v H':=
 { h with sB:=h.sB.trans s,la:=aF h.la s,dk:=h.dk.same s,lg:=h.lg.same s,lf:=s _ _ h.lf }
theorem MdI.pick (h:MdI K pos qual CL CS P H0 d g pa LF n lv Bi tb v H) (s:af (wo d H) H') (dk:Dk H' d m):MdI K pos qual CL CS P H0 d g pa LF m lv Bi tb v H':=by
 obtain⟨b,i,j,f,_,a,_⟩:=h.dd;obtain⟨_,k⟩:=h.dk.lst;refine{ h with sB:=λc o e=>?_,la:=gv h.la k s,dk:=dk,lg:=h.lg.wo a b i j s,lf:=s _ _ (Zp f.symm h.lf) };have:=aJ e;exact s _ _ (Zp this.1 (h.sB _ _ e))
theorem MdI.um (h:MdI K pos qual CL CS P H0 d g pa LF n lv Bi tb v H) (s:af (wo g (wo pa (wo P H))) H') (la:gO P pos qual H') (f:H tb' = none) (j:∀c o,Bi c=none->H c=some o->lZ o->B' c=none) (lg:bA K CL CS B' H' g pa tb' v'):MdI K pos qual CL CS P H0 d g pa LF n lv B' tb' v' H':=by
 obtain⟨p,k,_,_,w,_,_⟩:=h.dd;obtain⟨_,_,_,u⟩:=h.nP;refine{ h with sB:=λc o e=>?_,la:=la,dk:=?_,lg:=lg,mu:=λc o e m=>?_,bl:=j _ _ h.bl h.lf (.inl ⟨_,rfl⟩),nt:=(λe=>by rw[<-e,h.lf]at f;cases f),t0:=h.free f,lf:=s _ _ (Zr h.ng h.np u h.lf) }
 ·have i:=h.sB _ _ e;obtain⟨_,e⟩:=aJ e;obtain⟨l,e⟩:=aJ e;exact s _ _ (Zr (nn e h.g0) (nn e h.p0) l i)
 ·obtain⟨a,b,c,e,r⟩:=h.dk;exact⟨a,b,c,s _ _ (Zr p k w e),r⟩
 ·obtain⟨q,i,t⟩:=h.old e;exact j c q (h.mu c o e m) i (t m)
theorem MdI.back (h:MdI K pos qual CL CS P H0 d g pa LF n lv Bi tb v H) (s:af (wo g (wo pa (wo tb (wo P H)))) H') (la:gO P pos qual H') (i:∀c o,Bi c=none->H c=some o->lZ o->B' c=none) (lg:bA K CL CS B' H' g pa tb v'):MdI K pos qual CL CS P H0 d g pa LF n lv B' tb v' H':=by
 obtain⟨p,j,k,_,w,_,_⟩:=h.dd;obtain⟨_,_,_,u⟩:=h.nP;refine{ h with sB:=λc o e=>?_,la:=la,dk:=?_,lg:=lg,mu:=λc o e m=>?_,bl:=i _ _ h.bl h.lf (.inl ⟨_,rfl⟩),lf:=s _ _ (Zs h.ng h.np h.nt u h.lf) }
 ·have f:=h.sB _ _ e;obtain⟨_,e⟩:=aJ e;obtain⟨l,e⟩:=aJ e;exact s _ _ (Zs (nn e h.g0) (nn e h.p0) (nn e h.t0) l f)
 ·obtain⟨a,b,c,e,r⟩:=h.dk;exact⟨a,b,c,s _ _ (Zs p j k w e),r⟩
 ·obtain⟨q,f,t⟩:=h.old e;exact i c q (h.mu c o e m) f (t m)
end
structure WOd (w:Str):Prop where
 word:dN w=true
 len:w.length<=5
 ok:Y1 w=true
theorem d1:∀x∈yQ,dN x=true/\x.length<=5/\Y1 x=true:=by decide +kernel
theorem d2:∀x∈yF,dN x=true/\x.length<=5/\Y1 x=true:=by decide +kernel
theorem d3:∀x∈yl,dN x=true/\x.length<=5/\Y1 x=true:=by decide +kernel
structure TV (m:Nat) (x:Str) (ws:Uq):Prop where
 eq:x=YG " " ws
 pos:1<=ws.length
 le:ws.length<=m
 wd:∀w∈ws,WOd w
structure T6 (ws:Uq):Prop where
 pos:1<=ws.length
 le:ws.length<=12
 wd:∀w∈ws,WOd w
def Ms:Sh:=.list (.list (.bC .str (.bC .str .lD)))
theorem Bl (pss:Uh):Ms.has (.list (pss.map be)):=⟨_,rfl,λx a=>by
 obtain⟨_,_,rfl⟩:=UE.mp a;exact⟨_,rfl,λy b=>by
  obtain⟨p,_,rfl⟩:=UE.mp b;cases p <;> exact⟨_,_,rfl,⟨_,rfl⟩,_,_,rfl,⟨_,rfl⟩,rfl⟩⟩⟩
section
variable {v:StV}{s:Int}
theorem StV.Ok.pso (h:v.Ok s l):nY (v.bs++v.fs):=λp hp=>(UY.mp hp).elim (h.hnd p) (h.gth.ok p)
theorem StV.Ok.pok (h:v.Ok s l):∀q∈v.bs++v.fs,∀p∈q,p.ok:=λq hq p hp=>((h.pso q hq).1 p hp).okP.1
theorem StV.Ok.Kc (h:v.Ok s l):v.rf.length=v.rs.length:=by unfold StV.rf;rw[VU,h.len,V1]
theorem StV.Ok.rfm (h:v.Ok s l):∀x∈v.rf,x.1∈v.rs/\∃p∈v.bs++v.fs,x.2=some p/\bT x.1.2 p=true:=λx c=>by
 obtain⟨i,a⟩:=VJ c;unfold StV.rf at a;rw[Vf]at a;obtain⟨p,e,b,d⟩:=h.QD a.1 a.2;exact⟨UC a.1,p,b,e,d⟩
end
theorem xm {p:Ui} (b:∀x∈p,x.ok):∀{l:List ((Int×Str)×Option Ui)},(∀x∈l,∃q,x.2=some q/\∀y∈q,y.ok)->(l.map λx=>oP x.2).countP (λe=>Yc e (be p))=l.countP λx=>decide (x.2=some p)
 | [],_=>rfl
 | a::l,h=>by
  obtain⟨q,e,d⟩:=h a (UM ..);rw[UW,VL,VL,xm b λx c=>h x (UJ _ c),e];show _+(if Yc (be q) (be p)=true then 1 else 0)=_;rw[tS d b];simp
theorem MI {v:StV}{s:Int}{p:Ui} (h:v.Ok s l) (a:p∈v.bs++v.fs):((v.rf.filter (tD lo hi)).map λx=>oP x.2).countP (λe=>Yc e (be p))=cnt v lo hi p:=by
 refine xm (h.pok p a) λx b=>?_;obtain⟨_,q,c,e,_⟩:=h.rfm x (U0.mp b).1;exact⟨q,e,h.pok q c⟩
def HwL (H:Hp) (ys:Uj) (m:List (Str×Nat)):Prop:=ys.length=m.length/\∀(i:Nat) x w,ys[i]? = some x->m[i]? = some w->∃a,x = .ref a/\H a=some (.tup [.str w.1,.int (w.2:Nat)])
theorem HwL.nil:HwL H [] []:=⟨rfl,λi x w h=>by cases h⟩
theorem HwL.mono (h:HwL H ys m) (d:∀a t,H a=some (.tup t)->H' a=some (.tup t)):HwL H' ys m:=⟨h.1,λi x w b c=>by
 obtain⟨a,e,q⟩:=h.2 i x w b c;exact⟨a,e,d _ _ q⟩⟩
theorem HwL.snoc {w:Str×Nat} (h:HwL H ys m) (g:H a=some (.tup [.str w.1,.int (w.2:Nat)])):HwL H (ys++[.ref a]) (m++[w]):=⟨by rw[UH,UH,h.1];rfl,λi x u b c=>by
 by_cases d:i<ys.length
 ·rw[U6 d]at b;rw[U6 (by rw[<-h.1];exact d)]at c;exact h.2 i x u b c
 ·have f:=VA.mp b;obtain⟨e,_⟩:=f;rw[UH,UQ]at e;have:i=ys.length:=by lia
  subst this;rw[Vb (UD _),Wi]at b;rw[h.1,Vb (UD _),Wi]at c;cases b;cases c;exact⟨a,rfl,g⟩⟩
theorem O7 {l:List (Str×Nat)} (b:(l.map (·.1)).Nodup) {x:Str×Nat} (hx:x∈l):fB (hoK l) (Sum.inr x.1)=some (.int (x.2:Nat)):=by
 have:l.find? (λy=>decide (y.1=x.1))=some x:=by
  induction l with
  | nil=>cases hx
  | cons a l c=>
   rw[UW,VG]at b;rw[Vw];rcases UR.mp hx with h | h
   ·subst h;rw[Zk rfl]
   ·rw[Zl λz=>b.1 (by rw[z];exact UE.mpr ⟨x,h,rfl⟩)];exact c b.2 h
 rw[JA,this];rfl
def fu (v:StV) (p:Ui):Ul:=(v.rf.filter λx=>decide (x.2=some p)).map λx=>Y4 x.1.2 " "
theorem Jm {v:StV}{s:Int}{p:Ui} (h:v.Ok s l):∀ws∈fu v p,ws.length=p.length/\∀w∈ws,Bd w:=λws a=>by
 unfold fu at a;obtain⟨x,b,rfl⟩:=UE.mp a;obtain⟨b,e⟩:=U0.mp b;obtain⟨g,q,_,d,f⟩:=h.rfm x b;rw[Zm e]at d;cases d;obtain⟨ws,c⟩:=h.lns _ g;refine⟨(Zm (VM.mp f).1).symm,λw a=>?_⟩;rw[c.split]at a;have:=c.wd w a;exact⟨UK this.len (by decide),this.ok⟩
theorem KJ {v:StV}{s:Int}{p:Ui} (h:v.Ok s l):(fu v p).length<64:=by
 unfold fu;rw[UA];have h1:=U9 (λx=>decide (x.2=some p)) v.rf;rw[h.Kc]at h1;have:=h.rl;lia
theorem xk (pss:Uh):Yc (.list (pss.map be)) (.list (pss.map be))=true:=((Sh.ok Ms).eqv _ _ (Bl _) (Bl _)).mpr rfl
theorem Nf {v:StV}{s:Int}{p:Ui} (h:v.Ok s l):cnt v lo hi p<=64:=by
 unfold cnt;have b:=List.countP_le_length (p:=λx=>decide (x.2=some p)) (l:=v.rf.filter (tD lo hi));have a:=U9 (tD lo hi) v.rf;rw[h.Kc]at a;have:=h.rl;lia
theorem zT {α:Type} (f:α->Nat):∀l:List α,(l.map λp=>((f p:Nat):Int)).sum=(((l.map f).sum:Nat):Int)
 | []=>rfl
 | a::l=>by rw[UW,Vo,UW,Vo,zT f l];lia
structure zS (ws:Uq) (m:List (Str×Nat)):Prop where
 nd:(m.map (·.1)).Nodup
 mem:∀y,y∈m.map (·.1)↔y∈ws
 cnt:∀x∈m,x.2=ws.count x.1
 ord:(m.map λx=>wkD x.1).Pairwise λa b=>ltv b a=false
theorem Ni {l:List (Str×Nat)}{w:Str} (g:(l.map (·.1)).Nodup) (f:∀y,y∈l.map (·.1)↔y∈ws) (c:∀x∈l,x.2=ws.count x.1):∀x∈oC l w,x.2=(ws++[w]).count x.1:=by
 intro x a;rw[WV];unfold oC at a;cases h:l.any λx=>decide (x.1=w)with
 | true=>
  rw[h,Zn rfl]at a;obtain⟨y,d,rfl⟩:=UE.mp a;have:=c y d;by_cases e:y.1=w
  ·rw[Zn e,WG,show(w == y.1)=true from beq_iff_eq.mpr e.symm];simp;lia
  ·rw[Zo e,WG,show(w == y.1)=false from beq_eq_false_iff_ne.mpr λz=>e z.symm];simp;lia
 | false=>
  rw[h,Zo UO]at a;have b:w∉l.map (·.1):=λz=>by
   obtain⟨x,a,e⟩:=UE.mp z;have:=Wy.mp h x a;simp[e]at this
  rcases UY.mp a with a | a
  ·have:=c x a;have e:¬ x.1=w:=λz=>b (z ▸ UE.mpr ⟨x,a,rfl⟩);rw[WG,show(w == x.1)=false from beq_eq_false_iff_ne.mpr λz=>e z.symm];simp;lia
  ·rw[UG.mp a];have:ws.count w=0:=WN.mpr λz=>b ((f w).mpr z);show 1=ws.count w + [w].count w;rw[this];simp
theorem Gn {l:List (Str×Nat)}{p:List Nat} (b:p.Perm (Y7 l.length)):∃m:List (Str×Nat),m.Perm l/\picked ((hoK l).map λkv=>kV kv.1) p=m.map (λx=>V.str x.1)/\(p.map λi=>(l.map λx=>wkD x.1).getD i .none)=m.map λx=>wkD x.1:=by
 refine⟨p.map λi=>l.getD i (Yh,0),?_,?_,?_⟩
 ·refine(b.map _).trans ?_;rw[show(Y7 l.length).map (λi=>l.getD i (Yh,0))=l from ?_];refine V8 (by simp) λi _ c=>?_;rw[W0,List.getElem_range,US,UB c];rfl
 ·unfold picked;rw[Vc];refine U5 λi a=>?_;have a:=Vj.mp (b.mem_iff.mp a);show YA _ i _=V.str (l.getD i _).1;rw[US,US];unfold hoK;rw[Vc,UI,UB a];rfl
 ·rw[Vc];refine U5 λi a=>?_;have a:=Vj.mp (b.mem_iff.mp a);show YA _ i _=wkD (l.getD i _).1;rw[US,US,UI,UB a];rfl
theorem zS.unique {b:Uq}{m':List (Str×Nat)} (h:zS ws m) (h':zS b m') (p:ws.Perm b):m=m':=by
 have l:(m.map (·.1)).Perm (m'.map (·.1)):=(WK h.nd h'.nd).mpr λy=>by rw[h.mem,h'.mem,p.mem_iff]
 have e:m.map (λx=>wkD x.1)=m'.map λx=>wkD x.1:=by
  refine jN (Sh.ok Pp) (λx n=>?_) ?_ h.ord h'.ord
  ·obtain⟨y,_,rfl⟩:=UE.mp n;exact Mf _
  ·have:=l.map wkD;rw[Vc,Vc]at this;exact this
 have o:m.length=m'.length:=by have:=congrArg YV e;simpa using this
 refine V8 o λi c f=>?_;have j:(m.map λx=>wkD x.1)[i]? = (m'.map λx=>wkD x.1)[i]?:=by rw[e]
 rw[UI,UI,UB c,UB f]at j;have a:wkD m[i].1=wkD m'[i].1:=Ye j;have d:m[i].1=m'[i].1:=by
  unfold wkD at a;injection a with a;injection a with _ a;injection a with a;injection a
 have g:=h.cnt _ (Vh c);have k:=h'.cnt _ (Vh f);rw[d,p.count_eq,<-k]at g;exact Prod.ext d g
def GP:Option Pt->Bool
 | some (.hole _)=>true
 | _=>false
def hPl (p:Ui) (i:Nat):List Nat:=(Y7 i).filter λn=>GP p[n]?
theorem AW (p:Ui) (i:Nat):hPl p (i+1)=hPl p i++if GP p[i]? = true then[i]else[]:=by
 unfold hPl;rw[Wr,Vi,VP,List.filter_nil]
theorem Nn {p:Ui} (h:n∈hPl p i):n<i:=Vj.mp (U0.mp h).1
theorem Ee (p:Ui) (i:Nat):(hPl p i).length<=i:=by
 have:=U9 (λn=>GP p[n]?) (Y7 i);rw[VN]at this;exact this
def hwD (x:Str×Nat):Zf:=.tuple [.str x.1,.int (x.2:Nat)]
def iy (v:StV) (p:Ui) (ms:List (List (Str×Nat))):Prop:=ms.length=(hPl p p.length).length/\∀(j n:Nat) m,(hPl p p.length)[j]? = some n->ms[j]? = some m->zS (wAt (fu v p) n) m
theorem iy.unique {v v':StV}{p:Ui}{ms ms':List (List (Str×Nat))} (h:iy v p ms) (h':iy v' p ms') (c:(fu v p).Perm (fu v' p)):ms=ms':=by
 have e:ms.length=ms'.length:=h.1.trans h'.1.symm;refine V8 e λj b d=>?_;have a:j<(hPl p p.length).length:=by rw[<-h.1];exact b
 exact(h.2 j _ _ (UB a) (UB b)).unique (h'.2 j _ _ (UB a) (UB d)) (c.map _)
theorem mG.unique {bs fs:Uh}{o o':Option Ui} (h:mG bs fs z o) (h':mG bs fs z o'):o=o':=by
 rcases h with⟨p,rfl,c⟩ | ⟨f,g⟩
 ·rcases h' with⟨q,rfl,a⟩ | ⟨d,_⟩
  ·rw[qv c a λ_=>Iff.rfl]
  ·have:=c.1;rw[d]at this;cases this
 ·rcases h' with⟨q,rfl,a⟩ | ⟨_,b⟩
  ·have:=a.1;rw[f]at this;cases this
  ·rcases g with⟨e,rfl⟩ | ⟨p,rfl,c⟩
   ·rcases b with⟨_,rfl⟩ | ⟨q,rfl,a⟩
    ·rfl
    ·have:=a.1;rw[e]at this;cases this
   ·rcases b with⟨e,rfl⟩ | ⟨q,rfl,a⟩
    ·have:=c.1;rw[e]at this;cases this
    ·rw[qv c a λ_=>Iff.rfl]
open Classical in
noncomputable def GV (bs fs:Uh) (z:Str):Option Ui:=if h:∃o,mG bs fs z o then h.choose else none
theorem Hz {bs fs:Uh}{o:Option Ui} (h:mG bs fs z o):GV bs fs z=o:=by
 unfold GV;rw[dif_pos ⟨o,h⟩];exact mG.unique (YE (⟨o,h⟩:∃o,mG bs fs z o)) h
theorem GZ {v:StV}{s:Int} (h:v.Ok s l):v.rf=v.rs.map λr=>(r,GV v.bs v.fs r.2):=by
 unfold StV.rf;refine V8 (by rw[VU,UA,h.len,V1]) λi _ a=>?_;have b:i<v.rs.length:=by rw[UA]at a;exact a
 have d:i<v.os.length:=by rw[h.len];exact b
 rw[List.getElem_zip,W0];refine Prod.ext rfl ?_;have c:v.zZ[i]? = some v.rs[i].2:=by unfold StV.zZ;rw[UI,UB b];rfl
 exact(Hz (h.fls.2 i _ _ c (UB d))).symm
theorem DQ {v v':StV}{s:Int} (h:v.Ok s l) (h':v'.Ok s l) (a:v.bs=v'.bs) (c:v.rs.Perm v'.rs):v.fs=v'.fs:=by
 have b:v.zZ.Perm v'.zZ:=by unfold StV.zZ;exact c.map _
 refine(h.gth.Qz λz=>?_).unique h'.gth;rw[a];unfold e9;rw[U0,U0,b.mem_iff]
theorem JM {v v':StV}{s:Int} (h:v.Ok s l) (h':v'.Ok s l) (hb:v.bs=v'.bs) (hr:v.rs.Perm v'.rs):v.rf.Perm v'.rf:=by
 rw[GZ h,GZ h',hb,DQ h h' hb hr];exact hr.map _
theorem Gx {v v':StV}{p:Ui} (h:v.rf.Perm v'.rf):cnt v lo hi p=cnt v' lo hi p:=by
 unfold cnt;exact(h.filter _).countP_eq _
theorem BV {v v':StV}{p:Ui} (h:v.rf.Perm v'.rf):(fu v p).Perm (fu v' p):=by
 unfold fu;exact(h.filter _).map _
structure Kp (P d g pa tb:Za) (Bk H:Hp):Prop where
 sB:af Bk H
 kd:Bk d=none
 kg:Bk g=none
 kp:Bk pa=none
 kt:Bk tb=none
 kP:Bk P=none
section
variable {P g tb:Za}{Bk:Hp}
theorem Kp.pick (h:Kp P d g pa tb Bk H) (s:af (wo d H) H'):Kp P d g pa tb Bk H':={ h with sB:=(bB h.kd h.sB).trans s }
theorem Kp.um (h:Kp P d g pa tb Bk H) (s:af (wo g (wo pa (wo P H))) H') (ht:H tb' = none):Kp P d g pa tb' Bk H':={ h with sB:=(bB h.kg (bB h.kp (bB h.kP h.sB))).trans s,kt:=h.sB.free ht }
theorem Kp.back (h:Kp P d g pa tb Bk H) (s:af (wo g (wo pa (wo tb (wo P H)))) H'):Kp P d g pa tb Bk H':={ h with sB:=(bB h.kg (bB h.kp (bB h.kt (bB h.kP h.sB)))).trans s }
end
theorem yq (f:α->β) {ys xs:List β} (h:ys.Perm xs):∀Z:List α,xs=Z.map f->∃Z':List α,Z'.Perm Z/\ys=Z'.map f:=by
 induction h with
 | nil=>
  intro Z e;cases Z with
  | nil=>exact⟨[],.nil,rfl⟩
  | cons a Z=>cases e
 | cons x _ i=>
  intro Z e;cases Z with
  | nil=>cases e
  | cons a Z=>
   injection e with e1 e2;obtain⟨Z',p,q⟩:=i Z e2;exact⟨a::Z',p.cons a,by rw[q,e1];rfl⟩
 | swap x y l=>
  intro Z e
  match Z,e with
  | a::b::Z,e=>
   injection e with e1 e2;injection e2 with e2 e3;exact⟨b::a::Z,.swap _ _ _,by rw[e1,e2,e3];rfl⟩
 | trans _ _ d c=>
  intro Z e;obtain⟨n,g,j⟩:=c Z e;obtain⟨m,k,o⟩:=d n j;exact⟨m,k.trans g,o⟩
abbrev Wt:=V×(Str ⊕ (V×Ui))
def nZ (H:Hp) (e:Wt):Prop:=match e.2 with
 | .inl z=>∃t,e.1 = .ref t/\H t=some (.tup [.str "line",.str z])
 | .inr q=>∃t,e.1 = .ref t/\H t=some (.tup [.str "hand",q.1])
def lnO:Wt->Option (Int×Str)
 | (_,.inl z)=>some (7,z)
 | _=>none
def hdO:Wt->Option Ui
 | (_,.inr q)=>some q.2
 | _=>none
theorem nZ.same {e:Wt} (h:nZ H e) (s:af H H'):nZ H' e:=by
 obtain⟨x,y⟩:=e;cases y with
 | inl z=>obtain⟨t,a,b⟩:=h;exact⟨t,a,s _ _ b⟩
 | inr z=>obtain⟨t,a,b⟩:=h;exact⟨t,a,s _ _ b⟩
theorem NJ {Z:List Wt}{d:List (V×Ui)} (h:Z.map (·.2)=zs.map Sum.inl++d.map Sum.inr):Z.filterMap lnO=zs.map λz=>((7:Int),z):=by
 have e:Z.filterMap lnO=(Z.map (·.2)).filterMap λy=>match y with | .inl z=>some ((7:Int),z) | .inr _=>none:=by
  rw[V0];refine congrArg (λf=>List.filterMap f Z) (funext λx=>?_);obtain⟨x,y⟩:=x;cases y <;> rfl
 rw[e,h,Vu,V0,V0];have c:∀l:Uq,l.filterMap ((λy:Str ⊕ (V×Ui)=>match y with | .inl z=>some ((7:Int),z) | .inr _=>none) ∘ Sum.inl)=l.map λz=>((7:Int),z):=λl=>by
  induction l with
  | nil=>rfl
  | cons a l b=>rw[Vq,b];rfl
 have g:∀l:List (V×Ui),l.filterMap ((λy:Str ⊕ (V×Ui)=>match y with | .inl z=>some ((7:Int),z) | .inr _=>none) ∘ Sum.inr)=[]:=λl=>by
  induction l with
  | nil=>rfl
  | cons a l b=>rw[Vq,b];rfl
 rw[c,g,Vd]
theorem Oa {Z:List Wt}{c:List (V×Ui)} (h:Z.map (·.2)=zs.map Sum.inl++c.map Sum.inr):Z.filterMap hdO=c.map (·.2):=by
 have e:Z.filterMap hdO=(Z.map (·.2)).filterMap λy=>match y with | .inl _=>none | .inr q=>some q.2:=by
  rw[V0];refine congrArg (λf=>List.filterMap f Z) (funext λx=>?_);obtain⟨x,y⟩:=x;cases y <;> rfl
 rw[e,h,Vu,V0,V0];have d:∀l:Uq,l.filterMap ((λy:Str ⊕ (V×Ui)=>match y with | .inl _=>none | .inr q=>some q.2) ∘ Sum.inl)=[]:=λl=>by
  induction l with
  | nil=>rfl
  | cons a l b=>rw[Vq,b];rfl
 have g:∀l:List (V×Ui),l.filterMap ((λy:Str ⊕ (V×Ui)=>match y with | .inl _=>none | .inr q=>some q.2) ∘ Sum.inr)=l.map (·.2):=λl=>by
  induction l with
  | nil=>rfl
  | cons a l b=>rw[Vq,b];rfl
 rw[d,g,List.nil_append]
theorem Qv {Z:List Wt}{hb:List (V×Ui)} (h:Z.map (·.2)=zs.map Sum.inl++hb.map Sum.inr) {e:Wt} (b:e∈Z):(∃z,e.2 = .inl z/\z∈zs)\/∃q,e.2 = .inr q/\q∈hb:=by
 have:e.2∈zs.map Sum.inl++hb.map Sum.inr:=by rw[<-h];exact UE.mpr ⟨e,b,rfl⟩
 rcases UY.mp this with h | h
 ·obtain⟨z,a,e⟩:=UE.mp h;exact .inl ⟨z,e.symm,a⟩
 ·obtain⟨z,a,e⟩:=UE.mp h;exact .inr ⟨z,e.symm,a⟩
def zV:Ui:=[.word "never",.hole 2]
theorem IJ:PW zV:=by
 have h:∀w∈(["never","there"]:Uq),WOk w:=by
  have c:∀w∈(["never","there"]:Uq),dN w=true/\w.length<=6/\Y1 w=true:=by decide +kernel
  exactλw a=>⟨(c w a).1,(c w a).2.1,(c w a).2.2⟩
 refine Aa (ws:=["never","there"]) h ⟨rfl,λi w p a b=>?_⟩
 match i,a,b with
 | 0,a,b=>cases a;cases b;exact .inl rfl
 | 1,a,b=>cases a;cases b;exact .inr (.inr rfl)
 | i+2,a,b=>cases a
theorem HZ {l m:Uh}{p:Ui} (h:m.Perm (l++[p])) (b:p∉l):(m.filter λq=>decide (q≠p)).Perm l:=by
 refine(h.filter _).trans ?_;rw[Vi,show([p].filter λq=>decide (q≠p))=[]from VT (λe=>Zm e rfl),Vd,List.filter_eq_self.mpr λa c=>Zk (p:=a≠p) λe=>b (by rw[<-e];exact c)]
structure Lp (v:fc) (Z:List Wt) (s l:Int) (i p:Nat):Prop where
 vs:v.s=s
 vl:v.l=l
 rs:v.cur.rs=(Z.take i).filterMap lnO
 bs:v.cur.bs.Perm ((Z.take i).filterMap hdO)
 ko:lB v.cur.bs
 pl:v.past.length<=p
theorem Lp.rl {v:fc}{Z:List Wt}{s:Int} (h:Lp v Z s l i p):v.cur.rs.length<=i:=by
 rw[h.rs];refine UK (WY _ _) ?_;rw[UT];exact Nat.min_le_left _ _
theorem Lp.m7 {v:fc}{Z:List Wt}{s:Int} (h:Lp v Z s l i p):∀q,v.cur.rs.getLast? = some q->q.1<=7:=λq hq=>by
 have b:=List.mem_of_getLast? hq;rw[h.rs]at b;obtain⟨e,_,a⟩:=Wc.mp b;obtain⟨x,y⟩:=e;cases y with
 | inl z=>cases a;exact Int.le_refl _
 | inr z=>cases a
def lS (P d g pa tb:Za) (H:Hp):Hp:=wo d (wo g (wo pa (wo tb (wo P H))))
section
variable {P g tb:Za}
theorem uN (h1:c≠d) (h2:c≠g) (h3:c≠pa) (h4:c≠tb) (h5:c≠P):lS P d g pa tb H c=H c:=by
 unfold lS;rw[ak h1,ak h2,ak h3,ak h4,ak h5]
theorem gL {x:Za} (h:H c=none):wo x H c=none:=by
 by_cases e:c=x
 ·rw[e,bp]
 ·rw[ak e];exact h
theorem Lk:Kp P d g pa tb (lS P d g pa tb H) H:=by
 unfold lS;refine⟨aM.trans (aM.trans (aM.trans (aM.trans aM))),bp,gL bp,gL (gL bp),gL (gL (gL bp)),gL (gL (gL (gL bp)))⟩
theorem E7 {i pv tv:Uj}{fs:List (Str×V)}{q:Uy} (h:H c=some (.tup xs)) (a:H d=some (.lst i)) (k:H g=some (.ins C dx fs)) (f:H pa=some (.lst pv)) (j:H tb=some (.lst tv)) (b:H P=some (.tbl q)):lS P d g pa tb H c=some (.tup xs):=by
 rw[uN (nn h a) (nn h k) (nn h f) (nn h j) (nn h b)];exact h
theorem nZ.tup {e:Wt} (h:nZ H e) (f:∀c xs,H c=some (.tup xs)->H' c=some (.tup xs)):nZ H' e:=by
 obtain⟨x,y⟩:=e;cases y with
 | inl z=>obtain⟨t,a,b⟩:=h;exact⟨t,a,f _ _ b⟩
 | inr z=>obtain⟨t,a,b⟩:=h;exact⟨t,a,f _ _ b⟩
end
theorem K7 (h:H b=some (.lst [.ref c,.ref a])) (h1:H c=some (.tup [.str "word",.str "never"])) (h2:H a=some (.tup [.str "hole",.str "any"])):Den K H (.ref b) (be zV):=by
 refine .lst (.of h) (.cons ?_ (.cons ?_ .nil))
 ·exact .tup (.of h1) (.cons (.str (by decide +kernel)) (.cons (.str (by decide +kernel)) .nil))
 ·exact .tup (.of h2) (.cons (.str (by decide +kernel)) (.cons (.str (by decide +kernel)) .nil))
theorem KI {b:Uj}{bs:Uh}{q:V×Ui} (h:aD K H b (bs.map be)) (f:q∈b.zip bs):Den K H q.1 (be q.2)/\q.2∈bs:=by
 obtain⟨i,g,e⟩:=List.getElem_of_mem f;have a:(b.zip bs)[i]? = some q:=by rw[UB g,e]
 rw[Vf]at a;obtain⟨_,c,d⟩:=dR h a.1;rw[a.2]at c;cases c;exact⟨d,UC a.2⟩
theorem Nm {e:Wt} (h:nZ H e) (ez:e.2 = .inl z):lnO e=some (7,z)/\hdO e=none/\∃t,e.1 = .ref t/\H t=some (.tup [.str "line",.str z]):=by
 obtain⟨x,y⟩:=e;cases ez;exact⟨rfl,rfl,h⟩
theorem Nw {e:Wt}{q:V×Ui} (h:nZ H e) (ez:e.2 = .inr q):lnO e=none/\hdO e=some q.2/\∃t,e.1 = .ref t/\H t=some (.tup [.str "hand",q.1]):=by
 obtain⟨x,y⟩:=e;cases ez;exact⟨rfl,rfl,h⟩
theorem DN {f:α->Option β}{e:α}{y:β} (h:f e=some y):(some e:Option α).toList.filterMap f=[y]:=by
 show List.filterMap f [e]=[y];rw[Vq,h];rfl
theorem Ei {f:α->Option β}{e:α} (h:f e=none):(some e:Option α).toList.filterMap f=[]:=by
 show List.filterMap f [e]=[];rw[Vq,h];rfl
def hoD (m:List (Str×Nat)):Zf:=.list (m.map hwD)
def BQ (ms:List (List (Str×Nat))):Zf:=.list (ms.map hoD)
def cnD (q:Ui×Nat):Zf:=.tuple [be q.1,.int (q.2:Nat)]
def ux (ps:Uh) (cs:List (Ui×Nat)) (hs:List (List (List (Str×Nat)))):Zf:=.list [.list (ps.map be),.list (cs.map cnD),.list (hs.map BQ)]
theorem va {K:Xz}{H:Hp}:∀{xs:Uj}{ds:UF},xs.length=ds.length->(∀(i:Nat) x d,xs[i]? = some x->ds[i]? = some d->Den K H x d)->aD K H xs ds
 | [],[],_,_=>.nil
 | [],_::_,h,_=>by cases h
 | _::_,[],h,_=>by cases h
 | x::xs,d::ds,h,k=>.cons (k 0 x d rfl rfl) (va (Nat.succ.inj h) λi y e a b=>k (i+1) y e a b)
theorem JT (h:HwL H ys m) (f:∀x∈m,Y1 x.1=true):aD K H ys (m.map hwD):=by
 refine va (by rw[h.1,UA]) λi x d c b=>?_;rw[UI]at b;obtain⟨w,e,rfl⟩:=Option.map_eq_some_iff.mp b;obtain⟨a,rfl,g⟩:=h.2 i x w c e;exact .tup (.of g) (.cons (.str (f w (UC e))) (.cons (.int _) .nil))
theorem NY {v:StV}{s:Int}{p:Ui} (h:v.Ok s l):∀w∈wAt (fu v p) n,Y1 w=true:=λw d=>by
 unfold wAt at d;obtain⟨c,a,rfl⟩:=UE.mp d;unfold fu at a;obtain⟨x,f,rfl⟩:=UE.mp a;have g:x.1∈v.rs:=by
  have:=(U0.mp f).1;unfold StV.rf at this;exact(WH this).1
 obtain⟨c,b⟩:=h.lns _ g;rw[b.split,US];cases e:c[n]? with
 | none=>decide +kernel
 | some w=>exact(b.wd w (UC e)).3
theorem Pg {v:StV}{s:Int}{p:Ui} (h:v.Ok s l) (hm:zS (wAt (fu v p) n) m):∀x∈m,Y1 x.1=true:=λx hx=>NY h _ ((hm.mem _).mp (UE.mpr ⟨x,hx,rfl⟩))
theorem HN {v:StV}{s:Int}{p:Ui}{ms:List (List (Str×Nat))} (h:v.Ok s l) (d:iy v p ms):∀m∈ms,∀x∈m,Y1 x.1=true:=λm b=>by
 obtain⟨j,c,e⟩:=List.getElem_of_mem b;have a:j<(hPl p p.length).length:=by rw[<-d.1];exact c
 exact Pg h (d.2 j _ m (UB a) (by rw[UB c,e]))
theorem uD {l:UF} (h:∀d∈l,d.depth<=n):(PyData.list l).depth<=n+1:=by
 rw[Yr];have:=cV _ h;lia
theorem Mp {l:UF} (h:∀d∈l,d.depth<=n):(PyData.tuple l).depth<=n+1:=by
 rw[Yr];have:=cV _ h;lia
theorem P6 (i:Int) (n:Nat):(PyData.int i).depth<=n:=by rw[Yr];exact UU _
theorem Qb (i:Str) (n:Nat):(PyData.str i).depth<=n:=by rw[Yr];exact UU _
theorem Lm (x:Str×Nat):(hwD x).depth<=1:=Mp (n:=0) λd hd=>by
 rcases UR.mp hd with h | h
 ·rw[h];exact Qb _ _
 ·rw[UG.mp h];exact P6 _ _
theorem G3 (ms:List (List (Str×Nat))):(BQ ms).depth<=3:=uD λd hd=>by
 obtain⟨m,_,rfl⟩:=UE.mp hd;exact uD λd hd=>by
  obtain⟨x,_,rfl⟩:=UE.mp hd;exact Lm x
theorem IL (ps:Uh) (b:List (Ui×Nat)) (c:List (List (List (Str×Nat)))):(ux ps b c).depth<=100:=by
 refine UK (uD (n:=92) λd a=>?_) (by decide);rcases UR.mp a with h | h
 ·rw[h];refine UK (uD (n:=90) λd a=>?_) (by decide);obtain⟨p,_,rfl⟩:=UE.mp a;exact dP p
 rcases UR.mp h with h | h
 ·rw[h];refine uD (n:=91) λd a=>?_;obtain⟨p,_,rfl⟩:=UE.mp a;exact Mp (n:=90) λd a=>by
   rcases UR.mp a with h | h
   ·rw[h];exact dP _
   ·rw[UG.mp h];exact P6 _ _
 ·rw[UG.mp h];refine UK (uD (n:=3) λd a=>?_) (by decide);obtain⟨p,_,rfl⟩:=UE.mp a;exact G3 p
def AF:Sh:=.list (.bC .str (.bC .str .lD))
theorem Im (ps:Ui):AF.has (be ps):=⟨_,rfl,λy hy=>by
 obtain⟨p,_,rfl⟩:=UE.mp hy;cases p <;> exact⟨_,_,rfl,⟨_,rfl⟩,_,_,rfl,⟨_,rfl⟩,rfl⟩⟩
theorem Ey (ps:Uh) (b:List (Ui×Nat)) (c:List (List (List (Str×Nat)))):Yc (ux ps b c) (ux ps b c)=true:=by
 have d:Yc (.list (ps.map be)) (.list (ps.map be))=true:=by
  have h:(Sh.list AF).has (.list (ps.map be)):=⟨_,rfl,λx a=>by
   obtain⟨p,_,rfl⟩:=UE.mp a;exact Im p⟩
  exact((Sh.ok (.list AF)).eqv _ _ h h).mpr rfl
 have e:Yc (.list (b.map cnD)) (.list (b.map cnD))=true:=by
  have h:(Sh.list (.bC AF (.bC .int .lD))).has (.list (b.map cnD)):=⟨_,rfl,λx a=>by
   obtain⟨p,_,rfl⟩:=UE.mp a;exact⟨_,_,rfl,Im _,_,_,rfl,⟨_,rfl⟩,rfl⟩⟩
  exact((Sh.ok (.list (.bC AF (.bC .int .lD)))).eqv _ _ h h).mpr rfl
 have f:Yc (.list (c.map BQ)) (.list (c.map BQ))=true:=by
  have h:(Sh.list (.list (.list (.bC .str (.bC .int .lD))))).has (.list (c.map BQ)):=⟨_,rfl,λx a=>by
   obtain⟨p,_,rfl⟩:=UE.mp a;exact⟨_,rfl,λx a=>by
    obtain⟨p,_,rfl⟩:=UE.mp a;exact⟨_,rfl,λx a=>by
     obtain⟨p,_,rfl⟩:=UE.mp a;exact⟨_,_,rfl,⟨_,rfl⟩,_,_,rfl,⟨_,rfl⟩,rfl⟩⟩⟩⟩
  exact((Sh.ok (.list (.list (.list (.bC .str (.bC .int .lD)))))).eqv _ _ h h).mpr rfl
 show YN [_,_,_] [_,_,_]=true;simp only[YN,d,e,f,Bool.and_self]
theorem EN {v v':StV}{s:Int}{g hs':List (List (List (Str×Nat)))} (q:v.Ok s l) (c:v'.Ok s l) (t:v.bs.Perm v'.bs) (x:lB v.bs) (f:lB v'.bs) (r:v.rs.Perm v'.rs)
  (m:g.length=(v.bs++v.fs).length) (w:∀(j:Nat) p ms,(v.bs++v.fs)[j]? = some p->g[j]? = some ms->iy v p ms)
  (i:hs'.length=(v'.bs++v'.fs).length) (h:∀(j:Nat) p ms,(v'.bs++v'.fs)[j]? = some p->hs'[j]? = some ms->iy v' p ms) :
  v.bs++v.fs=v'.bs++v'.fs/\(v.bs++v.fs).map (λp=>(p,cnt v 0 10 p))=(v'.bs++v'.fs).map (λp=>(p,cnt v' 0 10 p))/\g=hs':=by
 have d:v.bs=v'.bs:=rR t x f;have y:=DQ q c d r;have k:=JM q c d r;have e:v.bs++v.fs=v'.bs++v'.fs:=by rw[d,y]
 refine⟨e,?_,?_⟩
 ·rw[e];exact U5 λp _=>by rw[Gx k]
 ·refine V8 (by rw[m,i,e]) λj o u=>?_;have n:j<(v.bs++v.fs).length:=by rw[<-m];exact o
  have a:=w j _ _ (UB n) (UB o);have b:=h j _ _ (by rw[<-e];exact UB n) (UB u);exact a.unique b (BV k)
theorem xu {K:Xz}{H:Hp}:∀{xs:Uj}{ds:UF} (n:Nat),aD K H xs ds->aD K H (xs.drop n) (ds.drop n)
 | _,_,0,h=>by simpa using h
 | _,_,n+1,.nil=>by simpa using aD.nil
 | _,_,n+1,.cons _ t=>by simpa using xu n t
theorem MF {x:V}{q:Ui×Nat} (h:Den K H x (cnD q)):∃b y,x = .ref b/\SqT K H b [y,.int (q.2:Nat)]/\Den K H y (be q.1):=by
 cases h with
 | tup d c=>
  cases c with
  | cons a t=>
   cases t with
   | cons b t=>
    cases t;cases b;exact⟨_,_,rfl,d,a⟩
theorem Iy {v:StV}{s:Int} (h:v.Ok s l) (c:v.bs.Nodup) (a:v.rs.Perm (zs.map λz=>((7:Int),z))):((v.bs++v.fs).map λp=>cnt v 0 10 p).sum=zs.length:=by
 rw[Lg h c,List.filter_eq_self.mpr,h.Kc,a.length_eq,UA];intro x b;have d:=a.mem_iff.mp (h.rfm x b).1;obtain⟨z,_,e⟩:=UE.mp d;unfold tD;rw[<-e];show decide ((0:Int)<=7/\(7:Int)<10)=true;decide
theorem LB {bs bs':Uh}{zs':Uq} (hb:bs.Perm bs') (hz:∀z,z∈zs↔z∈zs'):∀z,z∈e9 bs zs↔z∈e9 bs' zs':=λz=>by
 unfold e9;rw[U0,U0,hz,pB,pB,Ac hb]
theorem M9 {bs:Uh} (hz:∀z∈zs,∃ws,gZ 12 z ws):∀z∈e9 bs zs,∃ws,gZ 12 z ws:=λz h=>hz z (U0.mp h).1
theorem NM {bs:Uh} (h:zs[i]? = some z):e9 bs (zs.take (i+1))=e9 bs (zs.take i)++if (bs.filter (bT z)).isEmpty then[z]else[]:=by
 unfold e9;rw[UX,h,Vi];show _++List.filter _ [z]=_;rw[VP];rfl
end LG
namespace K19
open PySem L2 LG
set_option genSizeOf false in
set_option genInjectivity false in
structure Ad where
 kQ:Za
 kz:Zb
 ke:Za
 j8:Zb
 nO:Za
 nc:Zb
 gB:Za
 fZ:Zb
 rE:Za
 qZ:Zb
 k9:Za
 lz:Zb
 rn:Za
 qP:Zb
 lG:Za
 lM:Zb
 gy:Za
 gA:Zb
 kT:Za
 kA:Zb
 ma:Za
 mK:Zb
 yI:Za
 xX:Zb
 dC:Za
 dA:Zb
 jQ:Za
 jO:Zb
 uJ:Za
 vz:Zb
 ph:Za
 oU:Zb
 jF:Za
 jI:Zb
 jS:Za
 jW:Zb
 nH:Za
 nR:Zb
 iX:Za
 iZ:Zb
 gq:Za
 gw:Zb
 eF:Za
 eG:Zb
 fe:Za
 cX:Zb
 ka:Za
 kh:Zb
 fj:Za
 fg:Zb
 lL:Za
 i4:Zb
 eD:Za
 eC:Zb
 ml:Za
 l4:Zb
 jG:Za
 jL:Zb
 mm:Za
 m3:Zb
 gu:Za
 gm:Zb
 mD:Za
 m8:Zb
 cf:Za
 b9:Zb
 md:Za
 l8:Zb
 jC:Za
 jx:Zb
 jA:Za
 jm:Zb
 kO:Za
 lH:Zb
 iO:Za
 iL:Zb
 kL:Za
 k5:Zb
 ib:Za
 ic:Zb
 fF:Za
 fV:Zb
 l7:Za
 mI:Zb
 Mv:Za
 LX:Zb
 fU:Za
 iC:Zb
 kJ:Za
 lN:Zb
 wZ:Za
 FI:Zb
 Aq:Za
 F4:Zb
 gj:Za
 iK:Zb
 bI:Za
 cy:Zb
 dv:Za
 eV:Zb
 dh:Za
 eP:Zb
 kI:Za
 o7:Zb
 nC:Za
 rH:Zb
 lK:Za
 oQ:Zb
 k4:Za
 oM:Zb
 jg:Za
 mF:Zb
 cS:Za
 d4:Zb
 rZ:Za
 Al:Zb
 ix:Za
 lA:Zb
 jD:Za
 mU:Zb
 b7:Za
 bN:Za
 aL:Za
 aX:Za
 Oy:Za
 ar:Za
structure Tx (K:Xz) (mg:Str->Option Xy) (A:Ad):Prop where
 JV:mg "ValueError" = none
 zE:mg "all" = none
 Pe:mg "any" = none
 BK:mg "enumerate" = none
 LO:mg "int" = none
 iB:mg "isinstance" = none
 c6:mg "len" = none
 rG:mg "list" = none
 L7:mg "min" = none
 jB:mg "range" = none
 HU:mg "set" = none
 p6:mg "sorted" = none
 LZ:mg "str" = none
 Oz:mg "sum" = none
 Eo:mg "tuple" = none
 BI:mg "zip" = none
 zr:∃t,mg "MOST_WORDS" = some (.int 12 t)
 EM:∃t,mg "FIGURES" = some (.str FQ t)
 tJ:∃t,mg "SMALL_LETTERS" = some (.str F2 t)
 yx:∃t,mg "WORD_SIGNS" = some (.str xp t)
 yX:∃t,mg "MOST_PARTS" = some (.int 12 t)
 kW:mg "HOLE_KINDS" = some (.ref A.b7)
 li:∀H,SqT K H A.b7 [.str "number",.str "name",.str "any"]
 yv:∃o,K.lookup A.b7=some o/\o.cls = .type "tuple" /\ o.dict=none
 JK:mg "PLAIN_SIEVE" = some (.ref A.bN)
 oE:∀H,SqT K H A.bN [.int 3,.int 2]
 JL:∃o,K.lookup A.bN=some o/\o.cls = .type "tuple" /\ o.dict=none
 yU:∃t,mg "MOST_LINES" = some (.int 120 t)
 vC:∃t,mg "MOST_BY_HAND" = some (.int 12 t)
 eU:bE K mg "has_only" (top 14) ["text","signs"] A.kQ A.kz
 gH:bE K mg "is_word" (top 15) ["thing"] A.ke A.j8
 kH:bE K mg "kind_of" (top 16) ["word"] A.nO A.nc
 words_of:bE K mg "words_of" (top 17) ["line"] A.gB A.fZ
 tV:bE K mg "is_line" (top 18) ["thing"] A.rE A.qZ
 j7:bE K mg "word_key" (top 19) ["word"] A.k9 A.lz
 tQ:bE K mg "is_part" (top 23) ["thing"] A.rn A.qP
 kG:bE K mg "is_pattern" (top 24) ["thing"] A.lG A.lM
 cN:bE K mg "is_hole" (top 25) ["part"] A.gy A.gA
 lC:bE K mg "part_takes" (top 26) ["part","word"] A.kT A.kA
 nz:bE K mg "all_taken" (top 27) ["parts","words"] A.ma A.mK
 fits:bE K mg "fits" (top 28) ["pattern","line"] A.yI A.xX
 cQ:bE K mg "kind_of_hole_around" (top 29) ["part"] A.dC A.dA
 jk:bE K mg "joined_part" (top 30) ["parts"] A.jQ A.jO
 joined:bE K mg "joined" (top 31) ["patterns"] A.uJ A.vz
 qg:bE K mg "part_key" (top 32) ["part"] A.ph A.oU
 m5:bE K mg "pattern_key" (top 33) ["pattern"] A.jF A.jI
 ordered:bE K mg "ordered" (top 34) ["patterns"] A.jS A.jW
 lj:bE K mg "grouped" (top 37) ["rows","keys"] A.nH A.nR
 eQ:bE K mg "words_at" (top 38) ["group","place"] A.iX A.iZ
 fR:bE K mg "many_unlike_at" (top 39) ["group","place"] A.gq A.gw
 dH:bE K mg "is_fit_to_part_at" (top 40) ["group","place","sieve"] A.eF A.eG
 d7:bE K mg "place_to_part_at" (top 41) ["group","sieve"] A.fe A.cX
 parted:bE K mg "parted" (top 42) ["group","sieve"] A.ka A.kh
 d6:bE K mg "pattern_of_group" (top 43) ["group"] A.fj A.fg
 gathered:Gj K mg "gathered" (top 44) ["lines","sieve"] A.lL A.i4
 dJ:bE K mg "looseness_of_part" (top 46) ["part"] A.eD A.eC
 qX:bE K mg "looseness" (top 47) ["pattern"] A.ml A.l4
 dQ:bE K mg "falls_under" (top 48) ["line","patterns"] A.jG A.jL
 nu:bE K mg "how_often" (top 52) ["things"] A.mm A.m3
 fE:bE K mg "words_in_order" (top 53) ["words"] A.gu A.gm
 gc:bE K mg "_law_deck" (top 57) ["cell","turn"] A.mD A.m8
 aq:bE K mg "_law_pick" (top 58) ["deck","many"] A.cf A.b9
 nK:bE K mg "_law_kind" (top 59) ["word"] A.md A.l8
 gz:bE K mg "_law_word" (top 60) ["deck"] A.jC A.jx
 gC:bE K mg "_law_line" (top 61) ["deck","most"] A.jA A.jm
 lE:bE K mg "_law_lines" (top 62) ["deck","most"] A.kO A.lH
 ir:bE K mg "_law_pattern" (top 63) ["deck","line"] A.iO A.iL
 kE:bE K mg "_law_sieve" (top 64) ["deck"] A.kL A.k5
 gE:bE K mg "_law_shuffled" (top 65) ["deck","some"] A.ib A.ic
 bW:bE K mg "_law_filled_log" (top 66) ["deck","sieve","lines","hand"] A.fF A.fV
 fY:bE K mg "_law_told" (top 67) ["log"] A.l7 A.mI
 pC:gP K "__init__" "State.__init__" (mIn 54 0) ["self","sieve","rows","by_hand"] A.fU A.iC
 zL:HS K "__init__" "Log.__init__" (mIn 55 0) ["self","sieve"] A.kJ A.lN
 Rf:gP K "__len__" "Log.__len__" (mIn 55 1) ["self"] A.wZ A.FI
 Sk:gP K "__eq__" "Log.__eq__" (mIn 55 2) ["self","other"] A.Aq A.F4
 qz:gP K "held" "Log.held" (mIn 55 3) ["self"] A.gj A.iK
 eB:gP K "rows_with_falls" "Log.rows_with_falls" (mIn 55 4) ["self"] A.bI A.cy
 jt:gP K "turn_to" "Log.turn_to" (mIn 55 5) ["self","held"] A.dv A.eV
 jh:gP K "do_deed" "Log.do_deed" (mIn 55 6) ["self","rows","by_hand"] A.dh A.eP
 uK:gP K "come" "Log.come" (mIn 55 7) ["self","moment","line"] A.kI A.o7
 yc:gP K "put" "Log.put" (mIn 55 8) ["self","pattern"] A.nC A.rH
 BE:gP K "take" "Log.take" (mIn 55 9) ["self","pattern"] A.lK A.oQ
 uu:gP K "back" "Log.back" (mIn 55 10) ["self"] A.k4 A.oM
 w5:gP K "again" "Log.again" (mIn 55 11) ["self"] A.jg A.mF
 iA:gP K "patterns" "Log.patterns" (mIn 55 13) ["self"] A.cS A.d4
 Ow:gP K "under" "Log.under" (mIn 55 14) ["self","number"] A.rZ A.Al
 uH:gP K "counts" "Log.counts" (mIn 55 16) ["self","low","high"] A.ix A.lA
 wL:gP K "holes" "Log.holes" (mIn 55 17) ["self","pattern"] A.jD A.mU
 D8:mg "State" = some (.ref A.aL)
 bQ:Cls K A.aL
 Pu:Q7 K A.aL
 An:Mk K A.aL A.fU
 dw:b6 K A.aL "rows"
 cm:b6 K A.aL "by_hand"
 iH:b6 K A.aL "found"
 m6:b6 K A.aL "falls"
 Mc:mg "Log" = some (.ref A.aX)
 aN:Cls K A.aX
 S7:Q7 K A.aX
 Gi:Mk K A.aX A.kJ
 Nb:lW K A.aX "__len__" A.wZ
 Ov:lW K A.aX "__eq__" A.Aq
 l5:lW K A.aX "held" A.gj
 fP:lW K A.aX "rows_with_falls" A.bI
 iS:lW K A.aX "turn_to" A.dv
 iN:lW K A.aX "do_deed" A.dh
 sQ:lW K A.aX "come" A.kI
 ul:lW K A.aX "put" A.nC
 AA:lW K A.aX "take" A.lK
 si:lW K A.aX "back" A.k4
 yG:lW K A.aX "again" A.jg
 ig:lW K A.aX "patterns" A.cS
 Kg:lW K A.aX "under" A.rZ
 wc:lW K A.aX "counts" A.ix
 yh:lW K A.aX "holes" A.jD
 k7:b6 K A.aX "sieve"
 bc:b6 K A.aX "state"
 qu:b6 K A.aX "ahead"
 gU:b6 K A.aX "past"
 cF:b6 K A.aX "taken_back"
 Dj:Binds K A.i4 ["lines","sieve"] [.ref A.bN]
 BR:Binds K A.lN ["self","sieve"] [.ref A.bN]
 lam:NB K mg A.cX A.Oy A.ar
section
variable {A:Ad}
theorem Ai:aC ["text","signs"] ["text","signs"] (ag (top 14)):=by refine⟨rfl,rfl,rfl,?_,rfl,?_,?_⟩<;>decide +kernel
theorem rS (T:Tx K mg A):aB P w K mg base CX0 1 A.kQ A.kz ["text","signs"] (mW K):=by
 refine T.eU.fn.ok Ai (λc H Q E h=>?_) (λ_ _ _ s H c Q E _ h=>?_)
 ·obtain⟨z,y,rfl,_⟩:=h;rfl
 ·obtain⟨z,y,rfl,d,k⟩:=h;refine⟨_,ao (aG (o4 (cM xa (pv 0) aI (aR _)) (pF (cM fX (ee Yw PySem.F.slot_str_strip PySem.F.type_str_strip Fv (pv 0) (aa (pv 1) ae)) aI (aR _))))),?_⟩;refine⟨_,rfl,rfl,_,rfl,?_⟩;have e:=Lv z y;by_cases b:z.cps.toList.isEmpty=true
  ·have a:(!decide (V.str z=V.str ""))=false:=by rw[qB,b];rfl
   rw[a,Bool.false_and]at e;rw[a,Zo UO,e];exact k
  ·have a:(!decide (V.str z=V.str ""))=true:=by rw[qB,U3.mpr b];rfl
   rw[a,V4]at e;rw[a,Zn rfl];refine⟨_,rfl,rfl,_,rfl,z,y,rfl,rfl,d.sx,rfl,?_⟩;rw[e];exact k
theorem CU:aC ["thing"] ["thing"] (ag (top 15)):=by refine⟨rfl,rfl,rfl,?_,rfl,?_,?_⟩<;>decide +kernel
theorem o6 (T:Tx K mg A):aB P w K mg base CX0 2 A.ke A.j8 ["thing"] (kU K):=by
 have c:aB P w K mg base CX0 1 _ _ _ _:=MC (rS T);refine T.gH.fn.ok CU (λa H Q E h=>?_) (λ_ _ _ s H a Q E d h=>?_)
 ·obtain⟨z,rfl,_⟩:=h;rfl
 ·obtain⟨z,rfl,b,k⟩:=h;refine⟨_,ao (aG (o4 (aP (r:=MS K) zG (by rfl) T.iB gJ (aa (pv 0) (aa (tZ (v:=.ty "str") (by rfl) T.LZ GF rfl) ae))) (pF (av c d (by rfl) T.eU.mg T.eU.fn.kp T.eU.bd .nil aA (aa (pv 0) (aa (gF (v:=.str xp) (by rfl) (YE T.yx) ⟨_,rfl⟩) ae)))))),?_⟩;refine⟨_,rfl,_,"str",_,true,rfl,.str z,by rfl,_,rfl,cq ?_⟩;refine⟨_,rfl,z,xp,rfl,b,?_⟩;rw[EZ];exact k
theorem Cm:aC ["word"] ["word"] (ag (top 16)):=by refine⟨rfl,rfl,rfl,?_,rfl,?_,?_⟩<;>decide +kernel
theorem uE (T:Tx K mg A):aB P w K mg base CX0 2 A.nO A.nc ["word"] (pE K):=by
 have d:aB P w K mg base CX0 1 _ _ _ _:=MC (rS T);refine T.kH.fn.ok Cm (λg H Q E h=>?_) (λ_ _ _ s H g Q E f h=>?_)
 ·obtain⟨z,rfl,_⟩:=h;rfl
 ·obtain⟨z,rfl,c,k⟩:=h;refine⟨_,aj (bx (cY (av d f (by rfl) T.eU.mg T.eU.fn.kp T.eU.bd .nil aA (aa (ee Yw PySem.F.slot_str_removeprefix PySem.F.type_str_removeprefix IW (pv 0) (aa aI ae)) (aa (gF (v:=.str FQ) (by rfl) (YE T.EM) ⟨_,rfl⟩) ae)))) (ao (aG aI)) aS)
   (aj (bx (cY (av d f (by rfl) T.eU.mg T.eU.fn.kp T.eU.bd .nil aA (aa (pv 0) (aa (gF (v:=.str F2) (by rfl) (YE T.tJ) ⟨_,rfl⟩) ae)))) (ao (aG aI)) aS)
   (ao (aG aI))),?_⟩
  refine⟨_,rfl,rfl,z,"-",rfl,rfl,c.sx,_,FQ,rfl,UK (FG z) c,_,rfl,?_⟩;rw[Hr,Ao];have e:dX z=if eu dig (bH z.cps.toList)=true then 0 else if eu low z.cps.toList=true then 1 else 2:=rfl;rw[e]at k;by_cases a:eu dig (bH z.cps.toList)=true
  ·rw[a,Zn rfl]at k;rw[a];exact cq k
  ·rw[Zo a]at k;rw[U3.mpr a];refine br ?_;refine⟨_,rfl,z,F2,rfl,c,_,rfl,?_⟩;rw[Jk];by_cases b:eu low z.cps.toList=true
   ·rw[Zn b]at k;rw[b];exact cq k
   ·rw[Zo b]at k;rw[U3.mpr b];exact br k
theorem BA:aC ["line"] ["line"] (ag (top 17)):=by refine⟨rfl,rfl,rfl,?_,rfl,?_,?_⟩<;>decide +kernel
theorem jd (T:Tx K mg A):aB P w K mg base CX0 1 A.gB A.fZ ["line"] (gW K):=by
 refine T.words_of.fn.ok BA (λa H Q E h=>?_) (λ_ _ _ s H a Q E _ h=>?_)
 ·obtain⟨z,rfl,_⟩:=h;rfl
 ·obtain⟨z,rfl,b,k⟩:=h;refine⟨_,ao (aG (ee Yw PySem.F.slot_str_split PySem.F.type_str_split vV (pv 0) (aa aI ae))),?_⟩;exact⟨_,rfl,rfl,z," ",rfl,rfl,by decide +kernel,UK (VR b 2) (by decide),λl c=>k l c⟩
theorem BO:aC ["part"] ["part"] (ag (top 25)):=by refine⟨rfl,rfl,rfl,?_,rfl,?_,?_⟩<;>decide +kernel
theorem iQ (T:Tx K mg A):aB P w K mg base CX0 1 A.gy A.gA ["part"] (gh K):=by
 refine T.cN.fn.ok BO (λe H Q E h=>?_) (λ_ _ _ s H e Q E _ h=>?_)
 ·obtain⟨v,b,rfl,_⟩:=h;rfl
 ·obtain⟨v,b,rfl,d,k⟩:=h;obtain⟨a,x,y,rfl,f,_,_,c⟩:=qV d;refine⟨_,ao (aG (cM fX (bj (r:=lY K) d5 (pv 0) au (λ_ _=>rfl)) aI (aR _))),?_⟩;refine⟨_,rfl,a,_,0,_,rfl,rfl,f,rfl,rfl,?_⟩;cases b with
  | word w=>
   obtain⟨rfl,_⟩:=c;rw[Zl (by decide)];exact k
  | hole m=>
   obtain⟨rfl,_⟩:=c;rw[Zk rfl];exact k
theorem wG:aC ["part","word"] ["part","word"] (ag (top 26)):=by refine⟨rfl,rfl,rfl,?_,rfl,?_,?_⟩<;>decide +kernel
theorem wH (T:Tx K mg A):aB P w K mg base CX0 3 A.kT A.kA ["part","word"] (oA K):=by
 have u:aB P w K mg base CX0 2 _ _ _ _:=MC (iQ T);have q:aB P w K mg base CX0 2 _ _ _ _:=MC (o6 T);have n:aB P w K mg base CX0 2 _ _ _ _:=MC (uE T);refine T.lC.fn.ok wG (λz H Q E h=>?_) (λ_ _ _ s H z Q E d h=>?_)
 ·obtain⟨v,x,p,rfl,_⟩:=h;rfl
 ·obtain⟨v,x,p,rfl,g,c,i,k⟩:=h;obtain⟨a,_,j,t,f,_,_,l⟩:=qV g;refine⟨_,aj (bx (ia (cY (av u d (by rfl) T.cN.mg T.cN.fn.kp T.cN.bd .nil aA (aa (pv 0) ae)))) (ao (aG (cM fX (pv 1) (bj (r:=lY K) d5 (pv 0) au (λ_ _=>rfl)) (aR _)))) aS)
   (aj (bx (aO fX (bj (r:=lY K) d5 (pv 0) au (λ_ _=>rfl)) aI (aR _)) (ao (aG (av q d (by rfl) T.gH.mg T.gH.fn.kp T.gH.bd .nil aA (aa (pv 1) ae)))) aS)
   (ao (aG (cM fX (av n d (by rfl) T.kH.mg T.kH.fn.kp T.kH.bd .nil aA (aa (pv 1) ae)) (bj (r:=lY K) d5 (pv 0) au (λ_ _=>rfl)) (aR _))))),?_⟩
  refine⟨_,rfl,v,p,rfl,g,_,rfl,?_⟩;subst t;cases p with
  | word y=>
   obtain⟨rfl,rfl⟩:=l;refine cq ⟨_,rfl,_,rfl,a,_,1,_,rfl,rfl,f,rfl,rfl,?_⟩;have e:decide (V.str x=V.str j)=(Pt.word j).takes x:=by
    rw[Va];simp[Pt.takes]
   rw[e];exact k
  | hole m=>
   obtain⟨rfl,rfl⟩:=l;have o:m<3:=c;refine br ?_;refine⟨_,rfl,a,_,1,_,rfl,rfl,f,rfl,rfl,_,rfl,?_⟩;rw[By o];by_cases b:m=2
   ·rw[Zk b];refine cq ?_;subst b;exact⟨_,rfl,x,rfl,i,k⟩
   ·rw[Zl b];refine br ?_;refine⟨_,rfl,x,rfl,i,_,rfl,a,_,1,_,rfl,rfl,f,rfl,rfl,?_⟩;have e:(Pt.hole m).takes x=decide (dX x=m):=by
     have:m=0\/m=1:=by lia
     rcases this with rfl | rfl <;> rfl
    rw[EK (k:=m) (by lia),<-e];exact k
theorem kq:aC ["parts","words","part","word"] ["parts","words"] (ag (top 27)):=by refine⟨rfl,rfl,rfl,?_,rfl,?_,?_⟩<;>decide +kernel
theorem yJ (T:Tx K mg A):aB P w K mg base CX0 4 A.ma A.mK ["parts","words"] (qK K):=by
 have Y:aB P w K mg base CX0 3 _ _ _ _:=MC (wH T);refine T.nz.fn.ok kq (λvs H Q E h=>?_) (λ_ _ _ s H vs Q E hr h=>?_)
 ·obtain⟨a,b,xs,ps,d,rfl,_⟩:=h;rfl
 ·obtain⟨a,b,xs,ps,d,rfl,R,C,M,m,L,k⟩:=h;have f:xs.length=ps.length:=by rw[C.length,UA]
  refine⟨_,aj (bx (aO xa (aP (r:=dU K) bg (by rfl) T.c6 Yb (aa (pv 0) ae)) (aP (r:=dU K) bg (by rfl) T.c6 Yb (aa (pv 1) ae)) (aR _)) (ao (aG sZ)) aS)
   (aj (g9 Yx rfl (zi (by rfl) T.BI (aa (pv 0) (aa (pv 1) ae))) (fG rfl (ba (ay (i:=2) kq.nd rfl (Or.inl rfl)) (ba (ay (i:=3) kq.nd rfl (Or.inl rfl)) dO))) (ao (bx (ia (cY (av Y hr (by rfl) T.lC.mg T.lC.fn.kp T.lC.bd .nil aA (aa (pv 2) (aa (pv 3) ae))))) (ao (aG sZ)) aS)))
   (ao (aG sZ))),?_⟩
  refine⟨_,rfl,a,xs,rfl,.inl R,_,rfl,b,_,rfl,.inl m,rfl,_,rfl,?_⟩;rw[UA];by_cases G:ps.length=d.length
  ·have e:decide (V.int (xs.length:Int)=V.int (d.length:Int))=true:=Zk (by rw[f,G]);rw[e];refine br ?_;refine⟨_,rfl,_,rfl,a,b,rfl,⟨_,R⟩,⟨_,m⟩,?_⟩;refine DY (K:=K) (xs:=xs) (ys:=d.map V.str) (λi I o=>(∃u v,I=[some (.ref a),some (.ref b),u,v])/\af H o/\∀(j:Nat) p x,j<i->ps[j]? = some p->d[j]? = some x->p.takes x=true) ⟨⟨_,_,rfl⟩,af.refl _,λj p x U=>absurd U (Nat.not_lt_zero _)⟩ (λi I o q=>⟨q.2.1.seq R,q.2.1.seq m⟩) (λi x y I o t J Z q W=>?_) (λI o q=>?_)
   ·obtain⟨B,D,N⟩:=q;apply zo B;clear B;intro u v;obtain⟨p,z,cx⟩:=lh C J;obtain⟨F,l,rfl⟩:=e7 Z;have O:af o (upd o t (.tup [x,.str F])):=af.new W;refine⟨t,_,rfl,.of ab,rfl,_,_,rfl,_,_,rfl,rfl,?_⟩;refine⟨_,rfl,_,rfl,x,F,p,rfl,cx.same (D.trans O),M p (UC z),L F (UC l),_,rfl,?_⟩;by_cases c:p.takes F = true
    ·rw[c];refine br ⟨⟨_,_,rfl⟩,D.trans O,λj p2 x2 U n g=>?_⟩;rcases Vs j i with q | q
     ·exact N j p2 x2 q n g
     ·have:j=i:=by lia
      subst this;rw[z]at n;cases n;rw[l]at g;cases g;exact c
    ·rw[U3.mpr c];refine cq ?_;have S:a8 ps d=false:=by
      unfold a8;rw[Jn z l (U3.mpr c),Wz]
     have:=k _ (D.trans O);rw[S]at this;exact this
   ·obtain⟨B,D,N⟩:=q;apply zo B;clear B;intro u v;have S:a8 ps d=true:=by
     unfold a8;rw[Zk G,V4];refine Ef λi p x X z J=>N i p x ?_ z J;rw[UA,f];exact X
    have:=k _ D;rw[S]at this;exact this
  ·have e:decide (V.int (xs.length:Int)=V.int (d.length:Int))=false:=Zl (λq=>G (by rw[f]at q;injection q with q;lia));rw[e];refine cq ?_;have:=k H (af.refl _);rw[Fd G]at this;exact this
theorem Kx:aC ["pattern","line"] ["pattern","line"] (ag (top 28)):=by refine⟨rfl,rfl,rfl,?_,rfl,?_,?_⟩<;>decide +kernel
theorem DT (T:Tx K mg A):aB P w K mg base CX0 5 A.yI A.xX ["pattern","line"] (ye K):=by
 have n:aB P w K mg base CX0 4 _ _ _ _:=MC (yJ T);have t:aB P w K mg base CX0 4 _ _ _ _:=MC (jd T);refine T.fits.fn.ok Kx (λy H Q E h=>?_) (λ_ _ _ s H y Q E j h=>?_)
 ·obtain⟨v,z,g,rfl,_⟩:=h;rfl
 ·obtain⟨v,z,g,rfl,m,c,i,b,k⟩:=h;obtain⟨a,p,r,B,d⟩:=gG m;refine⟨_,ao (aG (av n j (by rfl) T.nz.mg T.nz.fn.kp T.nz.bd .nil aA (aa (pv 0) (aa (av t j (by rfl) T.words_of.mg T.words_of.fn.kp T.words_of.bd .nil aA (aa (pv 1) ae)) ae)))),?_⟩;subst r;have f:LOk z:=i;refine⟨_,rfl,_,rfl,z,rfl,i,λl q=>?_⟩;have e:af H (upd H l (.lst ((Y4 z " ").map V.str))):=af.new q;exact⟨a,l,p,g,Y4 z " ",rfl,e.seq B,d.same e,c,.of ab,λx u=>UK (uC b x u).2 f,λo C=>k o (e.trans C)⟩
theorem fQ:aC ["part","kind"] ["part"] (ag (top 29)):=by refine⟨rfl,rfl,rfl,?_,rfl,?_,?_⟩<;>decide +kernel
theorem kX (T:Tx K mg A):aB P w K mg base CX0 3 A.dC A.dA ["part"] (fT K):=by
 have t:aB P w K mg base CX0 2 _ _ _ _:=MC (iQ T);have n:aB P w K mg base CX0 2 _ _ _ _:=MC (uE T);refine T.cQ.fn.ok fQ (λu H Q E h=>?_) (λ_ _ _ s H u Q E j h=>?_)
 ·obtain⟨v,p,rfl,_⟩:=h;rfl
 ·obtain⟨v,p,rfl,c,b,k⟩:=h;obtain⟨a,_,y1,f,l,_,_,g⟩:=qV c;refine⟨_,aj (bx (cY (av t j (by rfl) T.cN.mg T.cN.fn.kp T.cN.bd .nil aA (aa (pv 0) ae))) (ao (aG (bj (r:=lY K) d5 (pv 0) au (λ_ _=>rfl)))) aS)
   (aj (bh (i:=1) fQ.nd rfl (Or.inl rfl) (av n j (by rfl) T.kH.mg T.kH.fn.kp T.kH.bd .nil aA (aa (bj (r:=lY K) d5 (pv 0) au (λ_ _=>rfl)) ae)))
   (ao (aG (jT (aO (r:=rIn K false) xK (pv 1) (gF (v:=.ref A.b7) (by rfl) T.kW rfl) (by rfl)) (pv 1) aI)))),?_⟩
  refine⟨_,rfl,v,p,rfl,c,_,rfl,?_⟩;cases p with
  | hole m=>
   obtain⟨rfl,rfl⟩:=g;subst f;exact cq ⟨_,rfl,a,_,1,_,rfl,rfl,l,rfl,k⟩
  | word y=>
   obtain⟨rfl,rfl⟩:=g;subst f;refine br ?_;have q:TOk y1:=b;refine⟨_,rfl,a,_,1,_,rfl,rfl,l,rfl,y1,rfl,q.1,?_⟩;refine⟨_,rfl,A.b7,_,rfl,.inr (T.li _),rfl,rfl,_,rfl,?_⟩;have o:∀i<3,(inV (.str (mw i)) [.str "number",.str "name",.str "any"])=decide (i<2):=by decide +kernel
   rw[Zo UO,o _ (AL _)];dsimp only;by_cases d:dX y1<2
   ·rw[Zk d];refine cq ⟨_,rfl,?_⟩;have e:mw (dX y1)=cK (Pt.word y1).around:=by
     show mw (dX y1)=cK (dX y1);have:dX y1=0\/dX y1=1:=by lia
     rcases this with e | e <;> rw[e] <;> rfl
    rw[e];exact k
   ·rw[Zl d];refine br ?_;have e:cK (Pt.word y1).around = "any" :=by
     show cK (dX y1) = "any";have x:=AL y1;have:dX y1=2:=by lia
     rw[this];rfl
    rw[e]at k;exact k
theorem mR:aC ["part"] ["part"] (ag (top 46)):=by refine⟨rfl,rfl,rfl,?_,rfl,?_,?_⟩<;>decide +kernel
theorem mY (T:Tx K mg A):aB P w K mg base CX0 2 A.eD A.eC ["part"] (gX K):=by
 have i:aB P w K mg base CX0 1 _ _ _ _:=MC (iQ T);refine T.dJ.fn.ok mR (λn H Q E h=>?_) (λ_ _ _ s H n Q E l h=>?_)
 ·obtain⟨v,p,rfl,_⟩:=h;rfl
 ·obtain⟨v,p,rfl,d,c,k⟩:=h;obtain⟨a,_,_,g,o,_,_,j⟩:=qV d;refine⟨_,aj (bx (ia (cY (av i l (by rfl) T.cN.mg T.cN.fn.kp T.cN.bd .nil aA (aa (pv 0) ae)))) (ao (aG au)) aS)
   (ao (aG (jT (aO fX (bj (r:=lY K) d5 (pv 0) au (λ_ _=>rfl)) aI (aR _)) au au))),?_⟩
  refine⟨_,rfl,v,p,rfl,d,_,rfl,?_⟩;cases p with
  | word y=>exact cq k
  | hole m=>
   obtain⟨rfl,rfl⟩:=j;subst g;refine br ?_;have f:m<3:=c;refine⟨_,rfl,a,_,1,_,rfl,rfl,o,rfl,rfl,_,rfl,?_⟩;rw[By f];by_cases b:m=2
   ·rw[Zk b];subst b;exact cq k
   ·rw[Zl b];refine br ?_;have e:(Pt.hole m).loose=1:=by
     have:m=0\/m=1:=by lia
     rcases this with rfl | rfl <;> rfl
    rw[e]at k;exact k
theorem yt:aC ["pattern"] ["pattern"] (ag (top 47)):=by refine⟨rfl,rfl,rfl,?_,rfl,?_,?_⟩<;>decide +kernel
theorem y8 (T:Tx K mg A):aB P w K mg base CX0 3 A.ml A.l4 ["pattern"] (qe K):=by
 have I:aB P w K mg base CX0 2 _ _ _ _:=MC (mY T);refine T.qX.fn.ok yt (λL H Q E h=>?_) (λ_ _ _ s H L Q E J h=>?_)
 ·obtain⟨v,ps,rfl,_⟩:=h;rfl
 ·obtain⟨v,ps,rfl,B,f,k⟩:=h;obtain⟨a,xs,F,z,j⟩:=gG B;have C:xs.length=ps.length:=by rw[j.length,UA]
  have M:=f.1;refine⟨_,ao (aG (aY (N':=["part"]) (n:=1) (fi:=[]) (g:=aZ 0) rfl (bf (ag (top 47)) ["pattern"] (by decide +kernel)) (aT (pv 0)) (λs H t=>ay (i:=0) (nT _) rfl (Or.inl rfl) (.inr rfl)) (λs H t=>aV) (λs H t=>av I J (by rfl) T.dJ.mg T.dJ.fn.kp T.dJ.bd .nil aA (aa (pv 0) ae)))),?_⟩;subst F;refine⟨_,rfl,a,rfl,⟨_,z⟩,λD o=>?_⟩;refine aK (K:=K) (xs:=xs) (λi b l e=>(∃u,l=[u])/\af H e/\b=(ps.take i).map λp=>V.int p.loose) ab ⟨⟨_,rfl⟩,af.new o,rfl⟩ (λi b l e _ _ q=>q.2.1.seq z) (λi x b l e G c q=>?_) (λb l e c q=>?_)
  ·obtain⟨y,m,rfl⟩:=q;apply cU y;clear y;intro u;obtain⟨p,d,r⟩:=lh j G;have N:=aH d;refine cB ⟨_,rfl,x,p,rfl,r.same m,f.2 p (UC d),?_⟩;refine⟨_,c,small (by simp only[UA,UT];lia),_,ab,⟨_,rfl⟩,ax o m,?_⟩;rw[ed d]
  ·obtain⟨_,m,rfl⟩:=q;rw[UP (by lia)]at c;exact k D e o m c
theorem mT:aC ["parts","kinds"] ["parts"] (ag (top 30)):=by refine⟨rfl,rfl,rfl,?_,rfl,?_,?_⟩<;>decide +kernel
theorem ud (T:Tx K mg A):aB P w K mg base CX0 4 A.jQ A.jO ["parts"] (l6 K):=by
 have lX:aB P w K mg base CX0 3 _ _ _ _:=MC (kX T);refine T.jk.fn.ok mT (λvs H Q E h=>?_) (λ_ _ _ s H vs Q E hr h=>?_)
 ·obtain⟨a,xs,ps,rfl,_⟩:=h;rfl
 ·obtain⟨a,xs,ps,rfl,G,o,a4,f,k⟩:=h;have Z:xs.length=ps.length:=by rw[o.length,UA]
  have a5:=f.1;obtain⟨p0,pr,rfl⟩:∃p0 pr,ps=p0::pr:=by
   cases ps with
   | nil=>exact(a4 rfl).elim
   | cons p r=>exact⟨p,r,rfl⟩
  obtain⟨y,xr,rfl⟩:∃y xr,xs=y::xr:=by
   cases xs with
   | nil=>simp at Z
   | cons x r=>exact⟨x,r,rfl⟩
  have N:Den K H y p0.dat:=by cases o with | cons h1 _=>exact h1
  have O5:p0.ok:=f.2 p0 (UM ..);refine⟨_,aj (bx (cY (aP (r:=EJ K) (mq rfl) (by rfl) T.zE vM (aa (aY (N':=["part","parts"]) (n:=1) (fi:=[0]) (g:=aZ 0) rfl (bf (ag (top 30)) ["parts","kinds"] (by decide +kernel)) (aT (pv 0)) (λs H v=>ay (i:=0) (show(["part","parts"]:Uq).Nodup by decide +kernel) rfl (Or.inl rfl) (.inr rfl)) (λs H v=>aV) (λs H v=>cM (r:=vI K) (m4 hr) (pv 0) (bj (r:=ff K) bi (pv 1) au (λ_ _=>rfl)) (aR _))) ae))) (ao (aG (bj (r:=ff K) bi (pv 0) au (λ_ _=>rfl)))) aS)
   (aj (bh (i:=1) mT.nd rfl (Or.inr rfl) (aY (N':=["part"]) (n:=1) (fi:=[]) (g:=aZ 0) rfl (bf (ag (top 30)) ["parts","kinds"] (by decide +kernel)) (aT (pv 0)) (λs H v=>ay (i:=0) (nT _) rfl (Or.inl rfl) (.inr rfl)) (λs H v=>aV) (λs H v=>av lX hr (by rfl) T.cQ.mg T.cQ.fn.kp T.cQ.bd .nil aA (aa (pv 0) ae))))
   (aj (bx (cY (aP (r:=EJ K) (mq rfl) (by rfl) T.zE vM (aa (aY (N':=["kind","kinds"]) (n:=1) (fi:=[1]) (g:=aZ 0) rfl (bf (ag (top 30)) ["parts","kinds"] (by decide +kernel)) (aT (pv 1)) (λs H v=>ay (i:=0) (show(["kind","kinds"]:Uq).Nodup by decide +kernel) rfl (Or.inl rfl) (.inr rfl)) (λs H v=>aV) (λs H v=>cM fX (pv 0) (bj (r:=ff K) bi (pv 1) au (λ_ _=>rfl)) (aR _))) ae))) (ao (aG (bZ (aa aI (aa (bj (r:=ff K) bi (pv 1) au (λ_ _=>rfl)) ae))))) aS)
   (ao (aG (bZ (aa aI (aa aI ae))))))),?_⟩
  refine⟨_,rfl,a,rfl,⟨_,G⟩,λD hD=>?_⟩;refine aK (K:=K) (xs:=y::xr) (λi b d F=>(∃u,d=[u,some (.ref a)])/\af H F/\b=(((p0::pr).take i).map λp=>decide (p=p0)).map V.bl) ab ⟨⟨_,rfl⟩,af.new hD,rfl⟩ (λi b d F _ _ q=>q.2.1.seq G) (λi x b d F m l q=>?_) (λb d F l q=>?_)
  ·obtain⟨z,e,rfl⟩:=q;apply cU z;clear z;intro u;obtain⟨p,c,B⟩:=lh o m;have hi:=aH c;refine cB ⟨_,rfl,_,rfl,a,_,0,y,rfl,rfl,e.seq G,dE (j:=0) rfl,_,_,B.same e,N.same e,UK (DC _) (by decide),?_⟩;rw[NP (f.2 p (UC c)) O5];refine⟨_,l,small (by simp only[UA,UT];lia),_,ab,⟨_,rfl⟩,ax hD e,?_⟩;rw[ed c,UL];rfl
  ·obtain⟨_,e,rfl⟩:=q;rw[UP (by lia)]at l;refine⟨D,_,rfl,.of l,_,rfl,?_⟩;have e1:(((p0::pr).map λp=>decide (p=p0)).all id)=pr.all λq=>decide (q=p0):=by
    rw[List.all_map,Wp];simp
   rw[e1];have ej:jl (p0::pr)=if pr.all (λq=>decide (q=p0))=true then p0 else if pr.all (λq=>decide (q.around=p0.around))=true then .hole p0.around else .hole 2:=rfl;by_cases R:pr.all (λq=>decide (q=p0))=true
   ·rw[R];refine cq ⟨_,rfl,a,_,0,y,rfl,rfl,e.seq G,dE (j:=0) rfl,k y F e ?_⟩;rw[ej,Zn R];exact N.same e
   ·rw[U3.mpr R];refine br ?_;refine⟨_,rfl,a,rfl,⟨_,e.seq G⟩,λW O=>?_⟩;refine aK (K:=K) (xs:=y::xr) (λi b d J=>(∃u,d=[u])/\af F J/\b=((p0::pr).take i).map λp=>V.str (cK p.around)) ab ⟨⟨_,rfl⟩,af.new O,rfl⟩ (λi b d J _ _ q=>(e.trans q.2.1).seq G) (λi x b d J m C q=>?_) (λb d J C q=>?_)
    ·obtain⟨z,Y,rfl⟩:=q;apply cU z;clear z;intro u;obtain⟨p,c,B⟩:=lh o m;have hi:=aH c;refine cB ⟨_,rfl,x,p,rfl,B.same (e.trans Y),f.2 p (UC c),?_⟩;refine⟨_,C,small (by simp only[UA,UT];lia),_,ab,⟨_,rfl⟩,ax O Y,?_⟩;rw[ed c]
    ·obtain⟨_,Y,rfl⟩:=q;rw[UP (by lia)]at C;have a3:=e.trans Y;refine⟨_,rfl,W,rfl,⟨_,.of C⟩,λD4 M=>?_⟩;refine aK (K:=K) (xs:=(p0::pr).map λp=>V.str (cK p.around)) (λi b d U=>(∃u,d=[u,some (.ref W)])/\af J U/\b=(((p0::pr).take i).map λp=>decide (p.around=p0.around)).map V.bl) ab ⟨⟨_,rfl⟩,af.new M,rfl⟩ (λi b d U _ _ q=>.of (q.2.1 _ _ C)) (λi x b d U m X q=>?_) (λb d U X q=>?_)
     ·obtain⟨z,I,rfl⟩:=q;apply cU z;clear z;intro u;rw[UI]at m;cases c:(p0::pr)[i]? with
      | none=>rw[c]at m;cases m
      | some p=>
       rw[c]at m;cases m;have hi:=aH c;refine cB ⟨_,rfl,_,rfl,W,_,0,V.str (cK p0.around),rfl,rfl,.of (I _ _ C),dE (j:=0) rfl,rfl,?_⟩;have e2:decide (V.str (cK p.around)=V.str (cK p0.around))=decide (p.around=p0.around):=by
        rw[Va,decide_eq_true_eq,decide_eq_true_eq];exact⟨λh=>xv (qQ (f.2 p (UC c))) (qQ O5) (by injection h),λh=>by rw[h]⟩
       rw[e2];refine⟨_,X,small (by simp only[UA,UT];lia),_,ab,⟨_,rfl⟩,ax M I,?_⟩;rw[ed c,UL];rfl
     ·obtain⟨_,I,rfl⟩:=q;have a0:((p0::pr).map λp=>V.str (cK p.around)).length=(p0::pr).length:=by rw[UA]
      rw[a0,UP (UD _)]at X;refine⟨D4,_,rfl,.of X,_,rfl,?_⟩;have e3:(((p0::pr).map λp=>decide (p.around=p0.around)).all id)=pr.all λq=>decide (q.around=p0.around):=by
       rw[List.all_map,Wp];simp
      rw[e3];have L:=a3.trans I;by_cases S:pr.all (λq=>decide (q.around=p0.around))=true
      ·rw[S];refine cq ⟨_,rfl,W,_,0,V.str (cK p0.around),rfl,rfl,.of (I _ _ C),dE (j:=0) rfl,(by show 2<=Zg;decide),λt ht=>?_⟩;refine k _ _ (L.trans (af.new ht)) ?_;rw[ej,Zo R,Zn S];exact .tup (.of ab) (.cons (.str (by decide +kernel)) (.cons (.str uc) .nil))
      ·rw[U3.mpr S];refine br ⟨(by show 2<=Zg;decide),λt ht=>?_⟩;refine k _ _ (L.trans (af.new ht)) ?_;rw[ej,Zo R,Zo S];exact .tup (.of ab) (.cons (.str (by decide +kernel)) (.cons (.str (by decide +kernel)) .nil))
theorem xV:aC ["patterns","width"] ["patterns"] (ag (top 31)):=by refine⟨rfl,rfl,rfl,?_,rfl,?_,?_⟩<;>decide +kernel
theorem Fb (T:Tx K mg A):aB P w K mg base CX0 5 A.uJ A.vz ["patterns"] (xI K):=by
 have v7:aB P w K mg base CX0 4 _ _ _ _:=MC (ud T);refine T.joined.fn.ok xV (λvs H Q E h=>?_) (λ_ _ _ s H vs Q E hr h=>?_)
 ·obtain⟨a,xs,pss,n,rfl,_⟩:=h;rfl
 ·obtain⟨a,xs,pss,n,rfl,X,B,a8,ar,l,k⟩:=h;have b2:xs.length=pss.length:=by rw[B.length,UA]
  have Pb:0<pss.length:=Wn.mpr a8;obtain⟨x0,Z⟩:∃x0,xs[0]? = some x0:=⟨_,UB (by lia)⟩;obtain⟨N,MR,aq⟩:=dR B Z;obtain⟨a0,a4,rfl,b1,Sy⟩:=gG aq;have ah:a4.length=n:=by rw[Sy.length,UA];exact(l N (UC MR)).2
  have b4:n<=10000:=by rw[<-(l N (UC MR)).2];exact(l N (UC MR)).1.1
  refine⟨_,aj (bx (aO fX (aP (r:=dU K) bg (by rfl) T.c6 Yb (aa (pv 0) ae)) au (aR _)) (ao dg) aS)
   (aj (bh (i:=1) xV.nd rfl (Or.inr rfl) (aP (r:=dU K) bg (by rfl) T.c6 Yb (aa (bj (r:=ff K) bi (pv 0) au (λ_ _=>rfl)) ae)))
   (aj (bx (cY (aP (r:=PY K) (Ji rfl) (by rfl) T.Pe NI (aa (aY (N':=["pattern","width"]) (n:=1) (fi:=[1]) (g:=aZ 0) rfl (bf (ag (top 31)) ["patterns","width"] (by decide +kernel)) (aT (pv 0)) (λs H F=>ay (i:=0) (show(["pattern","width"]:Uq).Nodup by decide +kernel) rfl (Or.inl rfl) (.inr rfl)) (λs H F=>aV) (λs H F=>cM xa (aP (r:=dU K) bg (by rfl) T.c6 Yb (aa (pv 0) ae)) (pv 1) (aR _))) ae))) (ao dg) aS)
   (ao (aG (aY (N':=["at","patterns"]) (n:=1) (fi:=[0]) (g:=aZ 0) rfl (bf (ag (top 31)) ["patterns","width"] (by decide +kernel)) (fq (by rfl) T.jB (aa (pv 1) ae)) (λs H F=>ay (i:=0) (show(["at","patterns"]:Uq).Nodup by decide +kernel) rfl (Or.inr rfl) (.inl rfl)) (λs H F=>aV) (λs H F=>av v7 hr (by rfl) T.jk.mg T.jk.fn.kp T.jk.bd .nil aA (aa (aY (wi:=zZ K (rD 1)) (N':=["pattern","at"]) (n:=1) (fi:=[0]) (g:=aZ 0) rfl (tU (ag (top 31)) (by decide +kernel)) (aT (pv 1)) (λs H F=>ay (i:=0) (show(["pattern","at"]:Uq).Nodup by decide +kernel) rfl (Or.inl rfl) (.inr rfl)) (λs H F=>aV) (λs H F=>bj (r:=ff K) bi (pv 0) (pv 1) (λ_ _=>rfl))) ae))))))),?_⟩
  refine⟨_,rfl,a,xs,rfl,.inl X,rfl,_,rfl,?_⟩;have e0:decide (V.int (xs.length:Int)=V.int 0)=false:=Zl (λq=>by injection q with q;lia);rw[e0];refine br ?_;refine⟨_,rfl,a,xs,0,_,rfl,rfl,X,dE (j:=0) Z,a0,a4,rfl,.inl b1,?_⟩;rw[ah];refine⟨_,rfl,a,rfl,⟨_,X⟩,λD hD=>?_⟩;refine aK (K:=K) (xs:=xs) (λi c f C=>(∃u,f=[u,some (.int n)])/\af H C/\c=((pss.take i).map λ_=>false).map V.bl) ab ⟨⟨_,rfl⟩,af.new hD,rfl⟩ (λi c f C _ _ q=>q.2.1.seq X) (λi x c f C hx J q=>?_) (λc f C J q=>?_)
  ·obtain⟨G,L,rfl⟩:=q;apply cU G;clear G;intro u;obtain⟨ps,e,I⟩:=dR B hx;obtain⟨ai,yi,rfl,O,R⟩:=gG I;have hi:=aH e;have a9:yi.length=n:=by rw[R.length,UA];exact(l ps (UC e)).2
   refine cB ⟨_,rfl,ai,yi,rfl,.inl (L.seq O),_,rfl,rfl,?_⟩;rw[a9,Zk rfl];refine⟨_,J,small (by simp only[UA,UT];lia),_,ab,⟨_,rfl⟩,ax hD L,?_⟩;rw[ed e,UL];rfl
  ·obtain⟨_,L,rfl⟩:=q;refine⟨D,_,rfl,.of J,_,rfl,?_⟩;have e1:(((pss.take xs.length).map λ_=>false).any id)=false:=by
    rw[U3];intro q;obtain⟨b,hb,ap⟩:=Vz.mp q;obtain⟨_,_,rfl⟩:=UE.mp hb;cases ap
   rw[e1];refine br ?_;refine⟨_,rfl,n,rfl,by lia,by lia,λD3 M=>?_⟩;have a6:af C (upd C D3 (.lst [])):=af.new M;refine iT (λi c f W=>(∃u,f=[u,some (.ref a)])/\af C W/\aD K (lim (upd C D3 (.lst [])) W) c ((bw pss i).map Pt.dat)) ab ⟨⟨_,rfl⟩,a6,.nil⟩ (λi c f W hi S q=>?_) (λc f W S q=>?_)
   ·obtain⟨G,s4,Y⟩:=q;apply cU G;clear G;intro u;have b5:i<n:=by simpa using hi
    have b3:c.length=i:=by rw[Y.length,UA];simp[bw]
    have v:=L.trans s4;refine cB ?_;refine⟨_,rfl,a,rfl,⟨_,v.seq X⟩,λD5 a3=>?_⟩;refine aK (K:=K) (xs:=xs) (λm U f H5=>(∃u,f=[u,some (.int (0+(i:Int)))])/\af W H5/\aD K H U (((pss.take m).map λps=>ps.getD i (.hole 2)).map Pt.dat)) ab ⟨⟨_,rfl⟩,af.new a3,.nil⟩ (λm U f H5 _ _ q=>(v.trans q.2.1).seq X) (λm x U f H5 hx NK q=>?_) (λU f H5 NK q=>?_)
    ·obtain⟨G,s5,o⟩:=q;apply cU G;clear G;intro u;obtain⟨ps,e,I⟩:=dR B hx;obtain⟨ai,yi,rfl,O,R⟩:=gG I;have hm:=aH e;have a7:=(l ps (UC e)).2;have ak:ps[i]? = some (ps.getD i (.hole 2)):=by
      rw[UB (by lia)];simp[YA,UB (show i<ps.length by lia)]
     obtain⟨y,hy,b0⟩:=R.getD (i:=i) (d:=(ps.getD i (.hole 2)).dat) (by rw[UI,ak];rfl);have Ut:U.length=m:=by rw[o.length,UA,UA,UT];lia
     refine cB ⟨_,rfl,_,rfl,ai,yi,_,y,rfl,rfl,(v.trans s5).seq O,?_,U,NK,small (by lia),_,ab,⟨_,rfl⟩,ax a3 s5,?_⟩
     ·rw[Int.zero_add];exact dE hy
     ·rw[ed e,UL];exact o.append (.cons b0 .nil)
    ·obtain⟨_,s5,o⟩:=q;rw[UP (by lia)]at o;have aw:=v.trans s5;refine⟨D5,U,pss.map (λps=>ps.getD i (.hole 2)),rfl,.of NK,o.same aw,by intro z;exact a8 (VC.mp z),⟨by rw[UA];exact ar,λp hp=>?_⟩,λr H6 s6 dr=>?_⟩
     ·obtain⟨ps,as,rfl⟩:=UE.mp hp;have a7:=l ps as;have az:i<ps.length:=by lia
      have:ps.getD i (.hole 2)∈ps:=by simp[YA,UB az]
      exact a7.1.2 _ this
     ·have t:=s5.trans s6;have a5:H6 D3=some (.lst c):=t _ _ S;refine⟨c,a5,small (by lia),_,ab,⟨_,rfl⟩,ax M (s4.trans t),?_⟩;rw[qM (ys:=[]) ab,za,UL];exact(Y.same (c7 t)).append (.cons (J1 (JG (s4.trans t) a5) (af.refl _) dr) .nil)
   ·obtain⟨_,s4,Y⟩:=q;refine k D3 c W (L.free M) (L.trans s4) S ?_;have e3:(n:Int).toNat=n:=VF n;rw[e3]at Y;exact Y.same (fN (L.trans a6).ll)
theorem Ak:aC ["word"] ["word"] (ag (top 19)):=by refine⟨rfl,rfl,rfl,?_,rfl,?_,?_⟩<;>decide +kernel
theorem sR (T:Tx K mg A):aB P w K mg base CX0 1 A.k9 A.lz ["word"] (mE K):=by
 refine T.j7.fn.ok Ak (λb H Q E h=>?_) (λ_ _ _ s H b Q E _ h=>?_)
 ·obtain⟨x,rfl,_⟩:=h;rfl
 ·obtain⟨x,rfl,c,k⟩:=h;refine⟨_,ao (aG (bZ (aa (aP qc (by rfl) T.c6 Yb (aa (pv 0) ae)) (aa (pv 0) ae)))),?_⟩;exact⟨_,rfl,x,rfl,c.sx,_,rfl,(by show 2<=Zg;decide),λp a=>k p a⟩
theorem mf:aC ["part","length","text"] ["part"] (ag (top 32)):=by refine⟨rfl,rfl,rfl,?_,rfl,?_,?_⟩<;>decide +kernel
theorem AE (T:Tx K mg A):aB P w K mg base CX0 2 A.ph A.oU ["part"] (sV K):=by
 have u:aB P w K mg base CX0 1 _ _ _ _:=MC (iQ T);have t:aB P w K mg base CX0 1 _ _ _ _:=MC (sR T);refine T.qg.fn.ok mf (λB H Q E h=>?_) (λ_ _ _ s H B Q E o h=>?_)
 ·obtain⟨v,f,rfl,_⟩:=h;rfl
 ·obtain⟨v,f,rfl,g,c,k⟩:=h;obtain⟨a,x,y,l,q,_,_,n⟩:=qV g;refine⟨_,aj (bx (cY (av u o (by rfl) T.cN.mg T.cN.fn.kp T.cN.bd .nil aA (aa (pv 0) ae))) (ao (aG (bZ (aa au (aa (ee (r:=Ho K) PySem.F.plainAttrs_tuple PySem.F.slot_tuple_index PySem.F.type_tuple_index JJ (gF (v:=.ref A.b7) (by rfl) T.kW rfl) (aa (bj (r:=lY K) d5 (pv 0) au (λ_ _=>rfl)) ae)) (aa aI ae)))))) aS)
   (aj (rm (av t o (by rfl) T.j7.mg T.j7.fn.kp T.j7.bd .nil aA (aa (bj (r:=lY K) d5 (pv 0) au (λ_ _=>rfl)) ae)) (fG rfl (ba (ay (i:=1) mf.nd rfl (Or.inl rfl)) (ba (ay (i:=2) mf.nd rfl (Or.inl rfl)) dO))))
   (ao (aG (bZ (aa au (aa (pv 1) (aa (pv 2) ae))))))),?_⟩
  refine⟨_,rfl,v,f,rfl,g,_,rfl,?_⟩;cases f with
  | hole m=>
   obtain⟨rfl,rfl⟩:=n;refine cq ?_;subst l;have e:m<3:=c;refine⟨.inr (.inl ⟨rfl,T.yv⟩),_,rfl,a,_,1,_,rfl,rfl,q,rfl,A.b7,_,_,m,rfl,rfl,T.li _,rfl,KR,e,NF e,QM e,(by show 3<=Zg;decide),λp b=>?_⟩;exact k _ _ (af.new b) (.tup (.of ((iq b).trans ab)) (.cons (.int 1) (.cons (.int _) (.cons (.str (by decide +kernel)) .nil))))
  | word z=>
   obtain⟨rfl,rfl⟩:=n;refine br ?_;subst l;have j:TOk y:=c;refine⟨_,rfl,a,_,1,_,rfl,rfl,q,rfl,y,rfl,j.1,λp b=>?_⟩;refine⟨p,_,rfl,.of ab,rfl,_,_,rfl,_,_,rfl,rfl,?_⟩;refine⟨_,rfl,_,rfl,(by show 3<=Zg;decide),λ_ d=>?_⟩;exact k _ _ ((af.new b).trans (af.new d)) (.tup (.of ((iq ((af.new b).free d)).trans ab)) (.cons (.int 0) (.cons (.int _) (.cons (.str j.2) .nil))))
theorem uZ:aC ["pattern"] ["pattern"] (ag (top 33)):=by refine⟨rfl,rfl,rfl,?_,rfl,?_,?_⟩<;>decide +kernel
theorem vT (T:Tx K mg A):aB P w K mg base CX0 3 A.jF A.jI ["pattern"] (me K):=by
 have N:aB P w K mg base CX0 2 _ _ _ _:=MC (AE T);refine T.m5.fn.ok uZ (λS H Q E h=>?_) (λ_ _ _ s H S Q E R h=>?_)
 ·obtain⟨v,ps,rfl,_⟩:=h;rfl
 ·obtain⟨v,ps,rfl,G,f,k⟩:=h;obtain⟨a,xs,J,B,j⟩:=gG G;refine⟨_,ao (aG (bZ (aa (aP (r:=dU K) bg (by rfl) T.c6 Yb (aa (pv 0) ae)) (aa (aY (N':=["part"]) (n:=1) (fi:=[]) (g:=aZ 0) rfl (bf (ag (top 33)) ["pattern"] (by decide +kernel)) (aT (pv 0)) (λs H C=>ay (i:=0) (nT _) rfl (Or.inl rfl) (.inr rfl)) (λs H C=>aV) (λs H C=>av N R (by rfl) T.qg.mg T.qg.fn.kp T.qg.bd .nil aA (aa (pv 0) ae))) ae)))),?_⟩;subst J;have l:xs.length=ps.length:=by rw[j.length,UA]
  have U:=f.1;refine⟨_,rfl,a,xs,rfl,.inl B,?_⟩;refine⟨_,rfl,a,rfl,⟨_,B⟩,λD m=>?_⟩;refine aK (K:=K) (xs:=xs) (λi b q d=>(∃u,q=[u])/\af H d/\aD K (lim (upd H D (.lst [])) d) b ((ps.take i).map Pt.key)) ab ⟨⟨_,rfl⟩,af.new m,.nil⟩ (λi b q d _ _ p=>p.2.1.seq B) (λi x b q d M c p=>?_) (λb q d c p=>?_)
  ·obtain⟨⟨u,rfl⟩,p⟩:=p;obtain⟨F,e,O⟩:=lh j M;have V:i<ps.length:=aH e;have L:b.length=i:=by rw[p.2.length,UA,UT];lia
   refine cB ⟨_,rfl,x,F,rfl,O.same p.1,f.2 F (UC e),λr _ y dr=>⟨b,y _ _ c,small (by lia),_,ab,⟨_,rfl⟩,ax m (p.1.trans y),?_⟩⟩;rw[qM (ys:=[]) ab,ed e];exact(p.2.same (c7 y)).append (.cons (dr.same (fN (JG p.1 c))) .nil)
  ·obtain⟨_,p⟩:=p;refine⟨(by show 2<=Zg;decide),λt o=>?_⟩;have I:af H (upd d t (.tup [.int xs.length,.ref D])):=p.1.trans (af.new o);rw[UP (by lia)]at p;refine k _ _ I ?_;have e:jE ps = .tuple [.int xs.length,.list (ps.map Pt.key)]:=by rw[l];rfl
   rw[e];have z:(upd d t (.tup [.int xs.length,.ref D])) D=some (.lst b):=by rw[ap (aw c o)];exact c
   refine .tup (.of ((iq (p.1.free o)).trans ab)) (.cons (.int _) (.cons (.lst (.of ((iq m).trans z)) ?_) .nil));exact(p.2.same (c7 (af.new o))).same (fN (af.new m).ll)
theorem B6:aC ["patterns"] ["patterns"] (ag (top 34)):=by refine⟨rfl,rfl,rfl,?_,rfl,?_,?_⟩<;>decide +kernel
theorem px (T:Tx K mg A):aB P w K mg base CX0 6 A.jS A.jW ["patterns"] (lm K):=by
 have vR:aB P w K mg base CX0 3 _ _ _ _:=MC (vT T);refine T.ordered.fn.ok B6 (λvs H Q E h=>?_) (λ_ _ _ s H vs Q E hr h=>?_)
 ·obtain⟨a,xs,pss,rfl,_⟩:=h;rfl
 ·obtain⟨a,xs,pss,rfl,hq,R,G,S,k⟩:=h;refine⟨_,ao (aG (aY (N':=["pattern"]) (n:=1) (fi:=[]) (g:=aZ 0) rfl (bf (ag (top 34)) ["patterns"] (by decide +kernel)) (aT (Hh (a:=.int) (r:=AH) .int vR hr T.m5.bd (by rfl) T.p6 (by rfl) T.m5.mg (aa (pv 0) ae))) (λs H fp=>ay (i:=0) (nT _) rfl (Or.inl rfl) (.inr rfl)) (λs H fp=>aV) (λs H fp=>iE (r:=tR K) oO (by rfl) T.rG nG (aa (pv 0) ae)))),?_⟩;have L:xs.length=pss.length:=by rw[G.length,UA]
  refine⟨_,rfl,_,rfl,a,xs,rfl,hq,R,?_⟩;refine rK (K:=K) (H0:=H) xs (pss.map jE) [] [] H (by rw[UA];exact L) (af.refl H) .nil (λi x d f _ c I z kk=>?_) (λks H1 s1 d1=>?_)
  ·obtain⟨o,e,cx⟩:=dR G c;rw[UI,e]at I;cases I;exact⟨x,o,rfl,cx.same z,S o (UC e),λr H' sr dr=>kk r H' sr (dr.same c8)⟩
  ·have a3:aD K H1 ks (pss.map jE):=by simpa using d1
   refine⟨pss.map jE,a3,λd I=>?_,λd I=>?_,λX p a6 hp ho=>?_⟩
   ·obtain⟨o,_,rfl⟩:=UE.mp I;exact vQ o
   ·obtain⟨o,_,rfl⟩:=UE.mp I;exact F7 o
   ·refine⟨X,rfl,⟨_,.of ab⟩,λD W=>?_⟩;have O:p.length=xs.length:=by rw[hp.length_eq,VN]
    have B:p.Perm (Y7 pss.length):=by rw[<-L];exact hp
    have a0:(sel pss p).length=xs.length:=by unfold sel;rw[UA,O]
    have v:af H (upd H1 X (.lst (picked xs p))):=s1.trans (af.new a6);generalize hHb:upd H1 X (HO.lst (picked xs p))=Hb at v W;have LM:Hb X=some (.lst (picked xs p)):=by rw[<-hHb];exact ab
    have m:af Hb (upd Hb D (.lst [])):=af.new W;refine aK (K:=K) (xs:=picked xs p) (λi b Y f=>(∃u,Y=[u])/\af Hb f/\Jq (upd Hb D (.lst [])) f b/\aD K (lim (upd Hb D (.lst [])) f) b (((sel pss p).take i).map be)) ab ⟨⟨_,rfl⟩,m,(λx c=>by cases c),.nil⟩ (λi b Y f _ _ q=>.of (q.2.1 _ _ LM)) (λi x b Y f c j q=>?_) (λb Y f j q=>?_)
    ·obtain⟨q0,z,fr,J⟩:=q;apply cU q0;clear q0;intro u;obtain⟨o,C,Ck,cx⟩:=J3 G B c;obtain⟨a',F,rfl,a5,U⟩:=gG cx;have a7:b.length=i:=by rw[J.length,UA,UT];have:=aH C;lia
     have a8:i<xs.length:=by rw[<-a0];exact aH C
     refine cB ⟨_,rfl,a',F,rfl,.inl ((v.trans z).seq a5),λl hl=>?_⟩;have N:l≠D:=(aw j hl).symm;have M:(upd Hb D (.lst [])) l=none:=by rw[ap N];exact z.free hl
     have V:af f (upd f l (.lst F)):=af.new hl;refine⟨b,V _ _ j,small (by lia),_,ab,⟨_,rfl⟩,ax W (z.trans V),?_,?_⟩
     ·intro x c;rcases UY.mp c with c | c
      ·obtain⟨t,ys,rfl,y,Z,h3⟩:=fr x c;have a4:t≠D:=λe=>by subst e;rw[ab]at y;cases y
       exact⟨t,ys,rfl,y,by rw[ap a4];exact V _ _ Z,h3⟩
      ·simp only[UG]at c;subst c;exact⟨l,F,rfl,M,by rw[ap N];exact ab,by rw[U.length,UA];exact(S o Ck).1⟩
     ·rw[qM (ys:=[]) ab,ed C];exact(J.same (c7 V)).append (.cons (.lst (.of ((iq M).trans ab)) (yo (v.trans m) ((v.trans z).trans V) U)) .nil)
    ·obtain⟨_,z,fr,J⟩:=q;have a9:(picked xs p).length=xs.length:=by rw[oN,O]
     rw[UP (by lia)]at J;refine k D b f (sel pss p) (v.free W) (v.trans z) j (GG B) (B3 B ho) (λx c=>?_) (λx c=>?_) (J.same (fN (v.trans m).ll))
     ·obtain⟨t,ys,rfl,y,Z,h3⟩:=fr x c;exact⟨t,ys,rfl,(v.trans m).free y,Z,h3⟩
     ·obtain⟨t,ys,rfl,y,Z,h3⟩:=fr x c;intro e;cases e;rw[ab]at y;cases y
theorem mr:aC ["line","patterns","fitting"] ["line","patterns"] (ag (top 48)):=by refine⟨rfl,rfl,rfl,?_,rfl,?_,?_⟩<;>decide +kernel
theorem ug (T:Tx K mg A):aB P w K mg base CX0 7 A.jG A.jL ["line","patterns"] (mi K):=by
 have kj:aB P w K mg base CX0 6 _ _ _ _:=MC (px T);have zm:aB P w K mg base CX0 5 _ _ _ _:=MC (y8 T);have C9:aB P w K mg base CX0 6 _ _ _ _:=MC (DT T);refine T.dQ.fn.ok mr (λvs H Q E h=>?_) (λ_ _ _ s H vs Q E Y h=>?_)
 ·obtain⟨z,a,xs,pss,rfl,_⟩:=h;rfl
 ·obtain⟨z,a,xs,pss,rfl,V,_,L,B,hz,W,k⟩:=h;have a3:xs.length=pss.length:=by rw[L.length,UA]
  refine⟨_,aj (bh (i:=2) mr.nd rfl (Or.inl rfl) (av kj Y (by rfl) T.ordered.mg T.ordered.fn.kp T.ordered.bd .nil aA (aa (aY (N':=["pattern","line"]) (n:=1) (fi:=[0]) (g:=aZ 0) rfl (bf (ag (top 48)) ["line","patterns","fitting"] (by decide +kernel)) (aT (pv 1)) (λs H fp=>ay (i:=0) (show(["pattern","line"]:Uq).Nodup by decide +kernel) rfl (Or.inl rfl) (.inr rfl)) (λs H fp=>dS (cY (av C9 Y (by rfl) T.fits.mg T.fits.fn.kp T.fits.bd .nil aA (aa (pv 0) (aa (pv 1) ae))))) (λs H fp=>pv 0)) ae)))
   (ao (aG (Lq zm Y T.qX.bd rfl (by rfl) T.L7 (by rfl) T.qX.mg (aa (pv 2) ae)))),?_⟩
  refine⟨_,rfl,a,rfl,⟨_,V⟩,λD hD=>?_⟩;refine aK (K:=K) (xs:=xs) (λi b U M=>(∃u,U=[u,some (.str z)])/\af H M/\aD K H b (((pss.take i).filter (bT z)).map be)) ab ⟨⟨_,rfl⟩,af.new hD,.nil⟩ (λi b U M _ _ q=>q.2.1.seq V) (λi x b U M v f q=>?_) (λb U M f q=>?_)
  ·obtain⟨q0,j,p⟩:=q;apply cU q0;clear q0;intro u;obtain⟨ps,r,G⟩:=dR L v;have hi:=aH r;have X:b.length<=i:=by
    rw[p.length,UA];exact UK (U9 _ _) (by rw[UT];lia)
   have et:pss.take (i+1)=pss.take i++[ps]:=by rw[UX,r];rfl
   refine⟨_,rfl,_,rfl,x,z,ps,rfl,G.same j,(B ps (UC r)).2,hz,W,λ_ R=>⟨_,rfl,?_⟩⟩;by_cases O:bT z ps=true
   ·have C:a8 ps (Y4 z " ")=true:=O;rw[C];refine cq ?_;refine⟨_,rfl,b,R _ _ f,small (by lia),_,ab,⟨_,rfl⟩,ax hD (j.trans R),?_⟩;rw[et,Vi,UL];have e2:[ps].filter (bT z)=[ps]:=by simp[O]
    rw[e2];exact p.append (.cons G .nil)
   ·have C:a8 ps (Y4 z " ")=false:=U3.mpr O;rw[C];refine br ⟨b,R _ _ f,⟨_,rfl⟩,j.trans R,?_⟩;have e2:[ps].filter (bT z)=[]:=by simp[O]
    rw[et,Vi,e2,Vd];exact p
  ·obtain⟨_,j,p⟩:=q;rw[UP (by lia)]at p;have a4:(pss.filter (bT z)).length<=pss.length:=U9 _ _;have X:b.length=(pss.filter (bT z)).length:=by rw[p.length,UA]
   refine⟨D,b,pss.filter (bT z),rfl,.of f,by lia,p.same j,λps c=>B ps ((U0.mp c).1),λ_ fw H5 l _ s5 R4 S k6 fr _ F=>?_⟩;have o:fw.length=l.length:=by rw[F.length,UA]
   have SD:∀ps∈l,POk ps:=λps c=>B ps ((U0.mp (S.mem_iff.mp c)).1);refine⟨_,rfl,_,rfl,?_⟩;refine wQ (kds:=l.map looseD) (Sh.ok (.list .int)) (.of R4) (by rw[UA];exact o) (λd N=>?_) (λm x d H6 _ v N J kk=>?_) (λNC=>?_) (λZ H6 J=>?_)
   ·obtain⟨ps,_,rfl⟩:=UE.mp N;exact⟨mX ps,Fc ps⟩
   ·obtain⟨ps,I,cx⟩:=dR F v;rw[UI,I]at N;cases N;exact⟨x,ps,rfl,(cx.same c8).same J,SD ps (UC I),λD7 H7 _ s7 RD=>kk (.ref D7) H7 s7 (.lst (.of RD) w6)⟩
   ·subst NC;have y:l=[]:=Vr (by rw[<-o];rfl);subst y;exact k .non H5 (j.trans s5) (.inl ⟨S.symm.eq_nil,rfl⟩)
   ·have y:l≠[]:=λe=>Z (Vr (by rw[o,e];rfl));obtain⟨ps,c,Ih⟩:=Iq y k6;have a0:cJ (l.map looseD)<fw.length:=by rw[o];exact aH c
    have v:fw[cJ (l.map looseD)]? = some fw[cJ (l.map looseD)]:=UB a0;have qb:fw.getD (cJ (l.map looseD)) .non=fw[cJ (l.map looseD)]:=by simp[YA,v]
    rw[qb];obtain⟨t,ys,ht,h1,h2,_⟩:=fr _ (UC v);obtain⟨_,Ls,cx⟩:=dR F v;rw[c]at Ls;cases Ls;refine k _ H6 ((j.trans s5).trans J) (.inr ⟨t,ys,ps,ht,j.free h1,J _ _ h2,⟨S.mem_iff.mp Ih.1,λq V=>Ih.2 q (S.mem_iff.mpr V)⟩,?_⟩);exact(cx.same (c7 J)).same (fN j.ll)
def oR (K:Xz):Sp:=λvs H Q _=>∃(a b:Za) (xs:Uj) (ks:List Key),vs=[.ref a,.ref b]/\SqL K H a xs/\SqL K H b (ks.map kV)/\ks.length=xs.length/\xs.length<=1000 /\
 ∀(D:Za) (as:Uz) H',H D=none->af H H'->H' D=some (.lst (as.map V.ref))->(∀a∈as,H a=none)->gR (λa g=>H' a=some (.lst g)) as (grp ks xs)->Q (.ref D) H'
theorem k8:aC ["rows","keys","groups","row","key"] ["rows","keys"] (ag (top 37)):=by refine⟨rfl,rfl,rfl,?_,rfl,?_,?_⟩<;>decide +kernel
theorem vP (T:Tx K mg A):aB P w K mg base CX0 1 A.nH A.nR ["rows","keys"] (oR K):=by
 refine T.lj.fn.ok k8 (λvs H Q E h=>?_) (λ_ _ _ s H vs Q E _ h=>?_)
 ·obtain⟨a,b,xs,d,rfl,_⟩:=h;rfl
 ·obtain⟨a,b,xs,d,rfl,O,N,_,_,k⟩:=h;refine⟨_,aj (bh (i:=2) k8.nd rfl (Or.inl rfl) Bo)
   (aj (g9 Yx rfl (zi (by rfl) T.BI (aa (pv 0) (aa (pv 1) ae))) (fG rfl (ba (ay (i:=3) k8.nd rfl (Or.inl rfl)) (ba (ay (i:=4) k8.nd rfl (Or.inl rfl)) dO))) (ao (bq (ee Y9 Yk Yl cR (J0 (pv 2) (pv 4) (bz ae) ⟨rfl,rfl,rfl,rfl⟩) (aa (pv 3) ae)))))
   (ao (aG (HC rfl (by rfl) T.rG nG (pv 2))))),?_⟩
  intro G hG;have sG:af H (upd H G (.dK [])):=af.new hG;have X:(upd H G (.dK [])) G=some (.dK []):=ab;refine⟨_,rfl,_,rfl,a,b,rfl,⟨_,sG.seq O⟩,⟨_,sG.seq N⟩,?_⟩;generalize upd H G (.dK [])=H1 at sG X ⊢;refine DY (K:=K) (xs:=xs) (ys:=d.map kV) (λi σ f=>(∃u v,σ=[some (.ref a),some (.ref b),some (.ref G),u,v])/\af H f/\∃(as:Uz) (kvs:List (Key×V)),f G=some (.dK kvs)/\GL H f G as kvs (cu ((d.zip xs).take i))/\kvs.length<=i/\∀g∈(cu ((d.zip xs).take i)).map (·.2),g.length<=i)
   ⟨⟨_,_,rfl⟩,sG,[],[],X,.nil,UD _,λg hg=>by cases hg⟩ (λi σ f q=>⟨q.2.1.seq O,q.2.1.seq N⟩) (λi x y σ f p hx Y q hp=>?_) (λσ f q=>?_)
  ·obtain⟨Z,s2,as,kvs,m,C,a5,r⟩:=q;apply zo Z;clear Z;intro u v;have hi:=aH hx;rw[UI]at Y;obtain⟨ky,a8,rfl⟩:∃ky,d[i]? = some ky/\y=kV ky:=by
    cases e:d[i]? with
    | none=>rw[e]at Y;cases Y
    | some ky=>rw[e]at Y;cases Y;exact⟨ky,rfl,rfl⟩
   have hz:(d.zip xs)[i]? = some (ky,x):=by rw[Vf];exact⟨a8,hx⟩
   have sp:af f (upd f p (.tup [x,kV ky])):=af.new hp;have a3:(upd f p (.tup [x,kV ky])) p=some (.tup [x,kV ky]):=ab;have ai:G≠p:=aw m hp;have s3:=s2.trans sp;have o:=sp _ _ m;have n:GL H (upd f p (.tup [x,kV ky])) G as kvs (cu ((d.zip xs).take i)):=C.keep λc l=>by
    obtain⟨⟨g,e⟩,_⟩:=C.mem c l;exact ap (aw e hp)
   generalize upd f p (.tup [x,kV ky])=H3 at sp a3 s3 o n ⊢;refine⟨p,_,rfl,.of a3,rfl,_,_,rfl,_,_,rfl,rfl,?_⟩;refine⟨_,rfl,G,rfl,.inl ⟨kvs,.of o⟩,_,rfl,UU _,λL hL=>?_⟩;have sL:af H3 (upd H3 L (.lst [])):=af.new hL;have a0:(upd H3 L (.lst [])) L=some (.lst []):=ab;have M:L≠G:=(aw o hL).symm;have QY:L∉as:=λz=>by
    obtain⟨⟨g,e⟩,_⟩:=n.mem L z;rw[hL]at e;cases e
   have U:H L=none:=s3.free hL;have s4:=s3.trans sL;have I:=sL _ _ o;have j:GL H (upd H3 L (.lst [])) G as kvs (cu ((d.zip xs).take i)):=n.keep λc l=>by
    obtain⟨⟨g,e⟩,_⟩:=n.mem c l;exact ap (aw e hL)
   generalize upd H3 L (.lst [])=H4 at sL a0 s4 I j ⊢;have t:cu ((d.zip xs).take (i+1))=bP (cu ((d.zip xs).take i)) ky x:=AJ hz;have B:∀g∈(bP (cu ((d.zip xs).take i)) ky x).map (·.2),g.length<=i+1:=λg hg=>by
    obtain⟨q,hq,rfl⟩:=UE.mp hg;unfold bP at hq
    split at hq
    ·obtain⟨q',a9,rfl⟩:=UE.mp hq;have:=r q'.2 (V5 a9)
     split
     ·show(q'.2++[x]).length<=_;rw[UH,UQ];lia
     ·lia
    ·rcases UY.mp hq with z | z
     ·have:=r q.2 (V5 z);lia
     ·rw[UG.mp z];show 1<=_;lia
   refine⟨kvs,ky,I,rfl,small (by lia),λ_ a4=>?_,λhn=>?_⟩
   ·obtain⟨c,g,rfl,l,R,ah,J⟩:=j.grow (x:=x) a4;have W:=j.mem c l;refine⟨.inl ⟨rfl,_,.of R⟩,_,rfl,c,g,_,rfl,rfl,R,small (by have:=r g ah;lia),?_⟩;refine⟨⟨_,_,rfl⟩,ax W.2.1 s4,as,kvs,by rw[ap W.2.2.symm];exact I,by rw[t];exact J,by lia,by rw[t];exact B⟩
   ·have a6:H G=none:=hG;have S:(upd H4 G (.dK (putK kvs ky (.ref L)))) L=some (.lst []):=by rw[ap M];exact a0
    refine⟨.inl ⟨rfl,_,.of S⟩,_,rfl,L,[],_,rfl,rfl,S,small (by decide),?_⟩;have a7:(upd (upd H4 G (.dK (putK kvs ky (.ref L)))) L (.lst ([]++[x]))) L=some (.lst [x]):=ab;have ag:GL H (upd (upd H4 G (.dK (putK kvs ky (.ref L)))) L (.lst ([]++[x]))) G as kvs (cu ((d.zip xs).take i)):=j.keep λc l=>by
     have:=j.mem c l;rw[ap (λ(z:c=L)=>QY (z ▸ l)),ap this.2.2]
    obtain⟨e1,J⟩:=ag.more hn a7 U M QY;refine⟨⟨_,_,rfl⟩,ax U (ax a6 s4),as++[L],kvs++[(ky,.ref L)],by rw[ap M.symm,ab,e1],by rw[t];exact J,by rw[UH,UQ];lia,by rw[t];exact B⟩
  ·obtain⟨Z,s2,as,kvs,m,C,a5,r⟩:=q;apply zo Z;clear Z;intro u v;have hm:min xs.length (d.map kV).length=(d.zip xs).length:=by rw[UA,VU,Nat.min_comm]
   rw[hm,UP (UD _)]at C;refine⟨_,rfl,G,kvs,rfl,.of m,λD hD=>?_⟩;rw[C.vals];have sD:af f (upd f D (.lst (as.map V.ref))):=af.new hD;exact k D as _ (s2.free hD) (s2.trans sD) ab (λc l=>(C.mem c l).2.1) (C.lists.mono λc g e=>sD _ _ e)
def ju (K:Xz):Sp:=λvs H Q _=>∃(u:V) (p n:Nat) (wss:Ul),vs=[u,.int p]/\Den K H u (gD wss)/\GOk n wss/\p<n /\
 ∀(D:Za) H',H D=none->af H H'->H' D=some (.lst ((wAt wss p).map V.str))->Q (.ref D) H'
def jr (K:Xz):Sp:=λvs H Q _=>∃(u:V) (p n:Nat) (wss:Ul),vs=[u,.int p]/\Den K H u (gD wss)/\GOk n wss/\p<n /\
 ∀H',af H H'->Q (.int (uAt wss p).length) H'
def gY (K:Xz):Sp:=λvs H Q _=>∃(u:V) (p n:Nat) (wss:Ul) (t:Za) (s l:Int),vs=[u,.int p,.ref t]/\Den K H u (gD wss)/\GOk n wss/\p<n/\SqT K H t [.int s,.int l] /\
 ∀H',af H H'->Q (.bl (ik wss p s l)) H'
theorem Bn:aC ["group","place"] ["group","place"] (ag (top 38)):=by refine⟨rfl,rfl,rfl,?_,rfl,?_,?_⟩<;>decide +kernel
theorem mx (T:Tx K mg A):aB P w K mg base CX0 1 A.iX A.iZ ["group","place"] (ju K):=by
 refine T.eQ.fn.ok Bn (λM H Q E h=>?_) (λ_ _ _ s H M Q E _ h=>?_)
 ·obtain⟨u,p,n,wss,rfl,_⟩:=h;rfl
 ·obtain⟨u,p,n,wss,rfl,J,C,_,k⟩:=h;obtain⟨a,xs,rfl,I,e⟩:=DI J;have m:xs.length=wss.length:=by rw[e.length,UA]
  refine⟨_,ao (aG (aY (N':=["words","place"]) (n:=1) (fi:=[1]) (g:=aZ 0) rfl (bf (ag (top 38)) ["group","place"] (by decide +kernel)) (aT (pv 0)) (λs H z=>ay (i:=0) (show(["words","place"]:Uq).Nodup by decide +kernel) rfl (Or.inl rfl) (.inr rfl)) (λs H z=>aV) (λs H z=>bj (r:=ff K) bi (pv 0) (pv 1) (λ_ _=>rfl)))),?_⟩;refine⟨_,rfl,a,rfl,⟨_,I⟩,λD l=>?_⟩;refine aK (K:=K) (xs:=xs) (λi b j c=>(∃u,j=[u,some (.int p)])/\af H c/\b=(wAt (wss.take i) p).map V.str) ab ⟨⟨_,rfl⟩,af.new l,rfl⟩ (λi b j c _ _ q=>q.2.1.seq I) (λi x b j c F y q=>?_) (λb j c d q=>?_)
  ·obtain⟨G,f,rfl⟩:=q;apply cU G;clear G;intro u;have O:=aH F;obtain⟨ws,r,B,rfl,v⟩:=qG e F;have N:=C.row ws (UC B);have o:p<ws.length:=by lia
   have t:(ws.map V.str)[p]? = some (.str (ws.getD p Yh)):=by rw[UI,US,UB o];rfl
   have L:=C.le;refine cB ⟨_,rfl,_,rfl,r,_,_,_,rfl,rfl,f.seq v,dE t,_,y,small (by unfold wAt;rw[UA,UA,UT];lia),_,ab,⟨_,rfl⟩,ax l f,?_⟩;rw[As B,UL];rfl
  ·obtain⟨_,f,rfl⟩:=q;rw[m,UP (UD _)]at d;exact k D c l f d
theorem pQ:aC ["group","place"] ["group","place"] (ag (top 39)):=by refine⟨rfl,rfl,rfl,?_,rfl,?_,?_⟩<;>decide +kernel
theorem pT (T:Tx K mg A):aB P w K mg base CX0 2 A.gq A.gw ["group","place"] (jr K):=by
 have e:aB P w K mg base CX0 1 _ _ _ _:=MC (mx T);refine T.fR.fn.ok pQ (λl H Q E h=>?_) (λ_ _ _ s H l Q E j h=>?_)
 ·obtain⟨u,p,n,a,rfl,_⟩:=h;rfl
 ·obtain⟨u,p,n,a,rfl,d,c,f,k⟩:=h;refine⟨_,ao (aG (y3 Fw rfl (by rfl) T.c6 Yb (by rfl) T.HU Cz (aa (av e j (by rfl) T.eQ.mg T.eQ.fn.kp T.eQ.bd .nil aA (aa (pv 0) (aa (pv 1) ae))) ae))),?_⟩;refine⟨_,rfl,_,rfl,u,p,n,a,rfl,d,c,f,λD i _ g b=>⟨D,_,rfl,.of b,Wk (c.M0 p) (by decide),k i g⟩⟩
theorem Gk {l m:List α}{f:α->Bool} (h:l.Perm m):l.all f=m.all f:=by
 rw[Va,U4,U4];exact⟨λq x hx=>q x (h.mem_iff.mpr hx),λq x hx=>q x (h.mem_iff.mp hx)⟩
theorem FK (ws:Uq):(ws.map V.str).all iU=true:=by
 rw[U4];intro x hx;obtain⟨w,_,rfl⟩:=UE.mp hx;rfl
theorem CM (ws:Uq) (w:Str):(ws.map V.str).countP (λz=>eqV z (.str w))=ws.countP λz=>decide (z=w):=by
 rw[List.countP_map];rfl
theorem bS:aC ["group","place","sieve","spread","least","words","unlike"] ["group","place","sieve"] (ag (top 40)):=by refine⟨rfl,rfl,rfl,?_,rfl,?_,?_⟩<;>decide +kernel
theorem mv (T:Tx K mg A):aB P w K mg base CX0 2 A.eF A.eG ["group","place","sieve"] (gY K):=by
 have iI:aB P w K mg base CX0 1 _ _ _ _:=MC (mx T);refine T.dH.fn.ok bS (λvs H Q E h=>?_) (λ_ _ _ s H vs Q E Z h=>?_)
 ·obtain⟨u,p,n,a,t,s,l,rfl,_⟩:=h;rfl
 ·obtain⟨u,p,n,a,t,s,l,rfl,hd,G,hp,M,k⟩:=h;refine⟨_,aj (rm (pv 2) (fG rfl (ba (ay (i:=3) bS.nd rfl (Or.inl rfl)) (ba (ay (i:=4) bS.nd rfl (Or.inr rfl)) dO))))
   (aj (bh (i:=5) bS.nd rfl (Or.inr rfl) (av iI Z (by rfl) T.eQ.mg T.eQ.fn.kp T.eQ.bd .nil aA (aa (pv 0) (aa (pv 1) ae))))
   (aj (bh (i:=6) bS.nd rfl (Or.inl rfl) (y3 (qo rfl Z) rfl (by rfl) T.p6 wU (by rfl) T.HU Cz (aa (pv 5) ae)))
   (ao (aG (o4 (Az xh xh au (aP (r:=dU K) bg (by rfl) T.c6 Yb (aa (pv 6) ae)) (pv 3)) (pF (aP (r:=EJ K) (mq rfl) (by rfl) T.zE vM (aa (aY (N':=["word","least","words"]) (n:=1) (fi:=[4,5]) (g:=aZ 0) rfl (bf (ag (top 40)) ["group","place","sieve","spread","least","words","unlike"] (by decide +kernel)) (aT (pv 6)) (λs H R=>ay (i:=0) (show(["word","least","words"]:Uq).Nodup by decide +kernel) rfl (Or.inl rfl) (.inr rfl)) (λs H R=>aV) (λs H R=>cM DX (C8 (K:=K) rfl (r:=IF K) Y9 Z4 PySem.F.type_list_count F9 (pv 2) (aa (pv 0) ae)) (pv 1) (aR _))) ae)))))))),?_⟩
  refine⟨_,rfl,t,_,rfl,M,rfl,_,_,rfl,_,_,rfl,rfl,?_⟩;refine⟨_,rfl,_,rfl,u,p,n,a,rfl,hd,G,hp,λW D _ s1 j=>?_⟩;refine⟨_,rfl,W,_,rfl,.of j,Wk (G.M0 p) (by decide),G.PV p,λU b hU X _=>?_⟩;have O:af D (upd D U (.lst (b.map V.str))):=af.new hU;have d:(upd D U (.lst (b.map V.str))) U=some (.lst (b.map V.str)):=ab;have f:=O _ _ j;have J:=s1.trans O;generalize upd D U (.lst (b.map V.str))=H2 at O d f J ⊢;have L:b.length=(uAt a p).length:=X.length_eq;have y:((b.map V.str).length:Int)=((uAt a p).length:Int):=by rw[UA,L]
  refine⟨_,rfl,U,_,rfl,.inl (.of d),_,_,rfl,rfl,_,rfl,?_⟩;rw[y];cases c1:decide ((2:Int)<=((uAt a p).length:Int))with
  | false=>
   refine br ⟨_,rfl,br ?_⟩;have e:ik a p s l=false:=by unfold ik;rw[c1];rfl
   rw[<-e];exact k H2 J
  | true=>
   refine cq ⟨_,rfl,_,_,rfl,rfl,_,rfl,?_⟩;cases c2:decide (((uAt a p).length:Int)<=s)with
   | false=>
    refine br ?_;have e:ik a p s l=false:=by unfold ik;rw[c1,c2];rfl
    show Q (.bl false) H2;rw[<-e];exact k H2 J
   | true=>
    refine cq ⟨_,rfl,U,rfl,⟨_,.of d⟩,λB hB=>?_⟩;refine aK (K:=K) (xs:=b.map V.str) (λi c I m=>(∃u,I=[u,some (.int l),some (.ref W)])/\af H2 m/\c=((b.take i).map λw=>decide (l<=((wAt a p).countP λz=>decide (z=w):Nat))).map V.bl) ab ⟨⟨_,rfl⟩,af.new hB,rfl⟩ (λi c I m _ _ q=>.of (q.2.1 _ _ d)) (λi x c I m hx N q=>?_) (λc I m o q=>?_)
    ·obtain⟨Y,C,rfl⟩:=q;apply cU Y;clear Y;intro _;obtain⟨_,S,rfl⟩:=e7 hx;have hi:=aH S;have hu:=G.PV p;have v:=C _ _ f;refine cB ⟨_,rfl,.inl ⟨rfl,_,.of v⟩,_,rfl,W,_,_,rfl,rfl,.of v,rfl,FK _,_,rfl,_,_,rfl,rfl,?_⟩;refine⟨_,N,small (by rw[UA,UA,UT];lia),_,ab,⟨_,rfl⟩,ax hB C,?_⟩;rw[CM,UX,S];simp
    ·obtain⟨_,C,rfl⟩:=q;rw[UA,UP (UD _)]at o;refine⟨B,_,rfl,.of o,?_⟩;have e:ik a p s l=((b.map λw=>decide (l<=((wAt a p).countP λz=>decide (z=w):Nat))).all id):=by
      unfold ik;rw[c1,c2,List.all_map,V4,V4];exact(Gk X).symm
     rw[<-e];exact k m (J.trans C)
def PB:Str:=("place_to_part_at" : Str) ++ ".<locals>." ++ "<lambda>"
def bG (P:Za) (H:Hp):Prop:=gO P ⟨122,27,122,69⟩ PB H
def ij (K:Xz) (P:Za):Sp:=λvs H Q _=>∃(u:V) (n:Nat) (wss:Ul) (t:Za) (s l:Int),vs=[u,.ref t]/\Den K H u (gD wss)/\GOk n wss/\SqT K H t [.int s,.int l]/\bG P H /\
 ∀H',af (wo P H) H'->bG P H'->Q (Si (plc wss n s l)) H'
theorem ip:aC ["group","sieve","places"] ["group","sieve"] (ag (top 41)):=by refine⟨rfl,rfl,rfl,?_,rfl,?_,?_⟩<;>decide +kernel
theorem og (T:Tx K mg A):aB P w K mg base CX0 5 A.fe A.cX ["group","sieve"] (ij K A.ar):=by
 have nW:aB P w K mg base CX0 4 _ _ _ _:=MC (mv T);have qd:aB P w K mg base CX0 2 _ _ _ _:=MC (pT T);refine T.d7.fn.okC T.lam.code ip (λvs H Q E h=>?_) (λ_ _ s H vs Q E hr h=>?_)
 ·obtain⟨u,n,wss,t,s,l,rfl,_⟩:=h;rfl
 ·obtain⟨u,n,wss,t,b,l,rfl,f,G,a3,a7,k⟩:=h;obtain⟨a,U,rfl,hq,R⟩:=DI f;have ak:U.length=wss.length:=by rw[R.length,UA]
  have ai:0<wss.length:=Wn.mpr G.ne;have v:U[0]? = some U[0]:=UB (by lia);obtain⟨a0,r0,a9,a6,Te⟩:=qG R v;have Pm:=G.row a0 (UC a9);have ap:=G.Fs;refine⟨_,aj (kY (i:=2) (N':=["place","group","sieve"]) (n:=1) (fi:=[0,1]) (g:=aZ 0) ip.nd rfl (Or.inl rfl) rfl (bf (ag (top 41)) ["group","sieve","places"] (by decide +kernel)) (fq (by rfl) T.jB (aa (aP (r:=dU K) bg (by rfl) T.c6 Yb (aa (bj (r:=ff K) bi (pv 0) au (λ_ _=>rfl)) ae)) ae)) (λs H fp=>ay (i:=0) (show(["place","group","sieve"]:Uq).Nodup by decide +kernel) rfl (Or.inl rfl) (.inr rfl)) (λs H fp=>dS (cY (av nW hr (by rfl) T.dH.mg T.dH.fn.kp T.dH.bd .nil aA (aa (pv 1) (aa (pv 0) (aa (pv 2) ae)))))) (λs H fp=>pv 0))
   (ao (aG (Lu (P:=A.ar) (y:= "place") (N':=["place","group"]) (fi:=[0]) rfl hr (ME (ag (top 41)) ["group","sieve","places"] (by decide +kernel)) rfl T.lam.hd T.lam.bm (λq _ s H=>av qd (hr.in1.deeper _) (by rfl) T.fR.mg T.fR.fn.kp T.fR.bd .nil aA (aa (pv 1) (aa (pv 0) ae))) (by rfl) T.L7 (aa (pv 2) ae)))),?_⟩
  rw[a6]at v;refine⟨_,rfl,a,U,0,_,rfl,rfl,hq,dE (j:=0) v,r0,_,rfl,.inl Te,(n:Int),?_,by lia,by lia,λD hD=>?_⟩
  ·rw[UA,Pm.1]
  refine iT (λi z σ H4=>(∃u,σ=[u,some (.ref a),some (.ref t)])/\af H H4/\z=(ki wss i b l).map λp=>V.int (p:Nat)) ab ⟨⟨_,rfl⟩,af.new hD,rfl⟩ (λi z σ H4 _ F q=>?_) (λz σ H4 ah q=>?_)
  ·obtain⟨q0,o,rfl⟩:=q;apply cU q0;clear q0;intro _;have a8:i<n:=by lia
   have aq:=G9 (wss:=wss) (i:=i) (s:=b) (l:=l);have e0:((0:Int)+(i:Int))=((i:Nat):Int):=by lia
   refine⟨_,rfl,_,rfl,_,rfl,.ref a,i,n,wss,t,b,l,?_,f.same o,G,a8,o.eA a3,λH5 W=>⟨_,rfl,?_⟩⟩
   ·rw[e0];rfl
   rw[EB];cases hf:ik wss i b l with
   | true=>
    refine cq ⟨_,rfl,_,W _ _ F,small (by rw[UA];lia),_,ab,⟨_,rfl⟩,ax hD (o.trans W),?_⟩;have J:[i].filter (λp=>ik wss p b l)=[i]:=by simp[hf]
    rw[J,UL,e0];rfl
   | false=>
    refine br ⟨_,W _ _ F,⟨_,rfl⟩,o.trans W,?_⟩;have J:[i].filter (λp=>ik wss p b l)=[]:=by simp[hf]
    rw[J,Vd]
  ·obtain⟨_,o,rfl⟩:=q;have N:bG A.ar H4:=aF a7 o;refine⟨_,rfl,.ref D,rfl,N,λc H5 hn L a4=>?_⟩;have Y:af (wo A.ar H4) H5:=Iu hn;obtain⟨_,C⟩:=aU N;have Z:Den K H5 (.ref a) (gD wss):=(zp C (f.same o)).same Y;have a5:H5 D=_:=zk Y C ah λ_ e=>by cases e
   have O:af (wo A.ar H) H5:=(ji o).trans Y;have X:(n:Int).toNat=n:=by lia
   refine wQ (kds:=(ki wss n b l).map λp=>.int (uAt wss p).length) (Sh.ok .int) (.of a5) (by rw[UA,UA,X]) (λd f=>?_) (λm x d H6 _ I f M kk=>?_) (λNC=>?_) (λB H6 M=>?_)
   ·obtain⟨p,_,rfl⟩:=UE.mp f;exact⟨⟨_,rfl⟩,KD _⟩
   ·rw[X,UI]at I;rw[UI]at f;cases e:(ki wss n b l)[m]? with
    | none=>rw[e]at I;cases I
    | some p=>
     rw[e]at I f;cases I;cases f;have hp:=(AQ (UC e)).1;exact⟨_,rfl,M _ _ a4,_,rfl,_,rfl,.ref a,p,n,wss,rfl,Z.same M,G,hp,λH7 s7=>kk _ H7 s7 (.int _)⟩
   ·have e:plc wss n b l=none:=by
     unfold plc;rw[if_pos];have:=VC.mp NC
     rwa [X]at this
    have:=k H5 O L;rw[e]at this;exact this
   ·rw[X]at B ⊢;have S:ki wss n b l≠[]:=λe=>B (by rw[e];rfl);have hl:=AS wss _ S;have e:plc wss n b l=some ((ki wss n b l).getD (cJ ((ki wss n b l).map λp=>.int (uAt wss p).length)) 0):=by unfold plc;rw[Zo S]
    have:=k H6 (O.trans M) (aF L M);rw[e]at this;have J:((ki wss n b l).map λp=>V.int (p:Nat)).getD (cJ ((ki wss n b l).map λp=>.int (uAt wss p).length)) .non=V.int ((ki wss n b l).getD (cJ ((ki wss n b l).map λp=>.int (uAt wss p).length)) 0:Nat):=by
     rw[US,UI,US,UB hl];rfl
    rw[J];exact this
def tT (N:Nat) (K:Xz) (P:Za):Sp:=λvs H Q _=>∃(B:Hp) (u:V) (n:Nat) (wss:Ul) (t:Za) (s l:Int),vs=[u,.ref t]/\af B H/\B P=none/\Den K B u (gD wss)/\GOk n wss/\SqT K H t [.int s,.int l]/\bG P H/\mu n wss<N /\
 ∀(D:Za) (ys:Uj) (C H':Hp),H D=none->af (wo P H) H'->bG P H'->H' D=some (.lst ys)->af B C->af C H'->(∀b,C b≠none->B b≠none\/H b=none)->C P=none->aD K C ys ((prt n s l N wss).map gD)->Q (.ref D) H'
def xf (K:Xz) (P:Za):Sp:=tT 13 K P
theorem nq:aC ["group","sieve","place","groups","smaller"] ["group","sieve"] (ag (top 42)):=by refine⟨rfl,rfl,rfl,?_,rfl,?_,?_⟩<;>decide +kernel
theorem DK (T:Tx K mg A):∀N,aB P w K mg base CX0 (6+N) A.ka A.kh ["group","sieve"] (tT N K A.ar)
 | 0=>⟨λvs H Q E h=>by obtain⟨B,u,n,wss,t,s,l,rfl,_⟩:=h;rfl,λ_ _ _ _ _ _ _ _ _ _ _ _ _ h=>by obtain⟨B,u,n,wss,t,s,l,_,_,_,_,_,_,_,r,_⟩:=h;lia⟩
 | N+1=>by
  have oZ:aB P w K mg base CX0 (6+N) A.fe A.cX ["group","sieve"] (ij K A.ar):=(og T).mono (by lia);have qT:aB P w K mg base CX0 (6+N) A.nH A.nR ["rows","keys"] (oR K):=(vP T).mono (by lia);have iI:aB P w K mg base CX0 (6+N) A.iX A.iZ ["group","place"] (ju K):=(mx T).mono (by lia);have vq:aB P w K mg base CX0 (6+N) A.ka A.kh ["group","sieve"] (tT N K A.ar):=DK T N;show aB P w K mg base CX0 ((6+N)+1) A.ka A.kh ["group","sieve"] (tT (N+1) K A.ar);refine T.parted.fn.ok nq (λvs H Q E h=>?_) (λ_ _ _ s H vs R E hr h=>?_)
  ·obtain⟨B,u,n,wss,t,s,l,rfl,_⟩:=h;rfl
  ·obtain⟨B,u,n,wss,t,m,l,rfl,a3,a4,O,ok,a0,b5,_,k⟩:=h;refine⟨_,aj (bh (i:=2) nq.nd rfl (Or.inl rfl) (av oZ hr (by rfl) T.d7.mg T.d7.fn.kp T.d7.bd .nil aA (aa (pv 0) (aa (pv 1) ae))))
   (aj (bx (aO Dh (pv 2) Cb (aR _)) (ao (aG (bz (aa (pv 0) ae)))) aS)
   (aj (bh (i:=3) nq.nd rfl (Or.inl rfl) (bz ae))
   (aj (g9 Yx rfl (aT (av qT hr (by rfl) T.lj.mg T.lj.fn.kp T.lj.bd .nil aA (aa (pv 0) (aa (av iI hr (by rfl) T.eQ.mg T.eQ.fn.kp T.eQ.bd .nil aA (aa (pv 0) (aa (pv 2) ae))) ae)))) (ay (i:=4) nq.nd rfl (Or.inl rfl)) (ao (bq (ee Y9 PySem.F.slot_list_extend PySem.F.type_list_extend xw (pv 3) (aa (av vq hr (by rfl) T.parted.mg T.parted.fn.kp T.parted.bd .nil aA (aa (pv 4) (aa (pv 1) ae))) ae)))))
   (ao (aG (pv 3)))))),?_⟩
   obtain⟨a,xs,rfl,hqB,Qc⟩:=DI O;have be:xs.length=wss.length:=by rw[Qc.length,UA]
   obtain⟨_,aq⟩:=aU b5;have c0:af B (wo A.ar H):=bB a4 a3;refine⟨_,rfl,_,rfl,.ref a,n,wss,t,m,l,rfl,O.same a3,ok,a0,b5,λH1 s1 Y=>?_⟩;have S:af B H1:=c0.trans s1;have SJ:SqT K H1 t [.int m,.int l]:=s1.eA (p7 aq a0);obtain⟨_,OP⟩:=aU Y;have y:∀{b:Za}{H':Hp},af (wo A.ar H) H'->H' b=none->b≠A.ar->H b=none:=λ{b H'} m e ne=>by
    have:=m.free e
    rwa [ak ne]at this
   refine⟨_,rfl,rfl,_,rfl,?_⟩;cases hpl:plc wss n m l with
   | none=>
    refine cq ⟨_,rfl,(by show 1<=Zg;decide),λD hD=>?_⟩;have sD:af H1 (upd H1 D (.lst [.ref a])):=af.new hD;have e:prt n m l (N+1) wss=[wss]:=by unfold prt;rw[hpl]
    exact k D _ B _ (y s1 hD (aw OP hD).symm) (s1.trans sD) (aF Y sD) ab (af.refl B) (S.trans sD) (λb h=>.inl h) a4 (by rw[e];exact .cons O .nil)
   | some p=>
    obtain⟨hp,Qe⟩:=yz hpl;have bf:prt n m l (N+1) wss=(byW wss p).flatMap (prt n m l N):=by
     conv=>lhs;unfold prt
     rw[hpl]
    refine br ?_;refine⟨UU _,λG hG=>?_⟩;have sG:af H1 (upd H1 G (.lst [])):=af.new hG;have b4:(upd H1 G (.lst [])) G=some (.lst []):=ab;have L:G≠A.ar:=(aw OP hG).symm;have b2:=aF Y sG;have s2:af (wo A.ar H) (upd H1 G (.lst [])):=s1.trans sG;generalize upd H1 G (.lst [])=H2 at sG b4 b2 s2 ⊢;refine⟨_,rfl,_,rfl,_,rfl,.ref a,p,n,wss,rfl,O.same (S.trans sG),ok,hp,λW _ _ s3 au=>?_⟩;have bb:=sG.trans s3;have ek:((wAt wss p).map V.str)=((wAt wss p).map (Sum.inr:Str->Key)).map kV:=by rw[Vc];rfl
    rw[ek]at au;have c4:=ok.le;refine⟨a,W,xs,(wAt wss p).map Sum.inr,rfl,(S.trans bb).seq hqB,.of au,by rw[UA];unfold wAt;rw[UA,be],by lia,λD as H4 hD s4 I bt gf=>⟨D,rfl,⟨_,.of I⟩,?_⟩⟩;have ai:=bb.trans s4;have b0:=s3 _ _ b4;have b1:=s4 _ _ b0;have ba:bG A.ar H4:=aF b2 (s3.trans s4);have b7:af (wo A.ar H) H4:=s2.trans (s3.trans s4);obtain⟨_,yW⟩:=aU ba;have bo:af B H4:=S.trans ai;have OW:=ai.eA SJ;have f:H G=none:=y s1 hG L;have bg:B G=none:=by
     cases e:B G with
     | none=>rfl
     | some o=>rw[a3 _ _ e]at f;cases f
    have hC:∃d:Hp,af B d/\af d H4/\d G=none/\d A.ar=none/\(∀b,d b≠none->B b≠none\/H b=none)/\∀c∈as,(∀g,H4 c=some (.lst g)->g≠[]->d c=H4 c):=by
     refine⟨λb=>if b=G\/b=A.ar then none else if B b≠none\/b∈as then H4 b else none,λb o e=>?_,λb o e=>?_,by simp,by simp,λb Z=>?_,λc hc g hg c3=>?_⟩
     ·have r:b≠G:=nn e bg
      have h2:b≠A.ar:=nn e a4
      show(if b=G\/b=A.ar then none else _)=_;rw[Zo (by rintro(z | z) <;> contradiction),Zn (.inl (by rw[e];simp))];exact bo _ _ e
     ·dsimp only at e
      split at e
      ·cases e
      ·split at e
       ·exact e
       ·cases e
     ·dsimp only at Z
      split at Z
      ·exact absurd rfl Z
      ·rename_i hn
       split at Z
       ·rename_i hor;rcases hor with z | z
        ·exact .inl z
        ·refine .inr (y (s2.trans s3) (bt b z) λw=>hn (.inr w))
       ·exact absurd rfl Z
     ·have r:c≠G:=λz=>by rw[z,b1]at hg;cases hg;exact c3 rfl
      have h2:c≠A.ar:=nn hg yW
      show(if c=G\/c=A.ar then none else _)=_;rw[Zo (by rintro(z | z) <;> contradiction),Zn (.inr hc)]
    obtain⟨d,a9,bw,b8,a8,ag,bk⟩:=hC;have HL:=DV (xN (Qc.same a9)) ((wAt wss p).map Sum.inr);refine iM (K:=K) (xs:=as.map V.ref) (λi σ H5=>(∃v,σ=[some (.ref a),some (.ref t),some (.int p),some (.ref G),v])/\af (wo A.ar (wo G H4)) H5/\bG A.ar H5/\∃(acc:Uj) (C:Hp),H5 G=some (.lst acc)/\af d C/\af C H5/\C G=none/\C A.ar=none/\(∀b,C b≠none->B b≠none\/H b=none)/\aD K C acc ((((byW wss p).take i).flatMap (prt n m l N)).map gD))
     ⟨⟨_,rfl⟩,aM.trans aM,ba,[],d,b1,af.refl _,bw,b8,a8,ag,.nil⟩ (λi σ H5 _ q=>.of (q.2.1 _ _ (by
      have r:D≠G:=nn hD b0
      have h2:D≠A.ar:=nn I yW
      rw[ak h2,ak r];exact I))) (λi x σ H5 hx q=>?_) (λσ H5 q=>?_)
    ·obtain⟨q0,s5,M,acc,C,j,sC,J,cG,cP,cb,dn⟩:=q;apply cU q0;clear q0;intro v;rw[UI]at hx;obtain⟨c,bc,rfl⟩:∃c,as[i]? = some c/\x = .ref c:=by
      cases e:as[i]? with
      | none=>rw[e]at hx;cases hx
      | some c=>rw[e]at hx;cases hx;exact⟨c,rfl,rfl⟩
     obtain⟨g,bi,az⟩:=gf.at bc;obtain⟨wg,ap,a6⟩:=HL.at bi;have U:wg∈byW wss p:=UC ap;have GN:=(rC U).1;have Mz:g≠[]:=λe=>by
      have:=a6.len;rw[e]at this;exact GN (V6.mp this.symm)
     have bj:d c=some (.lst g):=(bk c (UC bc) g az Mz).trans az;have bu:Den K d (.ref c) (gD wg):=.lst (.of bj) (xB a6);have c1:af d H5:=sC.trans J;have X:af (wo A.ar H) H5:=λb o e=>by
      by_cases r:b=G
      ·rw[r,ak L,f]at e;cases e
      ·have h2:=(aJ e).1;exact s5 b o (Zq h2 r (b7 b o e))
     have Rv:SqT K H5 t [.int m,.int l]:=X.eA (p7 aq a0);refine⟨_,rfl,.inl ⟨rfl,_,.of j⟩,_,rfl,_,rfl,d,.ref c,n,wg,t,m,l,rfl,c1,a8,bu,ok.sub U,Rv,M,by have:=Mo hp (yL Qe) U;lia,λD2 ys C' H6 _ s6 c2 K1 _ QP ah a7 b3=>?_⟩;obtain⟨_,A3⟩:=aU M;have b6:H6 G=some (.lst acc):=zk s6 A3 j λ_ e=>by cases e
     have b9:af C H6:=(bB cP J).trans s6;have a5:C' G=none:=by
      cases e:C' G with
      | none=>rfl
      | some o=>
       rcases ah G (by rw[e];simp)with z | z
       ·exact absurd b8 z
       ·rw[j]at z;cases z
     have c6:acc.length<=wss.length:=by rw[dn.length,UA];exact Kq i
     have c5:ys.length<=wg.length:=by rw[b3.length,UA];exact pR GN
     have c7:=(rC U).2.1;refine⟨G,D2,acc,ys,rfl,rfl,b6,K1,UK (show _<=1000 by lia) (by decide),?_⟩;refine⟨⟨_,rfl⟩,ax (by rw[ak L,bp]) (bJ s5 s6),jn c2 b6,acc++ys,hU C C',ab,sC.trans Qi,ax (y7 cG a5) (Qt b9 QP),y7 cG a5,y7 cP a7,λb Z=>?_,?_⟩
     ·rcases Qw Z with z | z
      ·exact cb b z
      ·rcases ah b z with w | w
       ·exact ag b w
       ·refine .inr (y X w λe=>z (by rw[e];exact a7))
     ·rw[UX,show(byW wss p)[i]? = some wg from ap];simp only[Option.toList,List.flatMap_append,UL,Wg,List.flatMap_nil,Vd];exact(dn.same Qi).append (b3.same (RS b9 QP))
    ·obtain⟨q0,s5,M,acc,C,j,sC,J,cG,cP,cb,dn⟩:=q;apply cU q0;clear q0;intro v;have bl:as.length=(byW wss p).length:=by rw[gf.len,HL.len];rfl
     rw[UA,bl,UP (UD _)]at dn;have X:af (wo A.ar H) H5:=λb o e=>by
      by_cases r:b=G
      ·rw[r,ak L,f]at e;cases e
      ·have h2:=(aJ e).1;exact s5 b o (Zq h2 r (b7 b o e))
     refine⟨_,rfl,k G acc C H5 f X M j (a9.trans sC) J cb cP ?_⟩;rw[bf];exact dn
theorem FX (T:Tx K mg A):aB P w K mg base CX0 19 A.ka A.kh ["group","sieve"] (xf K A.ar):=DK T 13
def il (K:Xz):Sp:=λvs H Q _=>∃(u:V) (n:Nat) (wss:Ul),vs=[u]/\Den K H u (gD wss)/\GOk n wss /\
 ∀D acc H',H D=none->af H H'->H' D=some (.lst acc)->aD K (lim H H') acc ((bw (wss.map jb) n).map Pt.dat)->Q (.ref D) H'
theorem Pa {M:Za} (h:H M=some (.lst xs)):af (tO H) (wo M H):=λb o e=>by
 obtain⟨n,e⟩:=DD e;have:b≠M:=λz=>by rw[z,h]at e;cases e;exact n _ rfl
 rw[ak this];exact e
theorem nU:aC ["group"] ["group"] (ag (top 43)):=by refine⟨rfl,rfl,rfl,?_,rfl,?_,?_⟩<;>decide +kernel
theorem n5 (T:Tx K mg A):aB P w K mg base CX0 6 A.fj A.fg ["group"] (il K):=by
 have IQ:aB P w K mg base CX0 5 _ _ _ _:=MC (Fb T);refine T.d6.fn.ok nU (λvs H Q E h=>?_) (λ_ _ _ s H vs Q E hr h=>?_)
 ·obtain⟨u,n,wss,rfl,_⟩:=h;rfl
 ·obtain⟨u,n,wss,rfl,hd,N,k⟩:=h;obtain⟨a,xs,rfl,hq,S⟩:=DI hd;have Y:xs.length=wss.length:=by rw[S.length,UA]
  have ai:=N.le;have a9:=N.Fs;refine⟨_,ao (aG (av IQ hr (by rfl) T.joined.mg T.joined.fn.kp T.joined.bd .nil aA (aa (aY (N':=["words"]) (n:=1) (fi:=[]) (g:=aZ 0) rfl (bf (ag (top 43)) ["group"] (by decide +kernel)) (aT (pv 0)) (λs H G=>ay (i:=0) (nT _) rfl (Or.inl rfl) (.inr rfl)) (λs H G=>aV) (λs H G=>aY (wi:=zZ K (rD 0)) (N':=["word"]) (n:=1) (fi:=[]) (g:=aZ 0) rfl (tU (ag (top 43)) (by decide +kernel)) (aT (pv 0)) (λs H G=>ay (i:=0) (nT _) rfl (Or.inl rfl) (.inr rfl)) (λs H G=>aV) (λs H G=>bZ (aa aI (aa (pv 0) ae))))) ae))),?_⟩;refine⟨_,rfl,a,rfl,⟨_,hq⟩,λM hM=>?_⟩;refine aK (K:=K) (xs:=xs) (λi c W F=>(∃u,W=[u])/\af H F/\aD K (wo M F) c (((wss.take i).map jb).map be)) ab ⟨⟨_,rfl⟩,af.new hM,.nil⟩ (λi c W F _ _ q=>q.2.1.seq hq) (λi x c W F hx O q=>?_) (λc W F a5 q=>?_)
  ·obtain⟨R,z,f⟩:=q;apply cU R;clear R;intro u;obtain⟨v,r,hw,rfl,J⟩:=qG S hx;have hi:=aH hw;have X:=N.row v (UC hw);have ah:c.length<=64:=by rw[f.length,UA,UA,UT];lia
   refine cB ⟨_,rfl,r,rfl,⟨_,z.seq J⟩,λI hI=>?_⟩;have a4:I≠M:=(aw O hI).symm;refine aK (K:=K) (xs:=v.map V.str) (λj C m l=>(∃u,m=[u])/\af F l/\aD K (tO l) C (((v.take j).map Pt.word).map Pt.dat)) ab ⟨⟨_,rfl⟩,af.new hI,.nil⟩ (λj C m l _ _ q=>(z.trans q.2.1).seq J) (λj y C m l hy a7 q=>?_) (λC m l a6 q=>?_)
   ·obtain⟨R,o,b⟩:=q;apply cU R;clear R;intro u;obtain⟨B,d,rfl⟩:=e7 hy;have hj:=aH d;have a0:=X.2 B (UC d);have Um:C.length+1<=20:=by rw[b.length,UA,UA,UT];lia
    refine cB ⟨_,rfl,(by show 2<=Zg;decide),λt ht=>?_⟩;have st:af l (upd l t (.tup [.str "word",.str B])):=af.new ht;have pt:MU (upd l t (.tup [.str "word",.str B])) (.ref t) (.word B):=⟨t,rfl,ab⟩;have L:=st _ _ a7;refine⟨_,L,small (by lia),_,ab,⟨_,rfl⟩,ax hI (o.trans st),?_⟩;have et:(v.take (j+1)).map Pt.word=(v.take j).map Pt.word++[.word B]:=by rw[UX,d];simp
    rw[et,UL];have tt:=Oj (ys:=C++[.ref t]) L;exact(b.same ((QS st).trans tt)).append (.cons ((pt.den a0).same tt) .nil)
   ·obtain⟨_,o,b⟩:=q;rw[UA,UP (UD _)]at b;have U:=o _ _ O;refine⟨_,U,small (by lia),_,ab,⟨_,rfl⟩,ax hM (z.trans o),?_⟩;rw[CO,UX,hw];simp only[Option.toList,UL,UW,VQ];refine(f.same (ji o)).append (.cons (.lst (xs:=C) (.of (Zp a4 a6)) (b.same (Pa U))) .nil)
  ·obtain⟨_,z,f⟩:=q;rw[Y,UP (UD _)]at f;refine⟨M,c,wss.map jb,n,rfl,.of a5,f.same aM,λe=>N.ne (VC.mp e),by rw[UA];lia,λ_ a8=>?_,λD S6 l hD o a3 b=>?_⟩
   ·obtain⟨v,Z,rfl⟩:=UE.mp a8;have X:=N.row v Z;refine⟨⟨by unfold jb;rw[UA];lia,λp hp=>?_⟩,by unfold jb;rw[UA];exact X.1⟩;obtain⟨B,d,rfl⟩:=UE.mp hp;exact(X.2 B d).ok
   ·exact k D S6 l (z.free hD) (z.trans o) a3 (b.same (fN z.ll))
def lJ (K:Xz) (P:Za):Sp:=λvs H Q _=>∃(a t:Za) (zs:Uq) (s l:Int),vs=[.ref a,.ref t]/\Rd H a (.lst (zs.map V.str))/\zs.length<64/\(∀z∈zs,∃ws,gZ 12 z ws)/\SqT K H t [.int s,.int l]/\bG P H /\
 ∀(D:Za) (ms:Uq) (acc:Uj) (H':Hp) (ps:Uh),ms.Perm (fA [] zs)->UpS ms->H D=none->af (wo P H) H'->bG P H'->H' D=some (.lst acc)->ps.Perm (gth s l (ms.map λz=>Y4 z " "))->lB ps->nY ps->ps.length<64->Jq H H' acc->(∀x∈acc,x ≠ .ref D)->aD K (lim H H') acc (ps.map be)->Q (.ref D) H'
theorem BP (h:ms[i]? = some z):(ms.take (i+1)).map (λz=>Y4 z " ")=(ms.take i).map (λz=>Y4 z " ")++[Y4 z " "]:=by
 rw[UX,h];simp
theorem jw:aC ["lines","sieve","rows","patterns","group"] ["lines","sieve"] (ag (top 44)):=by refine⟨rfl,rfl,rfl,?_,rfl,?_,?_⟩<;>decide +kernel
theorem tq (T:Tx K mg A):aB P w K mg base CX0 20 A.lL A.i4 ["lines","sieve"] (lJ K A.ar):=by
 have qT:aB P w K mg base CX0 19 _ _ _ _:=MC (vP T);have kj:aB P w K mg base CX0 19 _ _ _ _:=MC (px T);have fh:aB P w K mg base CX0 19 _ _ _ _:=MC (jd T);have oJ:aB P w K mg base CX0 19 _ _ _ _:=MC (n5 T);have vq:aB P w K mg base CX0 19 _ _ _ _:=MC (FX T);refine T.gathered.fn.ok jw (λvs H Q E h=>?_) (λ_ _ _ s H vs Q E hr h=>?_)
 ·obtain⟨a,t,zs,s,l,rfl,_⟩:=h;rfl
 ·obtain⟨a,t,zs,W,l,rfl,cp,_,c5,d2,bt,k⟩:=h;refine⟨_,aj (kY (i:=2) (N':=["line"]) (n:=1) (fi:=[]) (g:=aZ 0) jw.nd rfl (Or.inl rfl) rfl (bf (ag (top 44)) ["lines","sieve","rows","patterns","group"] (by decide +kernel)) (aT (y3 (qo rfl hr) rfl (by rfl) T.p6 wU (by rfl) T.HU Cz (aa (pv 0) ae))) (λs H fp=>ay (i:=0) (nT _) rfl (Or.inl rfl) (.inr rfl)) (λs H fp=>aV) (λs H fp=>av fh hr (by rfl) T.words_of.mg T.words_of.fn.kp T.words_of.bd .nil aA (aa (pv 0) ae)))
   (aj (bh (i:=3) jw.nd rfl (Or.inl rfl) (bz ae))
   (aj (g9 Yx rfl (aT (av qT hr (by rfl) T.lj.mg T.lj.fn.kp T.lj.bd .nil aA (aa (pv 2) (aa (aY (N':=["words"]) (n:=1) (fi:=[]) (g:=aZ 0) rfl (bf (ag (top 44)) ["lines","sieve","rows","patterns","group"] (by decide +kernel)) (aT (pv 2)) (λs H fp=>ay (i:=0) (nT _) rfl (Or.inl rfl) (.inr rfl)) (λs H fp=>aV) (λs H fp=>aP (r:=dU K) bg (by rfl) T.c6 Yb (aa (pv 0) ae))) ae)))) (ay (i:=4) jw.nd rfl (Or.inl rfl)) (ao (bq (ee Y9 PySem.F.slot_list_extend PySem.F.type_list_extend xw (pv 3) (aa (aY (N':=["smaller"]) (n:=1) (fi:=[]) (g:=aZ 0) rfl (bf (ag (top 44)) ["lines","sieve","rows","patterns","group"] (by decide +kernel)) (aT (av vq hr (by rfl) T.parted.mg T.parted.fn.kp T.parted.bd .nil aA (aa (pv 4) (aa (pv 1) ae)))) (λs H fp=>ay (i:=0) (nT _) rfl (Or.inl rfl) (.inr rfl)) (λs H fp=>aV) (λs H fp=>av oJ hr (by rfl) T.d6.mg T.d6.fn.kp T.d6.bd .nil aA (aa (pv 0) ae))) ae)))))
   (ao (aG (av kj hr (by rfl) T.ordered.mg T.ordered.fn.kp T.ordered.bd .nil aA (aa (pv 3) ae)))))),?_⟩
  have dn:=uo zs;refine⟨_,rfl,a,zs,rfl,cp,by lia,by lia,λS ms hS bu cx=>⟨S,rfl,⟨_,.of ab⟩,λR hR=>?_⟩⟩;have dp:=bu.length_eq;have bx:∀z∈ms,∃ws,gZ 12 z ws:=λz hz=>c5 z ((iz.mp (bu.mem_iff.mp hz)).resolve_left (by simp));obtain⟨tb,bk⟩:=aU bt;have sS:af H (upd H S (.lst (ms.map V.str))):=af.new hS;have b6:(upd H S (.lst (ms.map V.str))) S=some (.lst (ms.map V.str)):=ab;generalize upd H S (.lst (ms.map V.str))=H1 at sS b6 hR ⊢;refine aK (K:=K) (xs:=ms.map V.str) (λi m B X=>(∃u,B=[u])/\af H1 X/\aD K (wo R X) m (((ms.take i).map λz=>Y4 z " ").map wsD)) ab ⟨⟨_,rfl⟩,af.new hR,.nil⟩ (λi m B X _ _ q=>.of (q.2.1 _ _ b6)) (λi x m B X hx ba q=>?_) (λm B X ct q=>?_)
  ·obtain⟨U,s2,a4⟩:=q;apply cU U;clear U;intro u;obtain⟨z,hz,rfl⟩:=e7 hx;have hi:=aH hz;obtain⟨ws,f⟩:=bx z (UC hz);have cu:=f.ok (by decide);have bb:m.length<=64:=by rw[a4.length,UA,UA,UT];lia
   refine cB ⟨_,rfl,z,rfl,UK cu.2 (by decide),λL hL=>?_⟩;have sL:af X (upd X L (.lst ((Y4 z " ").map V.str))):=af.new hL;have cm:L≠R:=(aw ba hL).symm;refine⟨_,sL _ _ ba,small (by lia),_,ab,⟨_,rfl⟩,ax hR (s2.trans sL),?_⟩;rw[CO,BP hz,UL];refine(a4.same (ji sL)).append (.cons (.lst (xs:=(Y4 z " ").map V.str) (.of (Zp cm ab)) ?_) .nil);rw[f.split];exact jY λw hw=>(f.wd w hw).ok
  ·obtain⟨_,s2,a4⟩:=q;rw[UA,UP (UD _)]at a4;have ah:aD K X m ((ms.map λz=>Y4 z " ").map wsD):=a4.same aM;have a0:iY (ms.map λz=>Y4 z " "):=⟨by rw[UA];lia,λws cn=>by
    obtain⟨z,hz,rfl⟩:=UE.mp cn;obtain⟨ws,f⟩:=bx z hz;rw[f.split];exact⟨f.pos,f.le,λw hw=>⟨(f.wd w hw).word,UK (f.wd w hw).len (by decide),(f.wd w hw).ok⟩⟩⟩
   have cs:(ms.map λz=>Y4 z " ").length=ms.length:=UA _;have kk:=k;generalize hrs:(ms.map λz=>Y4 z " ")=rss at ah a0 cs;have OT:m.length=rss.length:=by rw[ah.length,UA]
   have aq:=sS.trans s2;refine⟨UU _,λG hG=>?_⟩;have sG:af X (upd X G (.lst [])):=af.new hG;have b2:(upd X G (.lst [])) G=some (.lst []):=ab;have da:=aq.trans sG;have a6:=sG _ _ ct;generalize upd X G (.lst [])=H3 at sG b2 da a6 ⊢;refine⟨_,rfl,_,rfl,R,rfl,⟨_,.of a6⟩,λKL b9=>?_⟩;refine aK (K:=K) (xs:=m) (λi O B H4=>(∃u,B=[u])/\af H3 H4/\O=((rss.take i).map λws=>(Sum.inl (ws.length:Int):Key)).map kV) ab ⟨⟨_,rfl⟩,af.new b9,rfl⟩ (λi O B H4 _ _ q=>.of (q.2.1 _ _ a6)) (λi x O B H4 hx cy q=>?_) (λO B H4 c0 q=>?_)
   ·obtain⟨U,s4,rfl⟩:=q;apply cU U;clear U;intro u;have hi:=aH hx;obtain⟨ws,r,hw,rfl,c9⟩:=qG ah hx;refine cB ⟨_,rfl,r,_,rfl,.inl ((sG.trans s4).seq c9),_,cy,small (by rw[UA,UA,UT];lia),_,ab,⟨_,rfl⟩,ax b9 s4,?_⟩;rw[UX,hw];simp[kV]
   ·obtain⟨_,s4,rfl⟩:=q;rw[OT,UP (UD _)]at c0;refine⟨R,KL,m,_,rfl,.of (s4 _ _ a6),.of c0,by rw[UA];lia,by lia,λD as H5 hD s5 a7 _ gf=>⟨D,rfl,⟨_,.of a7⟩,?_⟩⟩;have c1:af X H5:=sG.trans (s4.trans s5);have ai:af H H5:=aq.trans c1;have a8:=(s4.trans s5) _ _ b2;have dc:bG A.ar H5:=aF bt ai;have A3:=ai _ _ bk;have au:G≠A.ar:=nn a8 A3
    have b8:H G=none:=aq.free hG;have dh:D≠G:=λe=>by rw[e,s4 _ _ b2]at hD;cases hD
    have dd:D≠A.ar:=nn a7 A3
    have dk:aD K (wo G H5) m (rss.map wsD):=ah.same (bB hG c1);have HL:=DV (xN dk) (rss.map λws=>(Sum.inl (ws.length:Int):Key));have b5:(wo G H5) A.ar=some (.tbl tb):=by rw[ak au.symm];exact A3
    refine iM (K:=K) (xs:=as.map V.ref) (λi B H6=>(∃v,B=[some (.ref a),some (.ref t),some (.ref R),some (.ref G),v])/\af (wo A.ar (wo G H5)) H6/\bG A.ar H6/\∃uS:Uj,H6 G=some (.lst uS)/\aD K (wo G H6) uS ((((byL rss).take i).flatMap (ya W l)).map be))
     ⟨⟨_,rfl⟩,aM.trans aM,dc,[],a8,.nil⟩ (λi B H6 _ q=>.of (q.2.1 _ _ (Zq dd dh a7))) (λi x B H6 hx q=>?_) (λB H6 q=>?_)
    ·obtain⟨U,s6,a3,uS,a9,Y⟩:=q;apply cU U;clear U;intro v;rw[UI]at hx;obtain⟨c,dj,rfl⟩:∃c,as[i]? = some c/\x = .ref c:=by
      cases e:as[i]? with
      | none=>rw[e]at hx;cases hx
      | some c=>rw[e]at hx;cases hx;exact⟨c,rfl,rfl⟩
     obtain⟨g,cg,b0⟩:=gf.at dj;obtain⟨I,bj,b7⟩:=HL.at cg;have c3:I∈byL rss:=UC bj;have GN:=(CY c3).1;have Mz:g≠[]:=λe=>by
      have:=b7.len;rw[e]at this;exact GN (V6.mp this.symm)
     have cv:c≠G:=λz=>by rw[z,a8]at b0;cases b0;exact Mz rfl
     have d4:Den K (wo A.ar (wo G H5)) (.ref c) (gD I):=zp b5 (.lst (.of (Zp cv b0)) (xB b7));have J:=rX a0 c3;have S3:SqT K H6 t [.int W,.int l]:=s6.eA (p7 b5 ((bB b8 ai).eA d2));refine⟨_,rfl,.inl ⟨rfl,_,.of a9⟩,_,rfl,_,rfl,wo A.ar (wo G H5),.ref c,gn I,I,t,W,l,rfl,s6,bp,d4,J,S3,a3,by have:=L0 (gn I) I;have:=J.Fs;lia,λD2 ys C H7 _ s7 b4 K1 _ d3 _ _ c4=>⟨D2,rfl,⟨_,.of K1⟩,λM hM=>?_⟩⟩;obtain⟨bo,yb⟩:=aU a3;obtain⟨_,_⟩:=aU b4;have b3:H7 G=some (.lst uS):=zk s7 yb a9 λ_ e=>by cases e
     have cc:M≠G:=(aw b3 hM).symm;have c8:ys.length=(prt (gn I) W l 13 I).length:=by rw[c4.length,UA]
     have d5:=pR (n:=gn I) (s:=W) (l:=l) (N:=13) GN;have cw:=J.le;have d0:(upd H7 M (.lst [])) M=some (.lst []):=ab;refine aK (K:=K) (xs:=ys) (λj O B H8=>(∃u,B=[u])/\af H7 H8/\aD K (lim (upd H7 M (.lst [])) H8) O ((((prt (gn I) W l 13 I).take j).map λg'=>bw (g'.map jb) (gn I)).map be)) ab ⟨⟨_,rfl⟩,af.new hM,.nil⟩ (λj O B H8 _ _ q=>.of (q.2.1 _ _ K1)) (λj y O B H8 hy b1 q=>?_) (λO B H8 d9 q=>?_)
     ·obtain⟨U,s8,Z⟩:=q;apply cU U;clear U;intro u;have hj:=aH hy;obtain⟨d,a5,de⟩:=c4.get hy;rw[UI]at a5;obtain⟨g',bl,rfl⟩:∃g',(prt (gn I) W l 13 I)[j]? = some g'/\d=gD g':=by
       cases e:(prt (gn I) W l 13 I)[j]? with
       | none=>rw[e]at a5;cases a5
       | some g'=>rw[e]at a5;cases a5;exact⟨g',rfl,rfl⟩
      have bb:O.length<=64:=by rw[Z.length,UA,UA,UT];lia
      refine cB ⟨_,rfl,y,gn I,g',rfl,de.same (d3.trans s8),lF J g' (UC bl),λDp Th H9 c2 s9 Su di=>?_⟩;have d8:=s9 _ _ b1;have Tf:Dp≠M:=(aw b1 c2).symm;refine⟨_,d8,small (by lia),_,ab,⟨_,rfl⟩,ax hM (s8.trans s9),?_⟩;rw[qM d0,UX,bl];simp only[Option.toList,UL,UW,VQ];have dg:LL (upd H7 M (.lst [])) H8:=λb zs e=>by
       by_cases hb:b=M
       ·exact⟨O,by rw[hb];exact b1⟩
       ·rw[ap hb]at e;exact⟨zs,s8 _ _ e⟩
      have cj:(upd H7 M (.lst [])) Dp=none:=by rw[ap Tf];exact s8.free c2
      exact(Z.same (c7 s9)).append (.cons (.lst (xs:=Th) (.of ((iq cj).trans Su)) (di.same (fN dg))) .nil)
     ·obtain⟨_,s8,Z⟩:=q;rw[c8,UP (UD _)]at Z;have bc:=s8 _ _ b3;have Pk:uS.length<=rss.length:=by rw[Y.length,UA];exact A6 W l rss i
      have bb:O.length<=64:=by rw[Z.length,UA,UA];lia
      have R6:=a0.1;refine⟨G,M,uS,O,rfl,rfl,bc,d9,UK (show _<=1000 by lia) (by decide),?_⟩;have cf:(wo A.ar (wo G H5)) G=none:=by rw[ak au,bp]
      refine⟨⟨_,rfl⟩,ax cf ((bJ s6 s7).trans s8),jn (aF b4 s8) bc,uS++O,ab,?_⟩;rw[CO,UX,show(byL rss)[i]? = some I from bj];simp only[Option.toList,List.flatMap_append,UL,Wg,List.flatMap_nil,Vd];have d7:(wo G H6) A.ar=some (.tbl bo):=by rw[ak au.symm];exact yb
      have sa:af (wo A.ar (wo G H6)) (wo G H8):=λb o e=>by
       obtain⟨h1,e⟩:=aJ e;obtain⟨h2,e⟩:=aJ e;rw[ak h2];exact s8 _ _ (s7 _ _ (Zp h1 e))
      have ck:(upd H7 M (.lst [])) G=some (.lst uS):=by rw[ap cc.symm];exact b3
      exact((fO d7 Y).same sa).append (Z.same (NT ck))
    ·obtain⟨U,s6,a3,uS,a9,Y⟩:=q;apply cU U;clear U;intro v;have cz:as.length=(byL rss).length:=by rw[gf.len,HL.len];rfl
     rw[UA,cz,UP (UD _)]at Y;have cw:(gth W l rss).length<=rss.length:=by
      have:=A6 W l rss (byL rss).length
      rwa [UP (UD _)]at this
     have d5:uS.length=(gth W l rss).length:=by rw[Y.length,UA];rfl
     have R6:=a0.1;have J:nY (gth W l rss):=Il a0;have az:af (wo A.ar H) H6:=λb o e=>by
      obtain⟨h1,e⟩:=aJ e;have h2:b≠G:=nn e b8
      exact s6 b o (Zq h1 h2 (ai b o e))
     refine⟨_,rfl,G,uS,gth W l rss,rfl,.of a9,by lia,Y.same aM,λps br=>⟨UK (J ps br).2.2 (by decide),λp hp=>((J ps br).1 p hp).ok⟩,λD9 R3 H9 ps df s9 Q8 Ci k6 fr dm cq=>?_⟩;obtain⟨bo,yb⟩:=aU a3;have d1:=s9 _ _ yb;have bi:∀{b:Za}{zs:Uj},H6 b=none->H9 b=some (.lst zs)->H b=none:=λ{b zs} e1 e2=>by
      have h1:b≠A.ar:=nn e2 d1
      have:=az.free e1
      rwa [ak h1]at this
     refine k D9 ms R3 H9 ps bu cx (bi df Q8) (az.trans s9) (aF a3 s9) Q8 (by rw[hrs];exact Ci) k6 (λq hq=>J q (Ci.mem_iff.mp hq)) (by rw[Ci.length_eq];lia) (λx hx=>?_) dm (cq.same (fN λb zs e=>?_))
     ·obtain⟨t',ys,e1,e2,e3,e4⟩:=fr x hx;exact⟨t',ys,e1,bi e2 e3,e3,e4⟩
     ·have h1:b≠A.ar:=nn e bk
      exact⟨zs,az _ _ (Zp h1 e)⟩
def vm (K:Xz):Sp:=λvs H Q _=>∃z:Str,vs=[.str z]/\LOk z/\Y1 z=true/\(Y4 z " ").length<=12/\(∀w∈Y4 z " ",dN w=true)/\∀H',af H H'->Q (.bl true) H'
theorem Ed (n:Nat):(List.replicate n true).all id=true:=by
 rw[U4];intro x hx;exact(List.mem_replicate.mp hx).2
theorem vD:aC ["thing","words"] ["thing"] (ag (top 18)):=by refine⟨rfl,rfl,rfl,?_,rfl,?_,?_⟩<;>decide +kernel
theorem B4 (T:Tx K mg A):aB P w K mg base CX0 3 A.rE A.qZ ["thing"] (vm K):=by
 have N:aB P w K mg base CX0 2 _ _ _ _:=MC (jd T);have L:aB P w K mg base CX0 2 _ _ _ _:=MC (o6 T);refine T.tV.fn.ok vD (λR H Q E h=>?_) (λ_ _ _ s H R Q E J h=>?_)
 ·obtain⟨z,rfl,_⟩:=h;rfl
 ·obtain⟨z,rfl,I,o,M,F,k⟩:=h;refine⟨_,aj (bx (ia (cY (aP (r:=MS K) zG (by rfl) T.iB gJ (aa (pv 0) (aa (tZ (v:=.ty "str") (by rfl) T.LZ GF rfl) ae))))) (ao (aG sZ)) aS)
   (aj (bh (i:=1) vD.nd rfl (Or.inl rfl) (av N J (by rfl) T.words_of.mg T.words_of.fn.kp T.words_of.bd .nil aA (aa (pv 0) ae)))
   (ao (aG (o4 (cM xh (aP (r:=dU K) bg (by rfl) T.c6 Yb (aa (pv 1) ae)) (gF (v:=.int 12) (by rfl) (YE T.zr) ⟨_,rfl⟩) (aR _)) (pF (aP (r:=EJ K) (mq rfl) (by rfl) T.zE vM (aa (aY (N':=["word"]) (n:=1) (fi:=[]) (g:=aZ 0) rfl (bf (ag (top 18)) ["thing","words"] (by decide +kernel)) (aT (pv 1)) (λs H C=>ay (i:=0) (nT _) rfl (Or.inl rfl) (.inr rfl)) (λs H C=>aV) (λs H C=>av L J (by rfl) T.gH.mg T.gH.fn.kp T.gH.bd .nil aA (aa (pv 0) ae))) ae))))))),?_⟩
  refine⟨_,rfl,_,"str",_,true,rfl,.str z,by rfl,_,rfl,br ?_⟩;refine⟨_,rfl,z,rfl,I,λl q=>?_⟩;have t:af H (upd H l (.lst ((Y4 z " ").map V.str))):=af.new q;have e:=uC (y:= " ") o;generalize Y4 z " " = ws at t M F e;have j:SqL K (upd H l (.lst (ws.map V.str))) l (ws.map V.str):=.of ab;refine⟨_,rfl,l,_,rfl,.inl j,_,_,rfl,rfl,_,rfl,?_⟩;rw[UA,Zk (show(ws.length:Int)<=12 by lia)];refine cq ?_;refine⟨_,rfl,l,rfl,⟨_,j⟩,λD m=>?_⟩;generalize upd H l (.lst (ws.map V.str))=H1 at t j m;refine aK (K:=K) (xs:=ws.map V.str) (λi a f c=>(∃u,f=[u])/\af H1 c/\a=(List.replicate i true).map V.bl) ab ⟨⟨_,rfl⟩,af.new m,rfl⟩ (λi a f c _ _ p=>p.2.1.seq j) (λi x a f c O b p=>?_) (λa f c b p=>?_)
  ·obtain⟨⟨u,rfl⟩,B,rfl⟩:=p;obtain⟨w,d,rfl⟩:=e7 O;have S:=aH d;have G:=UC d;refine cB ⟨_,rfl,w,rfl,UK (e w G).2 I,_,b,small (by rw[UA,WA];lia),_,ab,⟨_,rfl⟩,ax m B,?_⟩;rw[F w G,List.replicate_succ',UL];rfl
  ·obtain⟨_,B,rfl⟩:=p;refine⟨D,_,rfl,.of b,?_⟩;rw[Ed];exact k c (t.trans B)
def jK (K:Xz) (A:Ad):Sp:=λvs H Q _=>∃(x t r b dx:Za) (rv bv:Uj) (rs:List (Int×Str)) (bs:Uh) (s l:Int),vs=[.ref x,.ref t,.ref r,.ref b]/\H x=some (.ins A.aL dx [])/\SqT K H t [.int s,.int l]/\H r=some (.lst rv)/\aD K H rv (rs.map zw)/\H b=some (.lst bv)/\aD K H bv (bs.map be)/\rs.length<64/\(∀q∈rs,∃ws,gZ 12 q.2 ws)/\bs.length<64/\nY bs/\bG A.ar H /\
 ∀(H':Hp) (f fl:Za) (fv lv:Uj) (fnd:Uh) (fls:List (Option Ui)),H f=none->H fl=none->af (wo x (wo A.ar H)) H'->bG A.ar H'->H' x=some (.ins A.aL dx [("rows",.ref r),("by_hand",.ref b),("found",.ref f),("falls",.ref fl)]) ->
  H' f=some (.lst fv)->aD K (lim H H') fv (fnd.map be)->H' fl=some (.lst lv)->aD K (lim H H') lv (fls.map oP)->eh s l (e9 bs (rs.map (·.2))) fnd->yE bs fnd (rs.map (·.2)) fls->Q .non H'
theorem Jc {bs:Uh} (h:zs[i]? = some z):e9 bs (zs.take (i+1))=e9 bs (zs.take i)++if (bs.filter (bT z)).isEmpty then[z]else[]:=by
 unfold e9;rw[UX,h,Vi]
 congr 1
 show List.filter _ [z]=_;rw[VP,List.filter_nil]
theorem DL {bs:Uh}:(e9 bs zs).length<=zs.length:=U9 _ _
theorem jM:aC ["self","sieve","rows","by_hand","lines","first"] ["self","sieve","rows","by_hand"] (ag (mIn 54 0)):=by refine⟨rfl,rfl,rfl,?_,rfl,?_,?_⟩<;>decide +kernel
theorem ou (T:Tx K mg A):aB P w K mg base CX0 21 A.fU A.iC ["self","sieve","rows","by_hand"] (jK K A):=by
 have i7:aB P w K mg base CX0 20 _ _ _ _:=MC (tq T);have oB:aB P w K mg base CX0 20 _ _ _ _:=MC (ug T);refine T.pC.fn.ok jM (λvs H Q E h=>?_) (λ_ _ _ s H vs Q E hr h=>?_)
 ·obtain⟨x,t,r,b,M,rv,bv,rs,bs,s0,l0,rfl,_⟩:=h;rfl
 ·obtain⟨x,t,r,b,M,rv,bv,rs,bs,s0,l0,rfl,hx,d9,cp,bw,hb,bx,d4,d7,_,c0,c4,k⟩:=h;have SX:rv.length=rs.length:=by rw[bw.length,UA]
  have Uw:bv.length=bs.length:=by rw[bx.length,UA]
  have d8:∀p∈bs,POk p:=λp hp=>⟨UK (c0 p hp).2.2 (by decide),λq hq=>((c0 p hp).1 q hq).ok⟩;obtain⟨_,a8⟩:=aU c4;have cz:x≠A.ar:=λe=>by rw[<-e,hx]at a8;cases a8
  refine⟨_,aj (kY (i:=4) (N':=["moment","line"]) (n:=2) (fi:=[]) (g:=u7 K 2 (eR (aZ 0) (eR (aZ 1) vY))) jM.nd rfl (Or.inl rfl) rfl (bf (ag (mIn 54 0)) ["self","sieve","rows","by_hand","lines","first"] (by decide +kernel)) (aT (pv 2)) (λs H Z=>fG rfl (ba (ay (i:=0) (show(["moment","line"]:Uq).Nodup by decide +kernel) rfl (Or.inl rfl) (.inr rfl)) (ba (ay (i:=1) (show(["moment","line"]:Uq).Nodup by decide +kernel) rfl (Or.inl rfl) (.inr rfl)) dO))) (λs H Z=>aV) (λs H Z=>pv 1))
   (aj (kY (i:=5) (N':=["line","by_hand"]) (n:=1) (fi:=[3]) (g:=aZ 0) jM.nd rfl (Or.inl rfl) rfl (bf (ag (mIn 54 0)) ["self","sieve","rows","by_hand","lines","first"] (by decide +kernel)) (aT (pv 4)) (λs H Z=>ay (i:=0) (show(["line","by_hand"]:Uq).Nodup by decide +kernel) rfl (Or.inl rfl) (.inr rfl)) (λs H Z=>aV) (λs H Z=>av oB hr (by rfl) T.dQ.mg T.dQ.fn.kp T.dQ.bd .nil aA (aa (pv 0) (aa (pv 1) ae))))
   (aj (lQ T.bQ T.dw (pv 0) (pv 2))
   (aj (lQ T.bQ T.cm (pv 0) (pv 3))
   (aj (lQ T.bQ T.iH (pv 0) (av i7 hr (by rfl) T.gathered.mg T.gathered.fn.kp T.gathered.bd .nil aA (aa (aY (N':=["line","fall"]) (n:=2) (fi:=[]) (g:=u7 K 2 (eR (aZ 0) (eR (aZ 1) vY))) rfl (bf (ag (mIn 54 0)) ["self","sieve","rows","by_hand","lines","first"] (by decide +kernel)) (zi (by rfl) T.BI (aa (pv 4) (aa (pv 5) ae))) (λs H Z=>fG rfl (ba (ay (i:=0) (show(["line","fall"]:Uq).Nodup by decide +kernel) rfl (Or.inl rfl) (.inr rfl)) (ba (ay (i:=1) (show(["line","fall"]:Uq).Nodup by decide +kernel) rfl (Or.inl rfl) (.inr rfl)) dO))) (λs H Z=>dS (aO Dh (pv 1) Cb (aR _))) (λs H Z=>pv 0)) (aa (pv 1) ae))))
   (ao (lQ T.bQ T.m6 (pv 0) (aY (N':=["line","fall","self"]) (n:=2) (fi:=[0]) (g:=u7 K 2 (eR (aZ 0) (eR (aZ 1) vY))) rfl (bf (ag (mIn 54 0)) ["self","sieve","rows","by_hand","lines","first"] (by decide +kernel)) (zi (by rfl) T.BI (aa (pv 4) (aa (pv 5) ae))) (λs H Z=>fG rfl (ba (ay (i:=0) (show(["line","fall","self"]:Uq).Nodup by decide +kernel) rfl (Or.inl rfl) (.inr rfl)) (ba (ay (i:=1) (show(["line","fall","self"]:Uq).Nodup by decide +kernel) rfl (Or.inl rfl) (.inr rfl)) dO))) (λs H Z=>aV) (λs H Z=>jT (aO Dh (pv 1) Cb (aR _)) (av oB hr (by rfl) T.dQ.mg T.dQ.fn.kp T.dQ.bd .nil aA (aa (pv 0) (aa (bK T.bQ T.iH (pv 2)) ae))) (pv 1))))))))),?_⟩
  refine⟨_,rfl,r,rfl,⟨_,.of cp⟩,λL hL=>?_⟩;refine aK (K:=K) (xs:=rv) (λi a J H1=>(∃u v,J=[u,v])/\af H H1/\a=((rs.take i).map (·.2)).map V.str) ab ⟨⟨_,_,rfl⟩,af.new hL,rfl⟩ (λi a J H1 _ _ q=>.of (q.2.1 _ _ cp)) (λi y a J H1 hy dg q=>?_) (λa J H1 W q=>?_)
  ·obtain⟨q0,s1,rfl⟩:=q;apply zo q0;clear q0;intro u v;obtain⟨p,_,hp,rfl,d6,_⟩:=Bp bw hy;have hi:=aH hp;refine Gu (s1.eA d6) ⟨_,rfl,_,dg,small (by simp only[UA,UT];lia),_,ab,⟨_,_,rfl⟩,ax hL s1,?_⟩;rw[UX,hp];simp
  obtain⟨_,s1,rfl⟩:=q;rw[SX,UP (UD _)]at W;have ah:∀z∈rs.map (·.2),∃ws,gZ 12 z ws:=λz I=>by
   obtain⟨q,hq,rfl⟩:=UE.mp I;exact d7 q hq
  have dp:(rs.map (·.2)).length<64:=by rw[UA];exact d4
  generalize rs.map (·.2)=zs at W ah dp k
  have bu:∀z∈zs,LOk z/\Y1 z=true:=λz I=>by
   obtain⟨ws,hw⟩:=ah z I;have:=hw.ok (by decide);exact⟨UK this.2 (by decide),this.1⟩
  refine⟨_,rfl,L,rfl,⟨_,.of W⟩,λF hF=>?_⟩;refine aK (K:=K) (xs:=zs.map V.str) (λi a J U=>(∃u,J=[u,some (.ref b)])/\af H1 U/\∃os:List (Option Ui),aD K (wo F (lim H U)) a (os.map oP)/\os.length=i/\∀(j:Nat) z o,zs[j]? = some z->os[j]? = some o->Ez bs z o) ab ⟨⟨_,rfl⟩,af.new hF,[],.nil,rfl,λj z o _ e=>by cases e⟩ (λi a J U _ _ q=>.of (q.2.1 _ _ W)) (λi y a J U hy cc q=>?_) (λfo J U a3 q=>?_)
  ·obtain⟨q0,s2,os,dn,a4,b4⟩:=q;apply cU q0;clear q0;intro u;obtain⟨z,I,rfl⟩:=e7 hy;have a5:=bu z (UC I);have hi:=aH I;have l:=s1.trans s2;refine cB ⟨_,rfl,_,rfl,z,b,bv,bs,rfl,.of (l _ _ hb),by lia,bx.same l,d8,a5.1,a5.2,λrr H3 s3 hf=>?_⟩;obtain⟨o,ho,cx⟩:=zA hf;have aq:a.length=i:=by rw[dn.length,UA];exact a4
   refine⟨_,s3 _ _ cc,small (by lia),_,ab,⟨_,rfl⟩,ax hF (s2.trans s3),os++[o],?_,by rw[UH,a4];rfl,λj z' o' S m=>?_⟩
   ·rw[t9,UL];exact(dn.same (ji (c7 s3))).append (.cons (cx.same (IG l cc)) .nil)
   ·by_cases hj:j<os.length
    ·rw[U6 hj]at m;exact b4 j z' o' S m
    ·have b2:=aH m;rw[UH,UQ]at b2;have b8:j=i:=by lia
     rw[Vb (by lia),show j - os.length=0 by lia]at m;cases m;rw[b8,I]at S;cases S;exact ho
  obtain⟨_,s2,os,bj,a4,b4⟩:=q;rw[UA]at a4;have dF:aD K (lim H U) fo (os.map oP):=bj.same aM;have c9:fo.length=zs.length:=by rw[dF.length,UA];exact a4
  have l:=s1.trans s2;have a7:=l _ _ hx;have aw:=s2 _ _ W;have bz:=aF c4 l;clear bj s1 s2 W;refine⟨_,rfl,_,rfl,x,M,_,rfl,a7,by decide,?_⟩;refine eY bz a7 λH3 a0 f3 c8=>?_;replace a0:H3 x=some (.ins A.aL M [("rows",.ref r)]):=a0;refine⟨_,rfl,_,rfl,x,M,_,rfl,a0,by simp,?_⟩;refine eY c8 a0 λH4 b9 f0 cs=>?_;replace b9:H4 x=some (.ins A.aL M [("rows",.ref r),("by_hand",.ref b)]):=b9;have f4:∀c,c≠x->H4 c=U c:=λc h=>(f0 c h).trans (f3 c h);clear c8 a0 f3;have cg:L≠x:=nn hL hx
  have bo:F≠x:=nn a3 a7
  have bi:H4 L=some (.lst (zs.map V.str)):=by rw[f4 _ cg];exact aw
  have bk:H4 F=some (.lst fo):=by rw[f4 _ bo];exact a3
  have OW:SqT K H4 t [.int s0,.int l0]:=by
   have f:=t8 hx d9;exact(show af (wo x H) H4 fromλc o e=>by
    obtain⟨B,e⟩:=aJ e;rw[f4 c B];exact l _ _ e).eA f
  have cf:∀(i:Nat) z y,zs[i]? = some z->fo[i]? = some y->∃o,Ez bs z o/\os[i]? = some o/\decide (y=V.non)=o.isNone:=λi z y I hy=>by
   obtain⟨o,ho,hd⟩:=DO dF hy;exact⟨o,b4 i z o I ho,ho,BS hd⟩
  refine⟨_,rfl,_,rfl,L,F,rfl,⟨_,.of bi⟩,⟨_,.of bk⟩,λGL cv=>?_⟩;refine Am (K:=K) (xs:=zs.map V.str) (ys:=fo) (λi a J H5=>(∃u v,J=[u,v])/\af H4 H5/\a=(e9 bs (zs.take i)).map V.str) ab ⟨⟨_,_,rfl⟩,af.new cv,rfl⟩ (λi a J H5 _ q=>⟨.of (q.2.1 _ _ bi),.of (q.2.1 _ _ bk)⟩) (λi xx y a J H5 tt bb hy O q au=>?_) (λa J H5 c3 q=>?_)
  ·obtain⟨q0,s5,rfl⟩:=q;apply zo q0;clear q0;intro u v;obtain⟨z,I,rfl⟩:=e7 bb;obtain⟨o,ho,c5,Of⟩:=cf i z y I hy;have st:af H5 (upd H5 tt (.tup [.str z,y])):=af.new au;have hi:=aH I;have aq:=DL (bs:=bs) (zs:=zs.take i);rw[UT]at aq;refine⟨tt,_,rfl,.of ab,rfl,_,_,rfl,_,_,rfl,rfl,_,rfl,rfl,_,rfl,?_⟩;rw[Of,ho.none];have a9:=Jc (bs:=bs) I;cases he:(bs.filter (bT z)).isEmpty with
   | true=>
    rw[he]at a9;refine cq ⟨_,rfl,_,st _ _ O,small (by rw[UA];lia),_,ab,⟨_,_,rfl⟩,ax cv (s5.trans st),?_⟩;rw[a9,UL];rfl
   | false=>
    rw[he]at a9;refine br ⟨_,st _ _ O,⟨_,_,rfl⟩,s5.trans st,?_⟩;rw[a9];simp
  obtain⟨_,s5,rfl⟩:=q;rw[UA,c9,V1,UP (UD _)]at c3;have Ur:=DL (bs:=bs) (zs:=zs);refine⟨_,rfl,GL,t,e9 bs zs,s0,l0,rfl,.inl c3,by lia,λz I=>ah z (U0.mp I).1,s5.eA OW,aF cs s5,λD ms Gv H6 ps d5 hu hD s6 cn d2 dh dk b7 IP _ _ b5=>?_⟩;have oo:eh s0 l0 (e9 bs zs) ps:=⟨⟨ms,d5,hu,dh⟩,dk,b7,IP⟩;have b1:=s5 _ _ b9;have b0:H6 x=some (.ins A.aL M [("rows",.ref r),("by_hand",.ref b)]):=s6 _ _ (Zp cz b1);have as:D≠x:=nn hD b1
  have Uo:Gv.length=ps.length:=by rw[b5.length,UA]
  refine⟨_,rfl,x,M,_,rfl,b0,by simp,?_⟩;refine eY cn b0 λH7 N f7 bh=>?_;replace N:H7 x=some (.ins A.aL M [("rows",.ref r),("by_hand",.ref b),("found",.ref D)]):=N;obtain⟨ct,IC⟩:=aU bh;have R:∀c o,c≠x->c≠A.ar->U c=some o->H7 c=some o:=λc o f B e=>by
   rw[f7 c f];refine s6 _ _ ?_;rw[ak B];refine s5 _ _ ?_;rw[f4 c f];exact e
  have dv:∀c o,c≠x->c≠A.ar->H5 c=some o->H7 c=some o:=λc o f B e=>by
   rw[f7 c f];exact s6 _ _ (Zp B e)
  have bc:∀c o,c≠x->H6 c=some o->H7 c=some o:=λc o f e=>by rw[f7 c f];exact e
  have c1:∀{c:Za}{ys:Uj},U c=some (.lst ys)->c≠A.ar:=λ{c ys} h e=>by
   obtain⟨q,hq⟩:=aU bz;rw[e,hq]at h;cases h
  have bl:H7 L=some (.lst (zs.map V.str)):=R _ _ cg (c1 aw) aw;have bg:H7 F=some (.lst fo):=R _ _ bo (c1 a3) a3;have c2:H7 D=some (.lst Gv):=bc _ _ as d2;have bt:∀d,H x≠some (.lst d):=λd e=>by rw[hx]at e;cases e
  have cj:∀d,H A.ar≠some (.lst d):=λd e=>by rw[a8]at e;cases e
  have du:∃C M fs,lim H U x=some (.ins C M fs):=⟨_,_,_,by rw[bO bt];exact a7⟩;have cw:∃ps,lim H U A.ar=some (.tbl ps):=⟨_,by rw[bO cj];exact l _ _ a8⟩;have ck:∃C M fs,lim H5 H6 x=some (.ins C M fs):=⟨_,_,_,by rw[bO λd e=>by rw[b1]at e;cases e];exact b0⟩;have bq:∃ps,lim H5 H6 A.ar=some (.tbl ps):=by
   obtain⟨_,d3⟩:=aU (aF cs s5);obtain⟨q6,dq⟩:=aU cn;exact⟨q6,by rw[bO λd e=>by rw[d3]at e;cases e];exact dq⟩
  have dc:∀c d,(∀ys,H5 c≠some (.lst ys))->c≠x->H c≠some (.lst d):=λc d f B e=>f d (s5 _ _ (by rw[f4 c B];exact l _ _ e));have da:aD K H7 Gv (ps.map be):=pY b5 ck bq λc o f _ _ e=>bc c o f e;have dt:∀p∈ps,POk p:=λp hp=>⟨UK (b7 p hp).2.2 (by decide),λq hq=>((b7 p hp).1 q hq).ok⟩;refine⟨_,rfl,_,rfl,L,F,rfl,⟨_,.of bl⟩,⟨_,.of bg⟩,λG hG=>?_⟩;have cy:∀c o,c≠x->c≠A.ar->U c=some o->c≠G:=λc o f B e z=>by rw[<-z,R c o f B e]at hG;cases hG
  refine Am (K:=K) (xs:=zs.map V.str) (ys:=fo) (λi a J H8=>(∃u v,J=[u,v,some (.ref x)])/\af H7 H8/\∃ls:List (Option Ui),aD K (wo G (lim H H8)) a (ls.map oP)/\ls.length=i/\∀(j:Nat) z o,zs[j]? = some z->ls[j]? = some o->mG bs ps z o) ab ⟨⟨_,_,rfl⟩,af.new hG,[],.nil,rfl,λj z o _ e=>by cases e⟩ (λi a J H8 _ q=>⟨.of (q.2.1 _ _ bl),.of (q.2.1 _ _ bg)⟩) (λi xx y a J H8 tt bb hy O q au=>?_) (λlv J H8 d1 q=>?_)
  ·obtain⟨q0,s8,ls,dn,X,ai⟩:=q;apply zo q0;clear q0;intro u v;obtain⟨z,I,rfl⟩:=e7 bb;obtain⟨o,ho,c5,Of⟩:=cf i z y I hy;have st:af H8 (upd H8 tt (.tup [.str z,y])):=af.new au;have c6:SqT K (upd H8 tt (.tup [.str z,y])) tt [.str z,y]:=.of ab;have Y:=s8.trans st;generalize upd H8 tt (.tup [.str z,y])=H9 at st c6 Y ⊢;have hi:=aH I;have aq:a.length=i:=by rw[dn.length,UA];exact X
   have a5:=bu z (UC I);have b6:=st _ _ O;have cb:∀{o':Option Ui},mG bs ps z o'->∀(j:Nat) z' o2,zs[j]? = some z'->(ls++[o'])[j]? = some o2->mG bs ps z' o2:=λ{o'} h' j z' o2 S m=>by
    by_cases hj:j<ls.length
    ·rw[U6 hj]at m;exact ai j z' o2 S m
    ·have b2:=aH m;rw[UH,UQ]at b2;have b8:j=i:=by lia
     rw[Vb (by lia),show j - ls.length=0 by lia]at m;cases m;rw[b8,I]at S;cases S;exact h'
   refine Gu c6 ⟨_,rfl,rfl,_,rfl,?_⟩;rw[Of];cases o with
   | none=>
    have d0:bs.filter (bT z)=[]:=by
     rcases ho with⟨e,_⟩ | ⟨p,e,_⟩
     ·exact e
     ·cases e
    refine cq ⟨_,rfl,_,rfl,x,M,_,.ref D,rfl,Y _ _ N,rfl,z,D,Gv,ps,rfl,.of (Y _ _ c2),by lia,da.same Y,dt,a5.1,a5.2,λrr bp a6 hf=>?_⟩;obtain⟨o',m,cx⟩:=zA hf;refine⟨_,a6 _ _ b6,small (by lia),_,ab,⟨_,_,rfl⟩,ax hG (Y.trans a6),ls++[o'],?_,by rw[UH,X];rfl,cb (.inr ⟨d0,m⟩)⟩;rw[t9,UL];refine(dn.same (ji (c7 (st.trans a6)))).append (.cons ?_ .nil);have di:∃C M fs,lim H9 bp x=some (.ins C M fs):=⟨_,_,_,by rw[bO λd e=>by rw[Y _ _ N]at e;cases e];exact a6 _ _ (Y _ _ N)⟩;have dd:∃ps,lim H9 bp A.ar=some (.tbl ps):=⟨ct,by rw[bO λd e=>by rw[Y _ _ IC]at e;cases e];exact a6 _ _ (Y _ _ IC)⟩;refine Em cx di dd λc o2 f B h3 e=>?_;rw[ak λe2=>h3 _ (by rw[e2];exact b6),bO λd e2=>h3 d (Y _ _ (R _ _ f B (l _ _ e2)))];exact e
   | some p=>
    have dj:Den K (lim H U) y (oP (some p)):=by
     obtain⟨o2,cu,hd⟩:=DO dF hy;rw[c5]at cu;cases cu;exact hd
    refine br ⟨_,rfl,_,b6,small (by lia),_,ab,⟨_,_,rfl⟩,ax hG Y,ls++[some p],?_,by rw[UH,X];rfl,cb (.inl ?_)⟩
    ·rw[t9,UL];refine(dn.same (ji (c7 st))).append (.cons ?_ .nil);refine Em dj du cw λc o2 f B h3 e=>?_;rw[ak (cy c o2 f B e),bO h3];exact Y _ _ (R c o2 f B e)
    ·rcases ho with⟨_,e⟩ | ⟨_,e,hl⟩
     ·cases e
     ·cases e;exact⟨p,rfl,hl⟩
  obtain⟨_,s8,ls,dr,X,ai⟩:=q;rw[UA,c9,V1]at X;have b3:=s8 _ _ N;have O:G≠x:=nn hG N
  refine⟨_,rfl,x,M,_,rfl,b3,by simp,?_⟩;refine eY (aF bh s8) b3 λH9 az f9 de=>?_;replace az:H9 x=some (.ins A.aL M [("rows",.ref r),("by_hand",.ref b),("found",.ref D),("falls",.ref G)]):=az;have ap:∀c o,c≠x->H7 c=some o->H9 c=some o:=λc o f e=>by rw[f9 c f];exact s8 _ _ e
  refine k H9 D G Gv lv ps ls ?_ ?_ ?_ de az (ap _ _ as c2) ?_ (by rw[f9 _ O];exact d1) ?_ oo ⟨X,ai⟩
  ·cases e:H D with
   | none=>rfl
   | some o=>
    have:=s5 _ _ (show H4 D=some o by rw[f4 _ as];exact l _ _ e);rw[hD]at this;cases this
  ·cases e:H G with
   | none=>rfl
   | some o=>
    by_cases B:G=A.ar
    ·rw[B,IC]at hG;cases hG
    ·have:=R _ _ O B (l _ _ e);rw[hG]at this;cases this
  ·intro c o e;obtain⟨f,e⟩:=aJ e;obtain⟨B,e⟩:=aJ e;exact ap _ _ f (R _ _ f B (l _ _ e))
  ·exact pY b5 ck bq λc o f B h3 e=>by
    rw[bO λd=>dc c d h3 f];exact ap _ _ f (bc _ _ f e)
  ·have dm:∃C M fs,lim H H8 x=some (.ins C M fs):=⟨_,_,_,by rw[bO bt];exact b3⟩;have df:∃ps,lim H H8 A.ar=some (.tbl ps):=⟨ct,by rw[bO cj];exact s8 _ _ IC⟩;exact pY (dr.same aM) dm df λc o f B h3 e=>by
    rw[bO h3,f9 c f];exact e
def jf (K:Xz) (A:Ad):Sp:=λvs H Q _=>∃(g dx st dx2:Za) (fs gs:List (Str×V)) (rr bb:V),vs=[.ref g]/\H g=some (.ins A.aX dx fs)/\YT ("state" : Str) fs=some (.ref st)/\H st=some (.ins A.aL dx2 gs)/\YT ("rows" : Str) gs=some rr/\YT ("by_hand" : Str) gs=some bb/\∀p,H p=none->Q (.ref p) (upd H p (.tup [rr,bb]))
def fM (K:Xz) (A:Ad):Sp:=λvs H Q _=>∃(g h dx t st ah pa tb r b:Za) (rv bv:Uj) (rs:List (Int×Str)) (bs:Uh) (s l:Int),vs=[.ref g,.ref h]/\H g=some (.ins A.aX dx [("sieve",.ref t),("state",.ref st),("ahead",.ref ah),("past",.ref pa),("taken_back",.ref tb)])/\SqT K H h [.ref r,.ref b]/\SqT K H t [.int s,.int l] /\
 H r=some (.lst rv)/\aD K H rv (rs.map zw)/\H b=some (.lst bv)/\aD K H bv (bs.map be)/\rs.length<64/\(∀q∈rs,∃ws,gZ 12 q.2 ws)/\bs.length<64/\nY bs/\bG A.ar H /\
 ∀(H':Hp) (x dx' f fl:Za) (fv lv:Uj) (fnd:Uh) (fls:List (Option Ui)),H x=none->H f=none->H fl=none->af (wo g (wo A.ar H)) H'->bG A.ar H'->H' g=some (.ins A.aX dx [("sieve",.ref t),("state",.ref x),("ahead",.ref st),("past",.ref pa),("taken_back",.ref tb)]) ->
  H' x=some (.ins A.aL dx' [("rows",.ref r),("by_hand",.ref b),("found",.ref f),("falls",.ref fl)])->H' f=some (.lst fv)->aD K (lim H H') fv (fnd.map be)->H' fl=some (.lst lv)->aD K (lim H H') lv (fls.map oP)->eh s l (e9 bs (rs.map (·.2))) fnd->yE bs fnd (rs.map (·.2)) fls->Q .non H'
def fH (K:Xz) (A:Ad):Sp:=λvs H Q _=>∃(B:Hp) (g pa tb r b:Za) (v:fc) (rv bv:Uj) (rs:List (Int×Str)) (bs:Uh),vs=[.ref g,.ref r,.ref b]/\bA K A.aX A.aL B H g pa tb v/\B A.ar=none/\B r=some (.lst rv)/\aD K B rv (rs.map zw)/\B b=some (.lst bv)/\aD K B bv (bs.map be)/\rs.length<64/\(∀q∈rs,∃ws,gZ 12 q.2 ws)/\bs.length<64/\nY bs/\v.past.length<=100000/\bG A.ar H /\
 ∀(H' B':Hp) (tb':Za) (cur:StV),af (wo g (wo pa (wo A.ar H))) H'->bG A.ar H'->H tb' = none->af B B'->(∀c o,B c=none->H c=some o->lZ o->B' c=none)->cur.rs=rs->cur.bs=bs->bA K A.aX A.aL B' H' g pa tb' ⟨v.s,v.l,cur,v.cur,v.past++[(v.cur.rs,v.cur.bs)],[]⟩->Q .non H'
def rP (K:Xz) (A:Ad):Sp:=λvs H Q _=>∃(B:Hp) (g pa tb:Za) (v:fc) (m:Int) (z:Str),vs=[.ref g,.int m,.str z]/\bA K A.aX A.aL B H g pa tb v/\B A.ar=none/\(∃ws,gZ 12 z ws)/\v.cur.rs.length<63/\(∀q,v.cur.rs.getLast? = some q->q.1<=m)/\v.past.length<=100000/\bG A.ar H /\
 ∀(H' B':Hp) (tb':Za) (cur:StV),af (wo g (wo pa (wo A.ar H))) H'->bG A.ar H'->H tb' = none->af B B'->(∀c o,B c=none->H c=some o->lZ o->B' c=none)->cur.rs=v.cur.rs++[(m,z)]->cur.bs=v.cur.bs->bA K A.aX A.aL B' H' g pa tb' ⟨v.s,v.l,cur,v.cur,v.past++[(v.cur.rs,v.cur.bs)],[]⟩->Q (.int (v.cur.rs.length:Int)) H'
def sM (K:Xz) (A:Ad):Sp:=λvs H Q _=>∃(g t dx:Za) (s l:Int),vs=[.ref g,.ref t]/\H g=some (.ins A.aX dx [])/\SqT K H t [.int s,.int l]/\bG A.ar H /\
 ∀(H' B':Hp) (pa tb:Za) (cur:StV),af (wo g (wo A.ar H)) H'->bG A.ar H'->H pa=none->H tb=none->(∀c o,H c=some o->lZ o->B' c=none)->cur.rs=[]->cur.bs=[]->bA K A.aX A.aL B' H' g pa tb ⟨s,l,cur,cur,[],[]⟩->Q .non H'
def eZ (K:Xz) (A:Ad):Sp:=λvs H Q _=>∃(B:Hp) (g pa tb:Za) (v:fc),vs=[.ref g]/\bA K A.aX A.aL B H g pa tb v /\
 ∀(D:Za) (acc:Uj) (H':Hp),H D=none->af H H'->H' D=some (.lst acc)->aD K (lim H H') acc ((v.cur.bs++v.cur.fs).map be)->Q (.ref D) H'
theorem Ay:aC ["self"] ["self"] (ag (mIn 55 3)):=by refine⟨rfl,rfl,rfl,?_,rfl,?_,?_⟩<;>decide +kernel
theorem l9 (T:Tx K mg A):aB P w K mg base CX0 1 A.gj A.iK ["self"] (jf K A):=by
 refine T.qz.fn.ok Ay (λr H Q E h=>?_) (λ_ _ _ s H r Q E _ h=>?_)
 ·obtain⟨g,d,c,a,f,e,l,i,rfl,_⟩:=h;rfl
 ·obtain⟨g,d,c,a,f,e,l,i,rfl,m,b,j,q,n,k⟩:=h;refine⟨_,ao (aG (bZ (aa (bK T.bQ T.dw (bK T.aN T.bc (pv 0))) (aa (bK T.bQ T.cm (bK T.aN T.bc (pv 0))) ae)))),?_⟩;exact⟨_,rfl,g,d,f,.ref c,rfl,m,b,c,a,e,l,rfl,j,q,_,rfl,g,d,f,.ref c,rfl,m,b,c,a,e,i,rfl,j,n,(by show 2<=Zg;decide),λp o=>k p o⟩
theorem i9:aC ["self","held","rows","by_hand"] ["self","held"] (ag (mIn 55 5)):=by refine⟨rfl,rfl,rfl,?_,rfl,?_,?_⟩<;>decide +kernel
theorem i5 (T:Tx K mg A):aB P w K mg base CX0 23 A.dv A.eV ["self","held"] (fM K A):=by
 have jP:aB P w K mg base CX0 21 _ _ _ _:=MC (ou T);refine T.jt.fn.ok i9 (λvs H Q E h=>?_) (λ_ _ _ s H vs Q E hr h=>?_)
 ·obtain⟨g,h,m,t,q,ah,R,W,r,b,rv,bv,rs,bs,s0,l0,rfl,_⟩:=h;rfl
 ·obtain⟨g,h,m,t,q,ah,R,W,r,b,rv,bv,rs,bs,s0,l0,rfl,n,Z,a8,N,a5,hb,a7,a3,a4,a6,ai,J,k⟩:=h;obtain⟨_,eE⟩:=aU J;have av:g≠A.ar:=λe=>by rw[<-e,n]at eE;cases eE
  refine⟨_,aj (rm (pv 1) (fG rfl (ba (ay (i:=2) i9.nd rfl (Or.inl rfl)) (ba (ay (i:=3) i9.nd rfl (Or.inl rfl)) dO))))
   (aj (lQ T.aN T.qu (pv 0) (bK T.aN T.bc (pv 0)))
   (ao (lQ T.aN T.bc (pv 0) (zh T.An jP hr (by rfl) T.D8 T.pC.bd .nil aA (aa (bK T.aN T.k7 (pv 0)) (aa (pv 2) (aa (pv 3) ae))))))),?_⟩
  refine⟨_,rfl,h,_,rfl,Z,rfl,_,_,rfl,_,_,rfl,rfl,?_⟩;refine⟨_,rfl,g,m,_,.ref q,rfl,n,rfl,_,rfl,g,m,_,rfl,n,by simp,?_⟩;refine eY J n λH2 a f2 a9=>?_;replace a:H2 g=some (.ins A.aX m [("sieve",.ref t),("state",.ref q),("ahead",.ref q),("past",.ref R),("taken_back",.ref W)]):=a;have s2:af (wo g H) H2:=λc o e=>by
   obtain⟨j,e⟩:=aJ e;rw[f2 c j];exact e
  refine⟨_,rfl,g,m,_,.ref t,rfl,a,rfl,_,rfl,_,rfl,λx G S as ax=>?_⟩;obtain⟨Hx,eq,C,aq⟩:=xZ A.aL S as ax;rw[eq];have l:af (wo g H) Hx:=s2.trans C;have O:∀{c:Za}{U:Uj},H c=some (.lst U)->c≠g:=λ{c U} h e=>by rw[e,n]at h;cases h
  have p:x≠g:=nn S a
  have D:H x=none:=by rw[<-f2 x p];exact S
  refine⟨x,t,r,b,G,rv,bv,rs,bs,s0,l0,rfl,aq,l.eA (t8 n a8),l _ _ (Zp (O N) N),(uU n a5).same l,l _ _ (Zp (O hb) hb),(uU n a7).same l,a3,a4,a6,ai,aF a9 C,λH3 f fl fv lv ab a0 hf y s3 au Y ap df Tb dl oo iV=>⟨rfl,?_⟩⟩;have B:H3 g=some (.ins A.aX m [("sieve",.ref t),("state",.ref q),("ahead",.ref q),("past",.ref R),("taken_back",.ref W)]):=s3 _ _ (Zq p.symm av (C _ _ a));refine⟨_,rfl,g,m,_,rfl,B,by simp,?_⟩;refine eY au B λX u I aw=>?_;replace u:X g=some (.ins A.aX m [("sieve",.ref t),("state",.ref x),("ahead",.ref q),("past",.ref R),("taken_back",.ref W)]):=u;have M:∀{c:Za},Hx c=none->H c=none:=λ{c} e=>by
   cases e2:H c with
   | none=>rfl
   | some o=>
    by_cases j:c=g
    ·rw[j,C _ _ a]at e;cases e
    ·rw[l c o (Zp j e2)]at e;cases e
  have ag:f≠g:=λe=>by rw[e,C _ _ a]at hf;cases hf
  have RC:fl≠g:=λe=>by rw[e,C _ _ a]at y;cases y
  have go:∀{v:Uj}{ds:UF},aD K (lim Hx H3) v ds->aD K (lim H X) v ds:=λ{v ds} d=>qt d λc o j L _ h3 _=>by
   have F:c≠g:=λe=>by rw[e,B]at L;cases L;exact h3 _ _ _ rfl
   rw[bO λU e=>j U (l _ _ (Zp F e)),I c F];exact L
  refine k X x G f fl fv lv ab a0 D (M hf) (M y) (λc o e=>?_) aw u (by rw[I x p];exact Y) (by rw[I f ag];exact ap) (go df) (by rw[I fl RC];exact Tb) (go dl) oo iV;obtain⟨j,e⟩:=aJ e;obtain⟨L,e⟩:=aJ e;rw[I c j];exact s3 _ _ (by rw[ak (nn e D),ak L];exact l _ _ (Zp j e))
theorem vN:aC ["self","rows","by_hand"] ["self","rows","by_hand"] (ag (mIn 55 6)):=by refine⟨rfl,rfl,rfl,?_,rfl,?_,?_⟩<;>decide +kernel
theorem iJ (T:Tx K mg A):aB P w K mg base CX0 24 A.dh A.eP ["self","rows","by_hand"] (fH K A):=by
 have eJ:aB P w K mg base CX0 23 _ _ _ _:=MC (i5 T);have i3:aB P w K mg base CX0 23 _ _ _ _:=MC (l9 T);refine T.jh.fn.ok vN (λvs H Q E h=>?_) (λ_ _ _ s H vs Q E hr h=>?_)
 ·obtain⟨B,g,pa,tb,r,b,v,rv,bv,rs,bs,rfl,_⟩:=h;rfl
 ·obtain⟨B,g,pa,tb,r,b,v,rv,bv,rs,bs,rfl,cw,bp,b6,ai,ag,au,a7,a9,aq,az,bh,b1,k⟩:=h;obtain⟨W,t,st,ah,L,_,hg,m,_,sB,ay,lO,_,_,av,as,_,a8,_,br,_⟩:=cw;have qY:=as;obtain⟨bc,M,N,_,_,bg,b8,_,_,q1,q2,q3,q4,q5,_,_,_,_⟩:=qY;obtain⟨_,eE⟩:=aU b1;have bt:g≠A.ar:=λe=>by rw[<-e,hg]at eE;cases eE
  have bj:pa≠A.ar:=λe=>by rw[<-e,m]at eE;cases eE
  have Z:pa≠g:=nn m hg
  have Nz:L.length<=100000:=by rw[a8.1];exact bh
  refine⟨_,aj (bq (ee Y9 Yk Yl cR (bK T.aN T.gU (pv 0)) (aa (dY (pv 0) T.aN T.l5 i3 hr T.qz.bd .nil aA) ae)))
   (aj (lQ T.aN T.cF (pv 0) (bz ae))
   (ao (bq (d8 (pv 0) T.aN T.iS eJ hr T.jt.bd .nil aA (aa (bZ (aa (pv 1) (aa (pv 2) ae))) ae))))),?_⟩
  refine⟨_,rfl,g,W,_,.ref pa,rfl,hg,rfl,.inl ⟨rfl,_,.of m⟩,_,rfl,g,W,_,rfl,hg,rfl,g,W,st,bc,_,_,.ref M,.ref N,rfl,hg,rfl,sB _ _ q1,rfl,rfl,λp G=>?_⟩;have U:p≠pa:=nn G m
  have O:p≠g:=nn G hg
  refine⟨pa,L,_,rfl,rfl,by rw[ap U.symm];exact m,small (by lia),?_⟩;have f2:∀c,c≠pa->c≠p->(upd (upd H p (.tup [.ref M,.ref N])) pa (.lst (L++[.ref p]))) c=H c:=λc i j=>by rw[ap i,ap j]
  have NW:(upd (upd H p (.tup [.ref M,.ref N])) pa (.lst (L++[.ref p]))) pa=some (.lst (L++[.ref p])):=ab;have a0:(upd (upd H p (.tup [.ref M,.ref N])) pa (.lst (L++[.ref p]))) p=some (.tup [.ref M,.ref N]):=by rw[ap U];exact ab
  have aw:bG A.ar (upd (upd H p (.tup [.ref M,.ref N])) pa (.lst (L++[.ref p]))):=jn (aF b1 (af.new G)) (xs:=L) (by rw[ap U.symm];exact m);generalize upd (upd H p (.tup [.ref M,.ref N])) pa (.lst (L++[.ref p]))=H2 at f2 NW a0 aw ⊢;have a5:H2 g=_:=(f2 g Z.symm O.symm).trans hg;refine⟨UU _,λtb' X=>?_⟩;have b2:tb'≠g:=nn X a5
  have a6:tb'≠pa:=nn X NW
  have Qq:tb'≠p:=nn X a0
  have Gs:H tb' = none:=by rw[<-f2 tb' a6 Qq];exact X
  have s3:af H2 (upd H2 tb' (.lst [])):=af.new X;have QE:(upd H2 tb' (.lst [])) tb' = some (.lst []):=ab;generalize upd H2 tb' (.lst [])=H3 at s3 QE ⊢;have b4:=s3 _ _ a5;refine⟨_,rfl,g,W,_,rfl,b4,by simp,?_⟩;refine eY (aF aw s3) b4 λH4 I f4 b5=>?_;replace I:H4 g=some (.ins A.aX W [("sieve",.ref t),("state",.ref st),("ahead",.ref ah),("past",.ref pa),("taken_back",.ref tb')]):=I;have R:∀c o,c≠g->c≠pa->H c=some o->H4 c=some o:=λc o i j e=>by
   rw[f4 c i];refine s3 _ _ ?_;rw[f2 c j λz=>by rw[z,G]at e;cases e];exact e
  refine⟨_,rfl,g,W,_,rfl,I,rfl,_,rfl,_,rfl,(by show 2<=Zg;decide),λh hh=>?_⟩;obtain⟨H5,eq,u,b9⟩:=dW (.tup [.ref r,.ref b]) hh;rw[eq];have D:∀{c:Za}{o:HO},B c=some o->c≠g/\c≠pa/\c≠A.ar:=λ{c o} e=>⟨(nn e ay),(nn e lO),nn e bp⟩;have J:af B H5:=λc o e=>u _ _ (R c o (D e).1 (D e).2.1 (sB _ _ e));refine⟨g,h,W,t,st,ah,pa,tb',r,b,rv,bv,rs,bs,v.s,v.l,rfl,u _ _ I,.of b9,J.eA av,J _ _ b6,ai.same J,J _ _ ag,au.same J,a7,a9,aq,az,aF b5 u,λn x bk f fl fv lv bi bb hx hf bl s6 b3 ax be bo df CI dl oo iV=>?_⟩;have S:∀c o,c≠g->c≠pa->c≠A.ar->H c=some o->n c=some o:=λc o i j y e=>s6 _ _ (Zq i y (u _ _ (R c o i j e)));have a3:∀c o,c≠g->c≠A.ar->H4 c=some o->n c=some o:=λc o i y e=>s6 _ _ (Zq i y (u _ _ e));have OL:B tb' = none:=sB.free Gs;have GW:∀c o,B c=some o->n c=some o:=λc o e=>S c o (D e).1 (D e).2.1 (D e).2.2 (sB _ _ e);have a:=vU (H':=n) sB ay lO OL GW;have ja:=pW (B:=B) (H:=H) (H':=n) (g:=g) (pa:=pa) (tb:=tb');have Ik:H4 pa=some (.lst (L++[.ref p])):=by rw[f4 pa Z];exact s3 _ _ NW
  have yW:H4 tb' = some (.lst []):=by rw[f4 tb' b2];exact QE
  have ba:tb'≠A.ar:=λe=>by
   obtain⟨q,hq⟩:=aU b5;rw[<-e,yW]at hq;cases hq
  have Ll:=a3 _ _ Z bj Ik;have yb:=a3 _ _ b2 ba yW;have h0:∀{c:Za},H5 c=none->H c=none/\c≠g/\c≠pa/\c≠tb':=λ{c} e=>by
   have Y:c≠g:=λz=>by rw[z,u _ _ I]at e;cases e
   have n2:c≠pa:=λz=>by rw[z,u _ _ Ik]at e;cases e
   have n3:c≠tb':=λz=>by rw[z,u _ _ yW]at e;cases e
   refine⟨?_,Y,n2,n3⟩;cases e2:H c with
   | none=>rfl
   | some o=>rw[u _ _ (R c o Y n2 e2)]at e;cases e
  have a4:∀{c:Za},H5 c=none->nxt B H n g pa tb' c=n c:=λ{c} e=>by
   obtain⟨i,j,y,h4⟩:=h0 e;exact fJ j y h4 (λ_ z=>by rw[i]at z;cases z) (λ_ _ _ z=>by rw[i]at z;cases z) λ_ z=>by rw[i]at z;cases z
  have go:∀{v:Uj}{ds:UF},aD K (lim H5 n) v ds->aD K (nxt B H n g pa tb') v ds:=λ{v ds} d=>qt d λc o i j _ y h4=>by
   have Y:c≠g:=λe=>by rw[e,ax]at j;cases j;exact y _ _ _ rfl
   have n2:c≠pa:=λe=>i _ (by rw[e];exact u _ _ Ik);have n3:c≠tb':=λe=>i _ (by rw[e];exact u _ _ yW);have n4:c≠A.ar:=λe=>by
    obtain⟨q,hq⟩:=aU b3;rw[e,hq]at j;cases j;exact h4 _ rfl
   rw[fJ Y n2 n3 (λys e=>i ys (u _ _ (R _ _ Y n2 e))) (λC _ _ e=>?_) (λ_ e=>?_)]
   ·exact j
   ·have:=S _ _ Y n2 n4 e;rw[j]at this;cases this;exact y _ _ _ rfl
   ·have:=S _ _ Y n2 n4 e;rw[j]at this;cases this;exact h4 _ rfl
  have Ro:p≠A.ar:=nn G eE
  have b7:n p=some (.tup [.ref M,.ref N]):=a3 _ _ O Ro (by rw[f4 p O];exact s3 _ _ a0);have bf:nxt B H n g pa tb' p=some (.tup [.ref M,.ref N]):=by
   rw[fJ O U Qq.symm (λ_ z=>by rw[G]at z;cases z) (λ_ _ _ z=>by rw[G]at z;cases z) λ_ z=>by rw[G]at z;cases z];exact b7
  refine k n (nxt B H n g pa tb') tb' ⟨rs,bs,bi,bb⟩ (λc o e=>?_) b3 Gs a (λc o i j y=>qa i j y) rfl rfl
   ⟨W,t,x,st,L++[.ref p],[],ax,Ll,yb,zc GW,ja.1,ja.2.1,ja.2.2,a6.symm,a.eA av,
    ⟨bk,r,b,f,fl,rv,bv,fv,lv,by rw[a4 hx];exact be,a _ _ b6,ai.same a,a _ _ ag,au.same a,by rw[a4 hf];exact bo,go df,by rw[a4 bl];exact CI,go dl⟩,
    as.same a,?_,.nil,⟨oo,iV,a9,az,a7,aq⟩,br⟩
  ·obtain⟨i,e⟩:=aJ e;obtain⟨j,e⟩:=aJ e;obtain⟨y,e⟩:=aJ e;exact S c o i j y e
  ·exact(a8.same a).snoc ⟨p,M,N,bg,b8,rfl,.of bf,a _ _ q2,q3.same a,a _ _ q4,q5.same a⟩
theorem j6 {N:Hp->Prop}{G:Prop} (Pre:Hp->Prop) (rest:∀H,Pre H->N H) (f:(∀H,Pre H->N H)->G):G:=f rest
theorem rW:aC ["self","moment","line","rows"] ["self","moment","line"] (ag (mIn 55 7)):=by refine⟨rfl,rfl,rfl,?_,rfl,?_,?_⟩<;>decide +kernel
theorem Ax (T:Tx K mg A):aB P w K mg base CX0 25 A.kI A.o7 ["self","moment","line"] (rP K A):=by
 have eM:aB P w K mg base CX0 24 _ _ _ _:=MC (iJ T);have Fg:aB P w K mg base CX0 24 _ _ _ _:=MC (B4 T);refine T.uK.fn.ok rW (λvs H Q E h=>?_) (λ_ _ _ s H vs Q E hr h=>?_)
 ·obtain⟨B,g,pa,tb,v,m,z,rfl,_⟩:=h;rfl
 ·obtain⟨B,g,pa,tb,v,m,z,rfl,cw,b6,hz,_,Pj,aw,a4,k⟩:=h;have Bh:=cw;obtain⟨dx,t,st,_,_,_,hg,G,F,sB,ax,lO,m9,_,_,ar,_,_,_,L,_⟩:=Bh;have qY:=ar;obtain⟨Z,O,b0,_,_,a,a9,_,_,q1,q2,q3,q4,q5,_,_,_,_⟩:=qY;obtain⟨ws,U⟩:=hz;have D:=U.ok (by decide);have C:a.length=v.cur.rs.length:=by rw[q3.length,UA]
  refine⟨_,aj (bh (i:=3) rW.nd rfl (Or.inl rfl) (bK T.bQ T.dw (bK T.aN T.bc (pv 0))))
   (aj (bx (ia (cY (av Fg hr (by rfl) T.tV.mg T.tV.fn.kp T.tV.bd .nil aA (aa (pv 2) ae)))) (ao dg) aS)
   (aj (bx ((pw_and (vf (pv 3) (λ_=>rfl)) (pw_and1 (aO vJ (pv 1) (bj (r:=lY K) d5 (bj (r:=ff K) bi (pv 3) (P9 My au) (λ_ _=>rfl)) au (λ_ _=>rfl)) (aR _)))).pt) (ao dg) aS)
   (aj (bx (aO DX (aP (r:=dU K) bg (by rfl) T.c6 Yb (aa (pv 3) ae)) (gF (v:=.int 120) (by rfl) (YE T.yU) ⟨_,rfl⟩) (aR _)) (ao dg) aS)
   (aj (bq (d8 (pv 0) T.aN T.iN eM hr T.jh.bd .nil aA (aa (bU (r:=uh K) nv (pv 3) (bz (aa (bZ (aa (pv 1) (aa (pv 2) ae))) ae))) (aa (bK T.bQ T.cm (bK T.aN T.bc (pv 0))) ae))))
   (ao (aG (aP (r:=dU K) bg (by rfl) T.c6 Yb (aa (pv 3) ae)))))))),?_⟩
  refine⟨_,rfl,g,dx,_,.ref st,rfl,hg,rfl,st,Z,_,.ref O,rfl,sB _ _ q1,rfl,?_⟩;refine⟨_,rfl,z,rfl,UK D.2 (by decide),D.1,by rw[U.split];exact U.le,by rw[U.split];exactλw h=>(U.wd w h).word,λH1 J=>⟨_,rfl,br ?_⟩⟩;have d:=sB.trans J;have u:H1 O=some (.lst a):=d _ _ q2;apply j6 (λH2:Hp=>H2=H1)
  case f=>
   intro rest;refine⟨_,rfl,_,.inl ⟨a,.of u,rfl⟩,?_⟩;cases hq:a with
   | nil=>exact br (br (rest _ rfl))
   | cons y _=>
    have a6:a≠[]:=λe=>by rw[e]at hq;cases hq
    obtain⟨I,x',e'⟩:∃I x',a=I++[x']:=⟨a.dropLast,a.getLast a6,(WI a6).symm⟩;have a8:a[I.length]? = some x':=by rw[e'];simp
    obtain⟨p,ty,hp,rfl,ag,_⟩:=Bp q3 a8;have b7:p.1<=m:=Pj p (by
     rw[List.getLast?_eq_getElem?,<-C,e',UH,UQ,Nat.add_sub_cancel];exact hp)
    refine cq ⟨_,rfl,_,rfl,(1:Int),rfl,O,_,(-1:Int),.ref ty,rfl,rfl,.of u,?_,ty,_,0,_,rfl,rfl,d.eA ag,rfl,_,_,rfl,rfl,_,rfl,?_⟩
    ·rw[e'];exact Kb
    ·rw[Zl (by lia)];exact br (rest _ rfl)
  intro H2 e2;subst e2;refine⟨_,rfl,O,_,rfl,.inl (.of u),_,_,rfl,rfl,_,rfl,?_⟩;rw[Zl (by rw[C];lia)];refine br ?_;have a7:=aF a4 J;have TH:=cw.same J;have V:=J _ _ hg;refine⟨_,rfl,g,dx,_,rfl,V,rfl,_,rfl,_,rfl,_,rfl,(by show 2<=Zg;decide),λtt l=>?_⟩;obtain⟨_,W,s2,a0⟩:=dW (.tup [.int m,.str z]) l;rw[W];refine⟨(by show 1<=Zg;decide),λll b5=>?_⟩;obtain⟨_,W,M,ai⟩:=dW (.lst [.ref tt]) b5;rw[W];refine⟨O,ll,_,_,rfl,rfl,.of ((s2.trans M) _ _ u),.of ai,UK (show a.length+1<=100 by lia) (by decide),λR S=>?_⟩;obtain⟨H5,W,s4,az⟩:=dW (.lst (a++[.ref tt])) S;rw[W];have x:=(s2.trans M).trans s4;have a3:=d.trans x;have Rw:B tt=none:=d.free l;have aq:B R=none:=(d.trans (s2.trans M)).free S;have a5:R≠tt:=λe=>by rw[e,(M _ _ a0)]at S;cases S
  have b2:=x _ _ V;refine⟨_,rfl,g,dx,_,.ref st,rfl,b2,rfl,st,Z,_,.ref b0,rfl,a3 _ _ q1,rfl,?_⟩;have N:af B (upd (upd B tt (.tup [.int m,.str z])) R (.lst (a++[.ref tt]))):=(af.new Rw).trans (af.new (by rw[ap a5];exact aq));have bR:(upd (upd B tt (.tup [.int m,.str z])) R (.lst (a++[.ref tt]))) R=some (.lst (a++[.ref tt])):=ab;have bt:(upd (upd B tt (.tup [.int m,.str z])) R (.lst (a++[.ref tt]))) tt=some (.tup [.int m,.str z]):=by rw[ap a5.symm];exact ab
  have bo:∀c,c≠R->c≠tt->(upd (upd B tt (.tup [.int m,.str z])) R (.lst (a++[.ref tt]))) c=B c:=λc n j=>by rw[ap n,ap j]
  generalize upd (upd B tt (.tup [.int m,.str z])) R (.lst (a++[.ref tt]))=B1 at N bR bt bo;have S8:af B1 H5:=λc o e=>by
   by_cases n:c=R
   ·rw[n,bR]at e;cases e;rw[n];exact az
   by_cases j:c=tt
   ·rw[j,bt]at e;cases e;rw[j];exact(M.trans s4) _ _ a0
   rw[bo c n j]at e;exact a3 _ _ e
  have X:∀{c:Za}{o:HO},H c=some o->c≠R/\c≠tt:=λ{c o} e=>⟨(λh=>by rw[<-h,(J.trans (s2.trans M)) _ _ e]at S;cases S),λh=>by rw[<-h,J _ _ e]at l;cases l⟩;have Y:∀{c:Za}{o:HO},H c=some o->B c=none->B1 c=none:=λ{c o} e eb=>by rw[bo c (X e).1 (X e).2];exact eb
  obtain⟨_,eE⟩:=aU a4;have b:=J.trans x;have Bq:bA K A.aX A.aL B1 H5 g pa tb v:=cw.grow N S8 (Y hg ax) (Y G lO) (Y F m9) ((b _ _ hg).trans hg.symm) ((b _ _ G).trans G.symm) ((b _ _ F).trans F.symm);refine⟨B1,g,pa,tb,R,b0,v,a++[.ref tt],a9,v.cur.rs++[(m,z)],v.cur.bs,rfl,Bq,Y eE b6,bR,?_,N _ _ q4,q5.same N,by rw[UH,UQ];lia,λq hq=>?_,L.bl,L.hnd,aw,aF a7 x,λH6 B' as b1 s6 b4 pJ ay fC e1 e2 L5=>?_⟩
  ·rw[UL];exact(q3.same N).append (.cons (.tup (.of bt) (.cons (.int _) (.cons (.str D.1) .nil))) .nil)
  ·rcases UY.mp hq with hq | hq
   ·exact L.lns q hq
   ·rw[UG.mp hq];exact⟨ws,U⟩
  ·have Nu:=L5;obtain⟨_,_,_,_,_,_,_,_,_,b3,_⟩:=Nu;have Fl:=N.trans ay;refine⟨_,rfl,O,_,rfl,.inl (.of (b3 _ _ (Fl _ _ q2))),?_⟩;rw[C];refine k H6 B' as b1 (λc o e=>?_) b4 ?_ Fl (λc o n j h3=>fC c o (Y j n) (b _ _ j) h3) e1 e2 L5
   ·obtain⟨n,e⟩:=aJ e;obtain⟨j,e⟩:=aJ e;obtain⟨h3,e⟩:=aJ e;exact s6 _ _ (Zr n j h3 (b _ _ e))
   ·exact b.free pJ
theorem tP:aC ["self"] ["self"] (ag (mIn 55 13)):=by refine⟨rfl,rfl,rfl,?_,rfl,?_,?_⟩<;>decide +kernel
theorem ie (T:Tx K mg A):aB P w K mg base CX0 1 A.cS A.d4 ["self"] (eZ K A):=by
 refine T.iA.fn.ok tP (λvs H Q E h=>?_) (λ_ _ _ s H vs Q E _ h=>?_)
 ·obtain⟨B,g,pa,tb,v,rfl,_⟩:=h;rfl
 ·obtain⟨B,g,pa,tb,v,rfl,cw,k⟩:=h;obtain⟨dx,t,M,_,_,_,hg,_,_,p,_,_,_,_,_,X,_,z,_,F,_⟩:=cw;obtain⟨y,_,b0,f0,_,_,a,b,_,q1,_,_,q4,q5,q6,q7,_,_⟩:=X;have a6:a.length=v.cur.bs.length:=by rw[q5.length,UA]
  have a7:b.length=v.cur.fs.length:=by rw[q7.length,UA]
  have h1:=F.bl;have h2:=F.gth.lt;refine⟨_,ao (aG (aY (N':=["pattern"]) (n:=1) (fi:=[]) (g:=aZ 0) rfl (bf (ag (mIn 55 13)) ["self"] (by decide +kernel)) (aT (bU (r:=uh K) nv (bK T.bQ T.cm (bK T.aN T.bc (pv 0))) (bK T.bQ T.iH (bK T.aN T.bc (pv 0))))) (λs H fp=>ay (i:=0) (nT _) rfl (Or.inl rfl) (.inr rfl)) (λs H fp=>aV) (λs H fp=>iE (r:=tR K) oO (by rfl) T.rG nG (aa (pv 0) ae)))),?_⟩;refine⟨_,rfl,g,dx,_,.ref M,rfl,hg,rfl,M,y,_,.ref b0,rfl,p _ _ q1,rfl,_,rfl,g,dx,_,.ref M,rfl,hg,rfl,M,y,_,.ref f0,rfl,p _ _ q1,rfl,b0,f0,_,_,rfl,rfl,.of (p _ _ q4),.of (p _ _ q6),UK (show a.length+b.length<=1000 by lia) (by decide),λC hC=>⟨C,rfl,⟨_,.of ab⟩,?_⟩⟩;have O:af H (upd H C (.lst (a++b))):=af.new hC;have l:(upd H C (.lst (a++b))) C=some (.lst (a++b)):=ab;have G:aD K H (a++b) ((v.cur.bs++v.cur.fs).map be):=by
   rw[UL];exact(q5.same p).append (q7.same p)
  have S:(a++b).length<=1000:=by rw[UH];lia
  have j:(a++b).length=(v.cur.bs++v.cur.fs).length:=by rw[G.length,UA]
  generalize upd H C (.lst (a++b))=H1 at O l ⊢;generalize a++b=xs at l G S j;generalize v.cur.bs++v.cur.fs=pss at G j k;intro D R;have a4:H D=none:=O.free R;refine aK (K:=K) (xs:=xs) (λi c I m=>(∃u,I=[u])/\af H1 m/\aD K (wo D (lim H m)) c ((pss.take i).map be)) ab ⟨⟨_,rfl⟩,af.new R,.nil⟩ (λi c I m _ _ q=>.of (q.2.1 _ _ l)) (λi x c I m hx f q=>?_) (λc I m Z q=>?_)
  ·obtain⟨q0,N,e⟩:=q;apply cU q0;clear q0;intro u;obtain⟨_,U,z⟩:=dR G hx;obtain⟨a1,Y,rfl,W,a3⟩:=gG z;have hi:=aH hx;have d:=O.trans N;have a5:c.length<=1000:=by rw[e.length,UA,UT];lia
   refine cB ⟨_,rfl,a1,Y,rfl,.inl (d.seq W),λL hL=>?_⟩;have J:=af.new (o:=.lst Y) hL;have V:L≠D:=(aw f hL).symm;have a0:H L=none:=d.free hL;refine⟨_,J _ _ f,small (by lia),_,ab,⟨_,rfl⟩,ax R (N.trans J),?_⟩;rw[t9,ed U];refine(e.same (ji (c7 J))).append (.cons (.lst (xs:=Y) (.of (by rw[ak V,iq a0];exact ab)) ?_) .nil);exact(yo d (d.trans J) a3).same (IG d f)
  ·obtain⟨_,N,e⟩:=q;rw[j,UP (UD _)]at e;exact k D c m a4 (O.trans N) Z (e.same aM)
theorem Be:aC ["self","sieve"] ["self","sieve"] (ag (mIn 55 0)):=by refine⟨rfl,rfl,rfl,?_,rfl,?_,?_⟩<;>decide +kernel
theorem Ae (T:Tx K mg A):aB P w K mg base CX0 23 A.kJ A.lN ["self","sieve"] (sM K A):=by
 have jP:aB P w K mg base CX0 21 _ _ _ _:=MC (ou T);refine T.zL.fn.ok Be (λvs H Q E h=>?_) (λ_ _ _ s H vs Q E hr h=>?_)
 ·obtain⟨g,t,y,s0,l0,rfl,_⟩:=h;rfl
 ·obtain⟨g,t,y,s0,l0,rfl,hg,a7,aw,k⟩:=h;obtain⟨_,eE⟩:=aU aw;have bk:g≠A.ar:=λe=>by rw[<-e,hg]at eE;cases eE
  refine⟨_,aj (lQ T.aN T.k7 (pv 0) (iE wu (by rfl) T.Eo Ba (aa (pv 1) ae)))
   (aj (lQ T.aN T.bc (pv 0) (zh T.An jP hr (by rfl) T.D8 T.pC.bd .nil aA (aa (bK T.aN T.k7 (pv 0)) (aa (bz ae) (aa (bz ae) ae)))))
   (aj (lQ T.aN T.qu (pv 0) (bK T.aN T.bc (pv 0)))
   (aj (lQ T.aN T.gU (pv 0) (bz ae))
   (ao (lQ T.aN T.cF (pv 0) (bz ae)))))),?_⟩
  refine⟨_,rfl,t,_,rfl,.inr ⟨a7,_,rfl,g,y,_,rfl,hg,by decide,?_⟩⟩;refine eY aw hg λH1 D f1 as=>?_;replace D:H1 g=some (.ins A.aX y [("sieve",.ref t)]):=D;have ax:af (wo g H) H1:=λc o e=>by
   obtain⟨a,e⟩:=aJ e;rw[f1 c a];exact e
  refine⟨_,rfl,g,y,_,.ref t,rfl,D,rfl,UU _,λr a0=>?_⟩;obtain⟨_,W,s2,au⟩:=dW (.lst []) a0;rw[W];refine⟨UU _,λb M=>?_⟩;obtain⟨H3,W,s3,av⟩:=dW (.lst []) M;rw[W];have S:=s2.trans s3;have R:=S _ _ D;intro x ag hx bg bl;obtain⟨Hx,W,U,az⟩:=xZ A.aL hx bg bl;rw[W];have sH:af (wo g H) Hx:=(ax.trans S).trans U;have a4:x≠g:=nn hx R
  have n0:∀{c:Za},H3 c=none->H c=none:=λ{c} e=>by
   cases e2:H c with
   | none=>rfl
   | some o=>
    by_cases a:c=g
    ·rw[a,R]at e;cases e
    ·rw[(ax.trans S) c o (Zp a e2)]at e;cases e
  have a6:H x=none:=n0 hx;have bb:H r=none:=by
   have ba:r≠g:=nn a0 D
   rw[<-f1 r ba];exact a0
  have bi:H b=none:=by
   have b9:b≠g:=λe=>by rw[e,s2 _ _ D]at M;cases M
   cases e2:H b with
   | none=>rfl
   | some o=>rw[s2 _ _ (show H1 b=some o by rw[f1 b b9];exact e2)]at M;cases M
  refine⟨x,t,r,b,ag,[],[],[],[],s0,l0,rfl,az,sH.eA (t8 hg a7),(s3.trans U) _ _ au,.nil,U _ _ av,.nil,by decide,(λq G=>by cases G),by decide,(λq G=>by cases G),aF (aF as S) U,λF f fl fv lv a9 a5 hf b0 s4 ai ay b7 df Rz dl oo iV=>⟨rfl,?_⟩⟩;have ab:F g=some (.ins A.aX y [("sieve",.ref t)]):=s4 _ _ (Zq a4.symm bk (U _ _ R));refine⟨_,rfl,g,y,_,rfl,ab,by simp,?_⟩;refine eY ai ab λH5 N f5 bf=>?_;replace N:H5 g=some (.ins A.aX y [("sieve",.ref t),("state",.ref x)]):=N;refine⟨_,rfl,g,y,_,.ref x,rfl,N,rfl,_,rfl,g,y,_,rfl,N,by simp,?_⟩;refine eY bf N λH6 Y f0 bj=>?_;replace Y:H6 g=some (.ins A.aX y [("sieve",.ref t),("state",.ref x),("ahead",.ref x)]):=Y;have f6:∀c,c≠g->H6 c=F c:=λc h=>(f0 c h).trans (f5 c h);refine⟨UU _,λpa L=>?_⟩;obtain⟨_,W,s7,b5⟩:=dW (.lst []) L;rw[W];have ap:=s7 _ _ Y;have J:pa≠g:=nn L Y
  refine⟨_,rfl,g,y,_,rfl,ap,by simp,?_⟩;refine eY (aF bj s7) ap λH8 a3 f8 be=>?_;replace a3:H8 g=some (.ins A.aX y [("sieve",.ref t),("state",.ref x),("ahead",.ref x),("past",.ref pa)]):=a3;refine⟨UU _,λtb l=>?_⟩;obtain⟨_,W,s9,b8⟩:=dW (.lst []) l;rw[W];have b2:=s9 _ _ a3;have I:tb≠g:=nn l a3
  have b3:H8 pa=some (.lst []):=by rw[f8 pa J];exact b5
  have b6:tb≠pa:=nn l b3
  refine⟨_,rfl,g,y,_,rfl,b2,by simp,?_⟩;refine eY (aF be s9) b2 λi MB ah GO=>?_;replace MB:i g=some (.ins A.aX y [("sieve",.ref t),("state",.ref x),("ahead",.ref x),("past",.ref pa),("taken_back",.ref tb)]):=MB;have g4:∀c o,c≠g->F c=some o->i c=some o:=λc o a e=>by
   rw[ah c a];refine s9 _ _ ?_;rw[f8 c a];refine s7 _ _ ?_;rw[f6 c a];exact e
  have gx:∀c o,c≠g->c≠x->c≠A.ar->Hx c=some o->i c=some o:=λc o a m u e=>g4 c o a (s4 _ _ (Zq m u e));have g0:∀c o,c≠g->c≠A.ar->H c=some o->i c=some o:=λc o a u e=>gx c o a (nn e a6) u (sH _ _ (Zp a e));have z4:∀{c:Za},c≠g->F c=none->H c=none:=λ{c} a e=>by
   cases e2:H c with
   | none=>rfl
   | some o=>
    by_cases u:c=A.ar
    ·obtain⟨q,G⟩:=aU ai;rw[u,G]at e;cases e
    ·rw[s4 c o (by rw[ak (nn e2 a6),ak u];exact sH _ _ (Zp a e2))]at e;cases e
  have PH:H pa=none:=z4 J (by rw[<-f6 pa J];exact L);have Gs:H tb=none:=z4 I (by
   cases e2:F tb with
   | none=>rfl
   | some o=>
    rw[f8 tb I]at l;rw[s7 _ _ (show H6 tb=some o by rw[f6 tb I];exact e2)]at l;cases l)
  have TX:i x=some (.ins A.aL ag [("rows",.ref r),("by_hand",.ref b),("found",.ref f),("falls",.ref fl)]):=g4 _ _ a4 ay;have j:∀{c:Za}{ys:Uj},Hx c=some (.lst ys)->c≠g/\c≠x/\c≠A.ar:=λ{c ys} e=>⟨(λz=>by rw[z,U _ _ R]at e;cases e),(nn e az),λz=>by
   obtain⟨q,G⟩:=aU (aF (aF as S) U);rw[z,G]at e;cases e⟩
  have n:=(s3.trans U) _ _ au;have p:=U _ _ av;have Uk:=gx _ _ (j n).1 (j n).2.1 (j n).2.2 n;have Us:=gx _ _ (j p).1 (j p).2.1 (j p).2.2 p;have Ik:F pa=none:=by rw[<-f6 pa J];exact L
  have yW:F tb=none:=by
   cases e2:F tb with
   | none=>rfl
   | some o=>
    rw[f8 tb I]at l;rw[s7 _ _ (show H6 tb=some o by rw[f6 tb I];exact e2)]at l;cases l
  have Z:∀{c:Za}{o:HO},F c=some o->c≠pa/\c≠tb:=λ{c o} e=>⟨(nn e Ik),nn e yW⟩;have O:∀{c:Za}{o:HO},H c=none->c≠g->F c=some o->nxt (λ_=>none) H i g pa tb c=some o:=λ{c o} a m u=>by
   rw[fJ m (Z u).1 (Z u).2 (λ_ z=>by rw[a]at z;cases z) (λ_ _ _ z=>by rw[a]at z;cases z) λ_ z=>by rw[a]at z;cases z];exact g4 _ _ m u
  have b4:F r=some (.lst []):=s4 _ _ (Zq ((j n).2.1) ((j n).2.2) n);have bh:F b=some (.lst []):=s4 _ _ (Zq ((j p).2.1) ((j p).2.2) p);have X:∀{c:Za},Hx c=none->H c=none/\c≠g:=λ{c} e=>by
   have a:c≠g:=λz=>by rw[z,U _ _ R]at e;cases e
   refine⟨?_,a⟩;cases e2:H c with
   | none=>rfl
   | some o=>rw[sH c o (Zp a e2)]at e;cases e
  have go:∀{v:Uj}{ds:UF},aD K (lim Hx F) v ds->aD K (nxt (λ_=>none) H i g pa tb) v ds:=λ{v ds} d=>qt d λc o a m _ u h4=>by
   have n1:c≠g:=λe=>by rw[e,ab]at m;cases m;exact u _ _ _ rfl
   have n4:c≠A.ar:=λe=>by
    obtain⟨q,G⟩:=aU ai;rw[e,G]at m;cases m;exact h4 _ rfl
   have a8:=g4 c o n1 m;rw[fJ n1 (Z m).1 (Z m).2 (λys e=>a ys (sH _ _ (Zp n1 e))) (λC d' fs e=>?_) (λps e=>?_)]
   ·exact a8
   ·have:=g0 _ _ n1 n4 e;rw[a8]at this;cases this;exact u _ _ _ rfl
   ·have:=g0 _ _ n1 n4 e;rw[a8]at this;cases this;exact h4 _ rfl
  have hqB:SqT K (nxt (λ_=>none) H i g pa tb) t [.int s0,.int l0]:=by
   have aq:∀o:HO,(∀ys,o ≠ .lst ys)->(∀C d' fs,o ≠ .ins C d' fs)->(∀ps,o ≠ .tbl ps)->H t=some o->nxt (λ_=>none) H i g pa tb t=some o:=λo a m u e=>by
    have n1:t≠g:=λz=>by rw[z,hg]at e;cases e;exact m _ _ _ rfl
    have n4:t≠A.ar:=λz=>by rw[z,eE]at e;cases e;exact u _ rfl
    rw[fJ n1 (nn e PH) (nn e Gs) (λys z=>by rw[e]at z;cases z;exact a _ rfl) (λ_ _ _ z=>by rw[e]at z;cases z;exact m _ _ _ rfl) λ_ z=>by rw[e]at z;cases z;exact u _ rfl];exact g0 _ _ n1 n4 e
   rcases a7 with(q | ⟨ob,q⟩) | q
   ·exact .inl (.inl (aq _ (λ_ z=>by cases z) (λ_ _ _ z=>by cases z) (λ_ z=>by cases z) q))
   ·exact .inl (.inr ⟨ob,aq _ (λ_ z=>by cases z) (λ_ _ _ z=>by cases z) (λ_ z=>by cases z) q⟩)
   ·exact .inr q
  have ja:=pW (B:=λ_=>none) (H:=H) (H':=i) (g:=g) (pa:=pa) (tb:=tb);have Py:C7 K A.aL (nxt (λ_=>none) H i g pa tb) x ⟨[],[],a9,a5⟩:=⟨ag,r,b,f,fl,[],[],fv,lv,O a6 a4 ay,O bb (j n).1 b4,.nil,O bi (j p).1 bh,.nil,O (X hf).1 (X hf).2 b7,go df,O (X b0).1 (X b0).2 Rz,go dl⟩;have b1:StV.Ok ⟨[],[],a9,a5⟩ s0 l0:=⟨oo,iV,(λq G=>by cases G),(λq G=>by cases G),by show 0<64;decide,by show 0<64;decide⟩;refine k i (nxt (λ_=>none) H i g pa tb) pa tb ⟨[],[],a9,a5⟩ (λc o e=>?_) GO PH Gs (λc o a m=>qa rfl a m) rfl rfl ⟨y,t,x,x,[],[],MB,by rw[ah pa J];exact s9 _ _ b3,by rw[ah tb I];exact b8,zc (λc o e=>by cases e),ja.1,ja.2.1,ja.2.2,b6.symm,hqB,Py,Py,.nil,.nil,b1,b1⟩;obtain⟨a,e⟩:=aJ e;obtain⟨m,e⟩:=aJ e;exact g0 c o a m e
def uq (K:Xz) (A:Ad):Sp:=λvs H Q _=>∃(B:Hp) (g pa tb:Za) (v:fc) (x:V) (ps:Ui),vs=[.ref g,x]/\bA K A.aX A.aL B H g pa tb v/\B A.ar=none/\Den K H x (be ps)/\PW ps/\ps≠[]/\ps.length<=12/\ps∉v.cur.bs/\v.cur.bs.length<12/\v.past.length<=100000/\bG A.ar H /\
 ∀(H' B':Hp) (tb':Za) (cur:StV),af (wo g (wo pa (wo A.ar H))) H'->bG A.ar H'->H tb' = none->af B B'->(∀c o,B c=none->H c=some o->lZ o->B' c=none)->cur.rs=v.cur.rs->cur.bs.Perm (v.cur.bs++[ps])->lB cur.bs->bA K A.aX A.aL B' H' g pa tb' ⟨v.s,v.l,cur,v.cur,v.past++[(v.cur.rs,v.cur.bs)],[]⟩->Q .non H'
def sJ (K:Xz) (A:Ad):Sp:=λvs H Q _=>∃(B:Hp) (g pa tb:Za) (v:fc) (l:List (List (Int×Str)×Uh)) (rs:List (Int×Str)) (bs:Uh),vs=[.ref g]/\bA K A.aX A.aL B H g pa tb v/\B A.ar=none/\v.past=l++[(rs,bs)]/\FA (rs,bs)/\v.tbk.length<=100000/\bG A.ar H /\
 ∀(H' B':Hp) (cur:StV),af (wo g (wo pa (wo tb (wo A.ar H)))) H'->bG A.ar H'->af B B'->(∀c o,B c=none->H c=some o->lZ o->B' c=none)->cur.rs=rs->cur.bs=bs->bA K A.aX A.aL B' H' g pa tb ⟨v.s,v.l,cur,v.cur,l,v.tbk++[(v.cur.rs,v.cur.bs)]⟩->Q .non H'
def qA (K:Xz) (A:Ad):Sp:=λvs H Q _=>∃(B:Hp) (g pa tb:Za) (v:fc) (l:List (List (Int×Str)×Uh)) (rs:List (Int×Str)) (bs:Uh),vs=[.ref g]/\bA K A.aX A.aL B H g pa tb v/\B A.ar=none/\v.tbk=l++[(rs,bs)]/\FA (rs,bs)/\v.past.length<=100000/\bG A.ar H /\
 ∀(H' B':Hp) (cur:StV),af (wo g (wo pa (wo tb (wo A.ar H)))) H'->bG A.ar H'->af B B'->(∀c o,B c=none->H c=some o->lZ o->B' c=none)->cur.rs=rs->cur.bs=bs->bA K A.aX A.aL B' H' g pa tb ⟨v.s,v.l,cur,v.cur,v.past++[(v.cur.rs,v.cur.bs)],l⟩->Q .non H'
theorem Dw:aC ["thing"] ["thing"] (ag (top 23)):=by refine⟨rfl,rfl,rfl,?_,rfl,?_,?_⟩<;>decide +kernel
theorem BU (T:Tx K mg A):aB P w K mg base CX0 3 A.rn A.qP ["thing"] (uQ K):=by
 have f:aB P w K mg base CX0 2 _ _ _ _:=MC (o6 T);refine T.tQ.fn.ok Dw (λj H Q E h=>?_) (λ_ _ _ s H j Q E g h=>?_)
 ·obtain⟨v,p,rfl,_⟩:=h;rfl
 ·obtain⟨v,p,rfl,d,c,k⟩:=h;obtain⟨t,x,y,rfl,a,_,_,b⟩:=qV d;refine⟨_,aj (bx ((pw_or (ia (cY (aP (r:=HB K) w8 (by rfl) T.iB gJ (aa (pv 0) (aa (tZ (v:=.ty "tuple") (by rfl) T.Eo Ba rfl) ae))))) (pw_or1 (aO xa (aP (r:=dU K) bg (by rfl) T.c6 Yb (aa (pv 0) ae)) au (aR _)))).pt) (ao (aG sZ)) aS)
   (aj (bx (aO fX (bj (r:=lY K) d5 (pv 0) au (λ_ _=>rfl)) aI (aR _)) (ao (aG (av f g (by rfl) T.gH.mg T.gH.fn.kp T.gH.bd .nil aA (aa (bj (r:=lY K) d5 (pv 0) au (λ_ _=>rfl)) ae)))) aS)
   (ao (aG (o4 (cM fX (bj (r:=lY K) d5 (pv 0) au (λ_ _=>rfl)) aI (aR _)) (pF (cM (r:=rIn K false) xK (bj (r:=lY K) d5 (pv 0) au (λ_ _=>rfl)) (gF (v:=.ref A.b7) (by rfl) T.kW rfl) (by rfl))))))),?_⟩
  refine⟨_,rfl,t,_,.inl ⟨rfl,a⟩,_,rfl,br ?_⟩;refine⟨_,rfl,t,_,rfl,.inr a,rfl,_,rfl,br ?_⟩;refine⟨_,rfl,t,_,0,_,rfl,rfl,a,rfl,rfl,_,rfl,?_⟩;cases p with
  | word _=>
   obtain⟨rfl,rfl⟩:=b;rw[Zk rfl];exact cq ⟨_,rfl,t,_,1,_,rfl,rfl,a,rfl,_,rfl,(show TOk _ from c).1,k⟩
  | hole m=>
   obtain⟨rfl,rfl⟩:=b;refine br ⟨_,rfl,t,_,0,_,rfl,rfl,a,rfl,rfl,_,rfl,?_⟩;rw[Zk rfl];refine cq ⟨_,rfl,t,_,1,_,rfl,rfl,a,rfl,A.b7,_,rfl,.inr (T.li _),rfl,rfl,?_⟩;have e:∀i<3,(inV (.str (cK i)) [.str "number",.str "name",.str "any"])=true:=by decide +kernel
   rw[Zo UO,e m c];exact k
theorem wj:aC ["thing"] ["thing"] (ag (top 24)):=by refine⟨rfl,rfl,rfl,?_,rfl,?_,?_⟩<;>decide +kernel
theorem wK (T:Tx K mg A):aB P w K mg base CX0 4 A.lG A.lM ["thing"] (oF K):=by
 have I:aB P w K mg base CX0 3 _ _ _ _:=MC (BU T);refine T.kG.fn.ok wj (λL H Q E h=>?_) (λ_ _ _ s H L Q E J h=>?_)
 ·obtain⟨v,ps,rfl,_⟩:=h;rfl
 ·obtain⟨v,ps,rfl,B,o,_,_,C,k⟩:=h;obtain⟨a,xs,rfl,l,e⟩:=gG B;have F:xs.length=ps.length:=by rw[e.length,UA]
  refine⟨_,aj (bx (ia (cY (aP (r:=HB K) w8 (by rfl) T.iB gJ (aa (pv 0) (aa (tZ (v:=.ty "list") (by rfl) T.rG nG rfl) ae))))) (ao (aG sZ)) aS)
   (ao (aG (o4 (Az xh xh au (aP (r:=dU K) bg (by rfl) T.c6 Yb (aa (pv 0) ae)) (gF (v:=.int 12) (by rfl) (YE T.yX) ⟨_,rfl⟩)) (pF (aP (r:=EJ K) (mq rfl) (by rfl) T.zE vM (aa (aY (N':=["part"]) (n:=1) (fi:=[]) (g:=aZ 0) rfl (bf (ag (top 24)) ["thing"] (by decide +kernel)) (aT (pv 0)) (λs H t=>ay (i:=0) (nT _) rfl (Or.inl rfl) (.inr rfl)) (λs H t=>aV) (λs H t=>av I J (by rfl) T.tQ.mg T.tQ.fn.kp T.tQ.bd .nil aA (aa (pv 0) ae))) ae)))))),?_⟩
  refine⟨_,rfl,a,xs,.inr ⟨rfl,l⟩,_,rfl,br ?_⟩;refine⟨_,rfl,a,xs,rfl,.inl l,_,_,rfl,rfl,_,rfl,?_⟩;rw[Zk (show(1:Int)<=(xs.length:Int)by lia)];refine cq ⟨_,_,rfl,rfl,_,rfl,?_⟩;rw[Zk (show(xs.length:Int)<=12 by lia)];refine cq ⟨_,rfl,a,rfl,⟨_,l⟩,λD q=>?_⟩;refine aK (K:=K) (xs:=xs) (λi b f d=>(∃u,f=[u])/\af H d/\b=(List.replicate i true).map V.bl) ab ⟨⟨_,rfl⟩,af.new q,rfl⟩ (λi b f d _ _ p=>p.2.1.seq l) (λi x b f d z c p=>?_) (λb f d c p=>?_)
  ·obtain⟨⟨u,rfl⟩,j,rfl⟩:=p;have M:=aH z;obtain⟨p,G,m⟩:=lh e z;have y:=UC G;refine cB ⟨_,rfl,x,p,rfl,m.same j,o p y,_,c,small (by rw[UA,WA];lia),_,ab,⟨_,rfl⟩,ax q j,?_⟩;rw[C p y,List.replicate_succ',UL];rfl
  ·obtain⟨_,j,rfl⟩:=p;refine⟨D,_,rfl,.of c,?_⟩;rw[Ed];exact k d j
theorem vK:aC ["self","pattern","by_hand"] ["self","pattern"] (ag (mIn 55 8)):=by refine⟨rfl,rfl,rfl,?_,rfl,?_,?_⟩<;>decide +kernel
theorem CA (T:Tx K mg A):aB P w K mg base CX0 25 A.nC A.rH ["self","pattern"] (uq K A):=by
 have eM:aB P w K mg base CX0 24 _ _ _ _:=MC (iJ T);have kj:aB P w K mg base CX0 24 _ _ _ _:=MC (px T);have yk:aB P w K mg base CX0 24 _ _ _ _:=MC (wK T);refine T.yc.fn.ok vK (λvs H Q E h=>?_) (λ_ _ _ s H vs Q E hr h=>?_)
 ·obtain⟨B,g,pa,tb,v,x,ps,rfl,_⟩:=h;rfl
 ·obtain⟨B,g,pa,tb,v,x,ps,rfl,cw,aq,cx,I,a0,MW,Sd,_,a8,X,k⟩:=h;have Bh:=cw;obtain⟨dx,t,st,_,_,_,M,y,u,sB,a9,lO,m9,_,_,a5,_,_,_,C,_⟩:=Bh;obtain⟨U,r0,b0,_,_,a7,n,_,_,q1,q2,q3,q4,q5,_,_,_,_⟩:=a5;have ar:n.length=v.cur.bs.length:=by rw[q5.length,UA]
  have Y:∀p∈ps,p.ok:=λp F=>(I p F).okP.1;have Kh:∀q∈v.cur.bs,∀p∈q,p.ok:=λq d p F=>((C.hnd q d).1 p F).okP.1;have Pb:1<=ps.length:=by
   cases ps with
   | nil=>exact(a0 rfl).elim
   | cons _ _=>simp
  refine⟨_,aj (bh (i:=2) vK.nd rfl (Or.inl rfl) (bK T.bQ T.cm (bK T.aN T.bc (pv 0))))
   (aj (bx ((pw_or (ia (cY (av yk hr (by rfl) T.kG.mg T.kG.fn.kp T.kG.bd .nil aA (aa (pv 1) ae)))) (pw_or1 (aO (r:=Cy K false) (Nq hr) (pv 1) (pv 2) (by rfl)))).pt) (ao dg) aS)
   (aj (bx (aO DX (aP (r:=dU K) bg (by rfl) T.c6 Yb (aa (pv 2) ae)) (gF (v:=.int 12) (by rfl) (YE T.vC) ⟨_,rfl⟩) (aR _)) (ao dg) aS)
   (ao (bq (d8 (pv 0) T.aN T.iN eM hr T.jh.bd .nil aA (aa (bK T.bQ T.dw (bK T.aN T.bc (pv 0))) (aa (av kj hr (by rfl) T.ordered.mg T.ordered.fn.kp T.ordered.bd .nil aA (aa (bU (r:=uh K) nv (pv 2) (bz (aa (pv 1) ae))) ae)) ae))))))),?_⟩
  refine⟨_,rfl,g,dx,_,.ref st,rfl,M,rfl,st,U,_,.ref b0,rfl,sB _ _ q1,rfl,?_⟩;refine⟨_,rfl,x,ps,rfl,cx,Y,Pb,MW,λp F=>(I p F).okP.2,λ_ s1=>⟨_,rfl,br ?_⟩⟩;have f:=sB.trans s1;refine⟨_,rfl,_,rfl,_,_,.lst (.of (f _ _ q4)) (q5.same f),cx.same s1,?_,_,rfl,?_⟩
  ·exact UK (dP _) (by decide)
  rw[Zo UO,pM Kh Y,Zl Sd];refine br ?_;refine⟨_,rfl,b0,_,rfl,.inl (.of (f _ _ q4)),_,_,rfl,rfl,_,rfl,?_⟩;rw[Zl (by rw[ar];lia)];refine br ?_;have S:=s1 _ _ M;refine⟨_,rfl,g,dx,_,rfl,S,rfl,_,rfl,g,dx,_,.ref st,rfl,S,rfl,st,U,_,.ref r0,rfl,f _ _ q1,rfl,?_⟩;refine⟨_,rfl,_,rfl,(by show 1<=Zg;decide),λll L=>?_⟩;obtain⟨_,eq,s2,ag⟩:=dW (.lst [x]) L;rw[eq];refine⟨b0,ll,_,_,rfl,rfl,.of ((f.trans s2) _ _ q4),.of ag,UK (show n.length+1<=100 by lia) (by decide),λR hR=>?_⟩;obtain⟨H3,eq,s3,a4⟩:=dW (.lst (n++[x])) hR;rw[eq];have m:=s1.trans (s2.trans s3);have J:nY (v.cur.bs++[ps]):=λq d=>by
   rcases UY.mp d with d | d
   ·exact C.hnd q d
   ·rw[UG.mp d];exact⟨I,a0,MW⟩
  have d3:aD K H3 (n++[x]) ((v.cur.bs++[ps]).map be):=by
   rw[UL];exact(q5.same (sB.trans m)).append (.cons (cx.same m) .nil)
  refine⟨R,_,_,rfl,.of a4,by rw[UH,UQ];lia,d3,λq d=>⟨UK (J q d).2.2 (by decide),λp F=>((J q d).1 p F).okP.1⟩,λD W H4 l hD s4 as bu ap _ _ dn=>?_⟩;have b:=m.trans s4;obtain⟨_,eE⟩:=aU X;have a3:∀c o,B c=some o->H4 c=some o:=λc o e=>b _ _ (sB _ _ e);have j:=vU (H':=H4) sB a9 lO m9 a3;have ja:=pW (B:=B) (H:=H) (H':=H4) (g:=g) (pa:=pa) (tb:=tb);have Z:af (nxt B H H4 g pa tb) H4:=zc a3;have a:H D=none:=m.free hD;have dB:=FT (B:=B) m s4 M y u dn;have bD:nxt B H H4 g pa tb D=some (.lst W):=by
   rw[fJ (nn a M) (nn a y) (nn a u) (λ_ z=>by rw[a]at z;cases z) (λ_ _ _ z=>by rw[a]at z;cases z) λ_ z=>by rw[a]at z;cases z];exact as
  have G:∀c o,B c=none->H c=some o->lZ o->nxt B H H4 g pa tb c=none:=λc o V N O=>qa V N O;generalize nxt B H H4 g pa tb=B1 at j ja Z dB bD G;have L:=bu.length_eq;rw[UH,UQ]at L;have Ls:nY l:=λq d=>J q (bu.mem_iff.mp d);refine⟨B1,g,pa,tb,r0,D,v,a7,W,v.cur.rs,l,rfl,cw.grow j Z ja.1 ja.2.1 ja.2.2 ((b _ _ M).trans M.symm) ((b _ _ y).trans y.symm) ((b _ _ u).trans u.symm),G _ _ aq eE (.inr (.inr ⟨_,rfl⟩)),j _ _ q2,q3.same j,bD,dB,C.rl,C.lns,by lia,Ls,a8,aF X b,λH5 B' a6 ab s5 ai pJ Fl fC e1 e2 Bq=>?_⟩;refine k H5 B' a6 ab (λc o e=>?_) ai (b.free pJ) (j.trans Fl) (λc o V N O=>fC c o (G c o V N O) (b _ _ N) O) e1 (by rw[e2];exact bu) (by rw[e2];exact ap) Bq;obtain⟨V,e⟩:=aJ e;obtain⟨N,e⟩:=aJ e;obtain⟨O,e⟩:=aJ e;exact s5 _ _ (Zr V N O (b _ _ e))
theorem zF:aC ["self"] ["self"] (ag (mIn 55 10)):=by refine⟨rfl,rfl,rfl,?_,rfl,?_,?_⟩<;>decide +kernel
theorem AY (T:Tx K mg A):aB P w K mg base CX0 24 A.k4 A.oM ["self"] (sJ K A):=by
 have eJ:aB P w K mg base CX0 23 _ _ _ _:=MC (i5 T);have i3:aB P w K mg base CX0 23 _ _ _ _:=MC (l9 T);refine T.uu.fn.ok zF (λvs H Q E h=>?_) (λ_ _ _ s H vs Q E hr h=>?_)
 ·obtain⟨B,g,pa,tb,v,l,rs,bs,rfl,_⟩:=h;rfl
 ·obtain⟨B,g,pa,tb,v,l,rs,bs,rfl,cw,b8,mV,m,ax,a5,k⟩:=h;obtain⟨M,t,st,ah,_,u,n,d,a,sB,b5,lO,m9,I,Z,X,_,S,a7,b9,_⟩:=cw;have qY:=X;obtain⟨av,C,D,_,_,b3,ak,_,_,q1,q2,q3,q4,q5,_,_,_,_⟩:=qY;obtain⟨_,eE⟩:=aU a5;rw[mV]at S;obtain⟨ys,y,rfl,ay,hy⟩:=S.pop;obtain⟨h,r,b,rv,bv,rfl,as,ag,W,U,Y⟩:=hy;have aq:pa≠g:=nn d n
  have a4:tb≠g:=nn a n
  have Ud:u.length<=100000:=by rw[a7.1];exact ax
  refine⟨_,aj (bx (ia (vf (bK T.aN T.gU (pv 0)) (λ_=>rfl))) (ao dg) aS)
   (aj (bq (ee Y9 Yk Yl cR (bK T.aN T.cF (pv 0)) (aa (dY (pv 0) T.aN T.l5 i3 hr T.qz.bd .nil aA) ae)))
   (ao (bq (d8 (pv 0) T.aN T.iS eJ hr T.jt.bd .nil aA (aa (Jj Y9 PySem.F.slot_list_pop PySem.F.type_list_pop Eg (bK T.aN T.gU (pv 0))) ae))))),?_⟩
  have ba:(ys++[V.ref h]).isEmpty=false:=by simp
  refine⟨_,rfl,g,M,_,.ref pa,rfl,n,rfl,true,.inl ⟨_,.of d,by rw[ba];rfl⟩,br ?_⟩;refine⟨_,rfl,g,M,_,.ref tb,rfl,n,rfl,.inl ⟨rfl,_,.of a⟩,_,rfl,g,M,_,rfl,n,rfl,g,M,st,av,_,_,.ref C,.ref D,rfl,n,rfl,sB _ _ q1,rfl,rfl,λp q=>?_⟩;have Ff:p≠pa:=nn q d
  have L:p≠tb:=nn q a
  have ai:p≠g:=nn q n
  refine⟨tb,u,_,rfl,rfl,by rw[ap L.symm];exact a,small (by lia),?_⟩;have a0:bG A.ar (upd (upd H p (.tup [.ref C,.ref D])) tb (.lst (u++[.ref p]))):=jn (aF a5 (af.new q)) (xs:=u) (by rw[ap L.symm];exact a);have f2:∀c,c≠tb->c≠p->(upd (upd H p (.tup [.ref C,.ref D])) tb (.lst (u++[.ref p]))) c=H c:=λc J h2=>by rw[ap J,ap h2]
  have N:(upd (upd H p (.tup [.ref C,.ref D])) tb (.lst (u++[.ref p]))) tb=some (.lst (u++[.ref p])):=ab;have R:(upd (upd H p (.tup [.ref C,.ref D])) tb (.lst (u++[.ref p]))) p=some (.tup [.ref C,.ref D]):=by rw[ap L];exact ab
  generalize upd (upd H p (.tup [.ref C,.ref D])) tb (.lst (u++[.ref p]))=H2 at f2 N R a0 ⊢;have O:H2 g=_:=(f2 g a4.symm ai.symm).trans n;have G:H2 pa=_:=(f2 pa I Ff.symm).trans d;refine⟨_,rfl,g,M,_,rfl,O,rfl,_,rfl,g,M,_,.ref pa,rfl,O,rfl,.inl ⟨rfl,_,.of G⟩,pa,.ref h,ys,rfl,rfl,G,?_⟩;have a6:=jn (ys:=ys) a0 G;have f5:∀c,c≠pa->(upd H2 pa (.lst ys)) c=H2 c:=λc J=>ap J;have a9:(upd H2 pa (.lst ys)) pa=some (.lst ys):=ab;generalize upd H2 pa (.lst ys)=H5 at f5 a9 a6 ⊢;have g5:∀c o,c≠pa->c≠tb->H c=some o->H5 c=some o:=λc o J h2 e=>by
   rw[f5 c J,f2 c h2 λz=>by rw[z,q]at e;cases e];exact e
  have j:af B H5:=λc o e=>g5 c o (nn e lO) (nn e m9) (sB _ _ e);have az:H5 tb=_:=(f5 tb I.symm).trans N;have aw:H5 p=_:=(f5 p Ff).trans R;refine⟨g,h,M,t,st,ah,pa,tb,r,b,rv,bv,rs,bs,v.s,v.l,rfl,g5 _ _ aq.symm a4.symm n,j.eA as,j.eA Z,j _ _ ag,W.same j,j _ _ U,Y.same j,m.rl,m.lns,m.bl,m.hnd,a6,λH6 x _ f _ _ _ b4 au hx hf b6 s6 a8 b2 b1 b7 df CI dl oo iV=>?_⟩;obtain⟨a1,a2,a3⟩:=vn (P:=A.ar) (past:=l) (tbk:=v.tbk++[(v.cur.rs,v.cur.bs)]) n d a sB b5 lO m9 I Z X b9 b8 eE g5 a9 az hx hf b6 s6 (aU a8) b2 b1 b7 df CI dl ag W U Y m oo iV λ_ i Ct=>⟨ay.same i,(a7.same i).snoc ⟨p,C,D,b3,ak,rfl,.of (Ct p _ q aw),i _ _ q2,q3.same i,i _ _ q4,q5.same i⟩⟩;exact k H6 _ ⟨rs,bs,b4,au⟩ a1 a8 a2 (λc o J h2 h3=>qa J h2 h3) rfl rfl a3
theorem y4:aC ["self"] ["self"] (ag (mIn 55 11)):=by refine⟨rfl,rfl,rfl,?_,rfl,?_,?_⟩<;>decide +kernel
theorem zt (T:Tx K mg A):aB P w K mg base CX0 24 A.jg A.mF ["self"] (qA K A):=by
 have eJ:aB P w K mg base CX0 23 _ _ _ _:=MC (i5 T);have i3:aB P w K mg base CX0 23 _ _ _ _:=MC (l9 T);refine T.w5.fn.ok y4 (λvs H Q E h=>?_) (λ_ _ _ s H vs Q E hr h=>?_)
 ·obtain⟨B,g,pa,tb,v,l,rs,bs,rfl,_⟩:=h;rfl
 ·obtain⟨B,g,pa,tb,v,l,rs,bs,rfl,cw,b8,mV,m,b3,a5,k⟩:=h;obtain⟨L,t,st,ah,u,_,n,a,d,sB,b5,lO,m9,I,Z,X,_,S,a7,b9,_⟩:=cw;have qY:=X;obtain⟨au,C,D,_,_,b2,ak,_,_,q1,q2,q3,q4,q5,_,_,_,_⟩:=qY;obtain⟨_,eE⟩:=aU a5;rw[mV]at a7;obtain⟨ys,y,rfl,aw,hy⟩:=a7.pop;obtain⟨h,r,b,rv,bv,rfl,aq,ag,W,U,Y⟩:=hy;have O:pa≠g:=nn a n
  have b1:tb≠g:=nn d n
  have Nz:u.length<=100000:=by rw[S.1];exact b3
  refine⟨_,aj (bx (ia (vf (bK T.aN T.cF (pv 0)) (λ_=>rfl))) (ao dg) aS)
   (aj (bq (ee Y9 Yk Yl cR (bK T.aN T.gU (pv 0)) (aa (dY (pv 0) T.aN T.l5 i3 hr T.qz.bd .nil aA) ae)))
   (ao (bq (d8 (pv 0) T.aN T.iS eJ hr T.jt.bd .nil aA (aa (Jj Y9 PySem.F.slot_list_pop PySem.F.type_list_pop Eg (bK T.aN T.cF (pv 0))) ae))))),?_⟩
  have ba:(ys++[V.ref h]).isEmpty=false:=by simp
  refine⟨_,rfl,g,L,_,.ref tb,rfl,n,rfl,true,.inl ⟨_,.of d,by rw[ba];rfl⟩,br ?_⟩;refine⟨_,rfl,g,L,_,.ref pa,rfl,n,rfl,.inl ⟨rfl,_,.of a⟩,_,rfl,g,L,_,rfl,n,rfl,g,L,st,au,_,_,.ref C,.ref D,rfl,n,rfl,sB _ _ q1,rfl,rfl,λp q=>?_⟩;have Ff:p≠pa:=nn q a
  have a4:p≠tb:=nn q d
  have ai:p≠g:=nn q n
  refine⟨pa,u,_,rfl,rfl,by rw[ap Ff.symm];exact a,small (by lia),?_⟩;have a0:bG A.ar (upd (upd H p (.tup [.ref C,.ref D])) pa (.lst (u++[.ref p]))):=jn (aF a5 (af.new q)) (xs:=u) (by rw[ap Ff.symm];exact a);have f2:∀c,c≠pa->c≠p->(upd (upd H p (.tup [.ref C,.ref D])) pa (.lst (u++[.ref p]))) c=H c:=λc J h2=>by rw[ap J,ap h2]
  have M:(upd (upd H p (.tup [.ref C,.ref D])) pa (.lst (u++[.ref p]))) pa=some (.lst (u++[.ref p])):=ab;have R:(upd (upd H p (.tup [.ref C,.ref D])) pa (.lst (u++[.ref p]))) p=some (.tup [.ref C,.ref D]):=by rw[ap Ff];exact ab
  generalize upd (upd H p (.tup [.ref C,.ref D])) pa (.lst (u++[.ref p]))=H2 at f2 M R a0 ⊢;have N:H2 g=_:=(f2 g O.symm ai.symm).trans n;have G:H2 tb=_:=(f2 tb I.symm a4.symm).trans d;refine⟨_,rfl,g,L,_,rfl,N,rfl,_,rfl,g,L,_,.ref tb,rfl,N,rfl,.inl ⟨rfl,_,.of G⟩,tb,.ref h,ys,rfl,rfl,G,?_⟩;have a6:=jn (ys:=ys) a0 G;have f5:∀c,c≠tb->(upd H2 tb (.lst ys)) c=H2 c:=λc J=>ap J;have a9:(upd H2 tb (.lst ys)) tb=some (.lst ys):=ab;generalize upd H2 tb (.lst ys)=H5 at f5 a9 a6 ⊢;have g5:∀c o,c≠pa->c≠tb->H c=some o->H5 c=some o:=λc o J h2 e=>by
   rw[f5 c h2,f2 c J λz=>by rw[z,q]at e;cases e];exact e
  have j:af B H5:=λc o e=>g5 c o (nn e lO) (nn e m9) (sB _ _ e);have ax:H5 pa=_:=(f5 pa I).trans M;have av:H5 p=_:=(f5 p a4).trans R;refine⟨g,h,L,t,st,ah,pa,tb,r,b,rv,bv,rs,bs,v.s,v.l,rfl,g5 _ _ O.symm b1.symm n,j.eA aq,j.eA Z,j _ _ ag,W.same j,j _ _ U,Y.same j,m.rl,m.lns,m.bl,m.hnd,a6,λH6 x _ f _ _ _ b4 as hx hf b6 s6 a8 az ay b7 df CI dl oo iV=>?_⟩;obtain⟨a1,a2,a3⟩:=vn (P:=A.ar) (past:=v.past++[(v.cur.rs,v.cur.bs)]) (tbk:=l) n a d sB b5 lO m9 I Z X b9 b8 eE g5 ax a9 hx hf b6 s6 (aU a8) az ay b7 df CI dl ag W U Y m oo iV λ_ i Ct=>⟨(S.same i).snoc ⟨p,C,D,b2,ak,rfl,.of (Ct p _ q av),i _ _ q2,q3.same i,i _ _ q4,q5.same i⟩,aw.same i⟩;exact k H6 _ ⟨rs,bs,b4,as⟩ a1 a8 a2 (λc o J h2 h3=>qa J h2 h3) rfl rfl a3
def tz (K:Xz) (A:Ad):Sp:=λvs H Q _=>∃(B:Hp) (g pa tb:Za) (v:fc) (x:V) (ps:Ui),vs=[.ref g,x]/\bA K A.aX A.aL B H g pa tb v/\B A.ar=none/\Den K H x (be ps)/\(∀p∈ps,p.ok)/\ps∈v.cur.bs/\v.past.length<=100000/\bG A.ar H /\
 ∀(H' B':Hp) (tb':Za) (cur:StV),af (wo g (wo pa (wo A.ar H))) H'->bG A.ar H'->H tb' = none->af B B'->(∀c o,B c=none->H c=some o->lZ o->B' c=none)->cur.rs=v.cur.rs->cur.bs=v.cur.bs.filter (λq=>decide (q≠ps))->bA K A.aX A.aL B' H' g pa tb' ⟨v.s,v.l,cur,v.cur,v.past++[(v.cur.rs,v.cur.bs)],[]⟩->Q .non H'
theorem rQ:aC ["self","pattern","by_hand"] ["self","pattern"] (ag (mIn 55 9)):=by refine⟨rfl,rfl,rfl,?_,rfl,?_,?_⟩<;>decide +kernel
theorem zY (T:Tx K mg A):aB P w K mg base CX0 25 A.lK A.oQ ["self","pattern"] (tz K A):=by
 have eM:aB P w K mg base CX0 24 _ _ _ _:=MC (iJ T);refine T.BE.fn.ok rQ (λvs H Q E h=>?_) (λ_ _ _ s H vs Q E hr h=>?_)
 ·obtain⟨B,g,pa,tb,v,x,C,rfl,_⟩:=h;rfl
 ·obtain⟨B,g,pa,tb,v,x,C,rfl,cw,as,cx,U,ar,a6,S,k⟩:=h;have Bh:=cw;obtain⟨dx,t,Z,_,_,_,L,G,F,m,a7,lO,m9,_,_,a0,_,_,_,j,_⟩:=Bh;obtain⟨N,r0,b0,_,_,a4,M,_,_,q1,q2,q3,q4,q5,_,_,_,_⟩:=a0;have au:M.length=v.cur.bs.length:=by rw[q5.length,UA]
  have az:=j.bl;have Kh:∀q∈v.cur.bs,∀p∈q,p.ok:=λq hq p J=>((j.hnd q hq).1 p J).okP.1;refine⟨_,aj (bh (i:=2) rQ.nd rfl (Or.inl rfl) (bK T.bQ T.cm (bK T.aN T.bc (pv 0))))
   (aj (bx (aO (r:=Cy K true) (nL hr) (pv 1) (pv 2) (by rfl)) (ao dg) aS)
   (ao (bq (d8 (pv 0) T.aN T.iN eM hr T.jh.bd .nil aA (aa (bK T.bQ T.dw (bK T.aN T.bc (pv 0))) (aa (aY (N':=["kept","pattern"]) (n:=1) (fi:=[1]) (g:=aZ 0) rfl (bf (ag (mIn 55 9)) ["self","pattern","by_hand"] (by decide +kernel)) (aT (pv 2)) (λs H fp=>ay (i:=0) (show(["kept","pattern"]:Uq).Nodup by decide +kernel) rfl (Or.inl rfl) (.inr rfl)) (λs H fp=>dS (aO (r:=Jg K) (yT hr) (pv 0) (pv 1) (aR _))) (λs H fp=>pv 0)) ae)))))),?_⟩
  refine⟨_,rfl,g,dx,_,.ref Z,rfl,L,rfl,Z,N,_,.ref b0,rfl,m _ _ q1,rfl,?_⟩;refine⟨_,rfl,_,rfl,_,_,.lst (.of (m _ _ q4)) (q5.same m),cx,UK (dP _) (by decide),_,rfl,?_⟩;rw[Zn rfl,pM Kh U,Zk ar];refine br ?_;refine⟨_,rfl,g,dx,_,rfl,L,rfl,_,rfl,g,dx,_,.ref Z,rfl,L,rfl,Z,N,_,.ref r0,rfl,m _ _ q1,rfl,?_⟩;refine⟨_,rfl,b0,rfl,⟨_,.of (m _ _ q4)⟩,λD X=>?_⟩;refine aK (K:=K) (xs:=M) (λi a Y H2=>(∃u,Y=[u,some x])/\af H H2/\aD K B a (((v.cur.bs.take i).filter λq=>decide (q≠C)).map be)) ab ⟨⟨_,rfl⟩,af.new X,.nil⟩ (λi a Y H2 _ _ q=>.of (q.2.1 _ _ (m _ _ q4))) (λi y a Y H2 hy O q=>?_) (λa Y H2 a5 q=>?_)
  ·obtain⟨q0,b,I⟩:=q;apply cU q0;clear q0;intro u;obtain⟨d,hd,W⟩:=q5.get hy;rw[UI]at hd;obtain⟨p,V,rfl⟩:=Option.map_eq_some_iff.mp hd;have hi:=aH V;have aw:a.length<=64:=by
    rw[I.length,UA];have l:=U9 (λq=>decide (q≠C)) (v.cur.bs.take i);rw[UT]at l;lia
   have ht:v.cur.bs.take (i+1)=v.cur.bs.take i++[p]:=by rw[UX,V];rfl
   rw[ht,Vi,UL];refine⟨_,rfl,_,rfl,_,_,(W.same m).same b,cx.same b,UK (dP _) (by decide),_,rfl,?_⟩;rw[tS (Kh p (UC V)) U];by_cases J:p=C
   ·rw[Zk J,show([p].filter λq=>decide (q≠C))=[]from VT (λe=>Zm e J),VQ,Vd];exact br ⟨a,O,⟨_,rfl⟩,b,I⟩
   ·rw[Zl J,show([p].filter λq=>decide (q≠C))=[p]from V7 (Zk J)];exact cq ⟨_,rfl,a,O,small (by lia),_,ab,⟨_,rfl⟩,ax X b,I.append (.cons W .nil)⟩
  ·obtain⟨_,b,I⟩:=q;rw[au,Vl]at I;obtain⟨_,eE⟩:=aU S;have aq:B D=none:=m.free X;have f:af B (upd B D (.lst a)):=af.new aq;have av:af (upd B D (.lst a)) H2:=λc o e=>by
    by_cases l:c=D
    ·rw[l,ab]at e;cases e;rw[l];exact a5
    ·rw[ap l]at e;exact b _ _ (m _ _ e)
   have R:∀{c:Za}{o:HO},H c=some o->c≠D:=λ{c o} e z=>by rw[z,X]at e;cases e
   have a9:nY (v.cur.bs.filter λq=>decide (q≠C)):=λq hq=>j.hnd q (U0.mp hq).1;have b1:=U9 (λq=>decide (q≠C)) v.cur.bs;refine⟨upd B D (.lst a),g,pa,tb,r0,D,v,a4,a,v.cur.rs,_,rfl,cw.grow f av (by rw[ap (R L)];exact a7) (by rw[ap (R G)];exact lO) (by rw[ap (R F)];exact m9) ((b _ _ L).trans L.symm) ((b _ _ G).trans G.symm) ((b _ _ F).trans F.symm),by rw[ap (R eE)];exact as,f _ _ q2,q3.same f,ab,I.same f,j.rl,j.lns,by lia,a9,a6,aF S b,λH5 B' a3 a8 s5 ai pJ Fl fC V e2 Bq=>?_⟩;refine k H5 B' a3 a8 (λc o e=>?_) ai (b.free pJ) (f.trans Fl) (λc o l h2 h3=>fC c o (by rw[ap (R h2)];exact l) (b _ _ h2) h3) V e2 Bq;obtain⟨l,e⟩:=aJ e;obtain⟨h2,e⟩:=aJ e;obtain⟨h3,e⟩:=aJ e;exact s5 _ _ (Zr l h2 h3 (b _ _ e))
theorem yA:aC ["cell","turn"] ["cell","turn"] (ag (top 57)):=by refine⟨rfl,rfl,rfl,?_,rfl,?_,?_⟩<;>decide +kernel
theorem yP (T:Tx K mg A):aB P w K mg base CX0 1 A.mD A.m8 ["cell","turn"] (oz K):=by
 refine T.gc.fn.ok yA (λf H Q E h=>?_) (λ_ _ _ s H f Q E _ h=>?_)
 ·obtain⟨c,m,rfl,_⟩:=h;rfl
 ·obtain⟨c,m,rfl,_,k⟩:=h;refine⟨_,aj (bx (aO DX (pv 0) (bU yK au au) (aR _)) (ao (aG (bz (aa (bU G7 (pv 0) (bU yK au au)) (aa (bU qS (pv 0) au) (aa (pv 1) ae)))))) aS)
   (ao (aG (bz (aa au (aa (bU qS (pv 0) au) (aa (pv 1) ae)))))),?_⟩
  refine⟨_,rfl,_,_,rfl,rfl,⟨by decide,by decide,by decide⟩,_,_,rfl,rfl,_,rfl,?_⟩;refine uX (λb=>?_) (λb=>?_)
  ·refine⟨_,rfl,_,_,rfl,rfl,⟨by decide,by decide,by decide⟩,_,_,rfl,rfl,_,rfl,_,_,rfl,rfl,(by show(0:Int)<2147483579;decide),_,rfl,(by show 3<=Zg;decide),λd a=>?_⟩;have e:(10:Int) ^ (18:Int).toNat<=c:=Zm b;exact k d _ a (af.new a) ⟨_,_,_,ab,by lia,Wu _ (by decide),Wd _ (by decide),Int.natCast_nonneg _,Int.le_refl _⟩
  ·refine⟨_,rfl,_,_,rfl,rfl,(by show(0:Int)<2147483579;decide),_,rfl,(by show 3<=Zg;decide),λd a=>?_⟩;exact k d _ a (af.new a) ⟨_,_,_,ab,by decide,Wu _ (by decide),Wd _ (by decide),Int.natCast_nonneg _,Int.le_refl _⟩
theorem iw:aC ["deck","many","found","number"] ["deck","many"] (ag (top 58)):=by refine⟨rfl,rfl,rfl,?_,rfl,?_,?_⟩<;>decide +kernel
theorem cD (T:Tx K mg A):aB P w K mg base CX0 1 A.cf A.b9 ["deck","many"] (bX K):=by
 refine T.aq.fn.ok iw (λv H Q E h=>?_) (λ_ _ _ s H v Q E _ h=>?_)
 ·obtain⟨d,m,n,rfl,_⟩:=h;rfl
 ·obtain⟨d,m,n,rfl,o,_,e,_,k⟩:=h;refine⟨_,aj (bx (aO Mt (bj (r:=ff K) bi (pv 0) au (λ_ _=>rfl)) au (aR _)) (aj (bh (i:=2) iw.nd rfl (Or.inl rfl) (bU qS (bj (r:=ff K) bi (pv 0) au (λ_ _=>rfl)) (pv 1)))
   (aj (rm (bU Eu (bj (r:=ff K) bi (pv 0) au (λ_ _=>rfl)) (pv 1)) (C0 (pv 0) au set_list))
   (ao (aG (pv 2))))) aS)
   (aj (rm (bU iP (bj (r:=ff K) bi (pv 0) au (λ_ _=>rfl)) au) (C0 (pv 0) au set_list))
   (aj (bh (i:=3) iw.nd rfl (Or.inl rfl) (bU qS (bU yK (bU iP (bj (r:=ff K) bi (pv 0) au (λ_ _=>rfl)) (bU Cr au (bj (r:=ff K) bi (pv 0) au (λ_ _=>rfl)))) au) au))
   (aj (bh (i:=2) iw.nd rfl (Or.inl rfl) (bU Eu (bU qS (bU yK (bU iP (pv 3) (bU Cr au (bj (r:=ff K) bi (pv 0) au (λ_ _=>rfl)))) au) au) au))
   (aj (bx (aO Mt (pv 1) au (aR _)) (ao dg) aS)
   (ao (aG (bU qS (pv 2) (pv 1)))))))),?_⟩
  obtain⟨a,b,c,l,q,p,g,u,_⟩:=o;have j:SqL K H d [.int a,.int b,.int c]:=.of l;refine⟨_,rfl,d,_,0,_,rfl,rfl,j,rfl,_,_,rfl,rfl,_,rfl,?_⟩;refine uX (λt=>?_) (λt=>?_)
  ·refine⟨_,rfl,d,_,0,_,rfl,rfl,j,rfl,_,rfl,_,_,rfl,rfl,e,?_⟩;refine⟨_,rfl,d,_,0,_,rfl,rfl,j,rfl,_,rfl,_,_,rfl,rfl,⟨e,by lia⟩,?_⟩;refine⟨_,rfl,d,_,0,0,rfl,rfl,l,rfl,?_⟩;refine⟨_,rfl,?_⟩;exact k _ _ Ap ⟨_,_,_,ab,Int.ediv_nonneg q (by lia),p,g,u,by lia⟩ (Wu _ (by lia)) (Wd _ e)
  ·refine⟨_,rfl,d,_,2,_,rfl,rfl,j,rfl,_,_,rfl,rfl,?_⟩;refine⟨_,rfl,d,_,2,2,rfl,rfl,l,rfl,?_⟩;have f:SqL K (upd H d (.lst [.int a,.int b,.int (c+1)])) d [.int a,.int b,.int (c+1)]:=.of ab;refine⟨_,rfl,d,_,1,_,rfl,rfl,f,rfl,_,rfl,d,_,2,_,rfl,rfl,f,rfl,_,_,rfl,rfl,.inl ⟨by decide,by decide⟩,_,_,rfl,rfl,_,_,rfl,rfl,⟨by decide,by decide,by lia⟩,_,_,rfl,rfl,(by show(0:Int)<2147483647;decide),?_⟩;refine⟨_,rfl,_,rfl,d,_,2,_,rfl,rfl,f,rfl,_,_,rfl,rfl,.inl ⟨by decide,by decide⟩,_,_,rfl,rfl,_,_,rfl,rfl,⟨by decide,by decide,?_⟩,_,_,rfl,rfl,(by show(0:Int)<2147483629;decide),_,_,rfl,rfl,⟨by decide,by decide⟩,?_⟩
   ·have x:=Wu ((b+15485867 * (c+1)) ^ (5:Int).toNat) (show(2147483647:Int)≠0 by decide);have y:=Wd ((b+15485867 * (c+1)) ^ (5:Int).toNat) (show(0:Int)<2147483647 by decide);lia
   ·refine⟨_,rfl,_,_,rfl,rfl,_,rfl,?_⟩;rw[Zl (show¬ (1000000:Int)<m by lia)];refine br ?_;refine⟨_,rfl,_,rfl,_,_,rfl,rfl,e,?_⟩;exact k _ _ Ap ⟨_,_,_,ab,q,p,g,by lia,by lia⟩ (Wu _ (by lia)) (Wd _ e)
theorem qI:aC ["word","figures"] ["word"] (ag (top 59)):=by refine⟨rfl,rfl,rfl,?_,rfl,?_,?_⟩<;>decide +kernel
theorem yR (T:Tx K mg A):aB P w K mg base CX0 1 A.md A.l8 ["word"] (qh K):=by
 refine T.nK.fn.ok qI (λY H Q E h=>?_) (λ_ _ _ s H Y Q E N h=>?_)
 ·obtain⟨z,rfl,_⟩:=h;rfl
 ·obtain⟨z,rfl,q,k⟩:=h;refine⟨_,aj (bh (i:=1) qI.nd rfl (Or.inl rfl) (jT (aO fX (kc Jb (pv 0) p5 (lu au)) aI (aR _)) (kc Jb (pv 0) (lu au) p5) (pv 0)))
   (aj (bx ((pw_and (aO xa (pv 1) aI (aR _)) (pw_and1 (aO (r:=vI K) (m4 N) (aY (N':=["sign"]) (n:=1) (fi:=[]) (g:=aZ 0) rfl (bf (ag (top 59)) ["word","figures"] (by decide +kernel)) (F8 (pv 1)) (λs H v=>ay (i:=0) (nT _) rfl (Or.inl rfl) (.inr rfl)) (λs H v=>dS (ia (vA nI nI aI (pv 0) aI))) (λs H v=>pv 0)) (bz ae) (aR _)))).pt) (ao (aG aI)) aS)
   (ao (aG (jT (aO (r:=vI K) (m4 N) (aY (N':=["sign"]) (n:=1) (fi:=[]) (g:=aZ 0) rfl (bf (ag (top 59)) ["word","figures"] (by decide +kernel)) (F8 (pv 0)) (λs H v=>ay (i:=0) (nT _) rfl (Or.inl rfl) (.inr rfl)) (λs H v=>dS (ia (vA nI nI aI (pv 0) aI))) (λs H v=>pv 0)) (bz ae) (aR _)) aI aI)))),?_⟩
  have M:z.length<=Zg:=UK q.1 (by decide);have I:=Ij (z:=z) (l:=some 1) (u:=none) q.2;have L:("0" : Str)=⟨#[48]⟩:=by decide +kernel
  have O:("9" : Str)=⟨#[57]⟩:=by decide +kernel
  have W:("a" : Str)=⟨#[97]⟩:=by decide +kernel
  have Z:("z" : Str)=⟨#[122]⟩:=by decide +kernel
  have ek:eL z.cps.toList=if eu dig (bH z.cps.toList)=true then 0 else if z.cps.toList.all low=true then 1 else 2:=rfl;rw[ek]at k;refine⟨_,rfl,_,rfl,z,rfl,M,rfl,_,rfl,?_⟩;rw[E2];have S:∃f:Str,f.cps.toList=bH z.cps.toList/\Y1 f=true/\f.length<=10000/\(f=if z.cps.toList.head? = some 45 then YO z (some 1) none else z):=by
   by_cases m:z.cps.toList.head? = some 45
   ·exact⟨_,by rw[Zn m,C5];exact z7 m,by rw[Zn m];exact I.1,by rw[Zn m];exact UK I.2 q.1,rfl⟩
   ·exact⟨_,by rw[Zo m];exact CW m,by rw[Zo m];exact q.2,by rw[Zo m];exact q.1,rfl⟩
  obtain⟨f,B,J,G,C⟩:=S;have d:∀H2,af H H2->eu dig (bH z.cps.toList)=false->Rb (tIf (wO (tOp (vI K) (AU (Nl (rD 0)) (aZ 0) (Ou (wO (y9 (λx y H Q=>∃i j,x = .str i/\y = .str j/\Q (.bl (!decide (j.cps.toList<i.cps.toList))) H) (λx y H Q=>∃i j,x = .str i/\y = .str j/\Q (.bl (!decide (j.cps.toList<i.cps.toList))) H) (tC (.str "a")) (rD 0) (tC (.str "z"))))) (rD 0) 1 []) (Oo Jp))) (tC (.str "name")) (tC (.str "other"))) { nx:=λ_ U=>Q .non U,rt:=Q } [some (.str z),some (.str f)] H2:=λH2 t D=>by
   refine rB (λc=>!(decide (97<=c) && decide (c<=122))) rfl q.2 (UK q.1 (by decide)) (λc H2 R h=>lP W Z h) λV X=>?_;have e:(z.cps.toList.all λc=>!(!(decide (97<=c) && decide (c<=122))))=z.cps.toList.all low:=by
    congr 1
    funext c
    simp[low]
   rw[e];have o:=k V (t.trans X);rw[D,Zo UO]at o;by_cases b:z.cps.toList.all low=true
   ·rw[Zn b]at o;rw[b];exact cq o
   ·rw[Zo b]at o;rw[U3.mpr b];exact br o
  by_cases m:z.cps.toList.head? = some 45
  ·rw[Zk m];rw[Zn m]at C;subst C;refine cq ⟨_,rfl,_,rfl,z,rfl,M,?_⟩;refine⟨_,rfl,rfl,_,rfl,?_⟩;rw[qB,B];by_cases p:(bH z.cps.toList).isEmpty=true
   ·rw[p];refine br ?_;refine br ?_;exact d H (af.refl _) (by unfold eu;rw[p];rfl)
   ·rw[U3.mpr p];refine cq ?_;refine rB (λc=>!(decide (48<=c) && decide (c<=57))) rfl J (UK G (by decide)) (λc H2 R h=>lP L O h) λH2 t=>?_;have e:((YO z (some 1) none).cps.toList.all λc=>!(!(decide (48<=c) && decide (c<=57))))=(bH z.cps.toList).all dig:=by
     rw[B]
     congr 1
     funext c
     simp[dig]
    rw[e];by_cases b:(bH z.cps.toList).all dig=true
    ·rw[b];refine cq ?_;have F:eu dig (bH z.cps.toList)=true:=by unfold eu;rw[U3.mpr p,b];rfl
     have o:=k H2 t;rw[F,Zn rfl]at o;exact o
    ·rw[U3.mpr b];refine br ?_;exact d H2 t (by unfold eu;rw[U3.mpr b,Wz])
  ·rw[Zl m];rw[Zo m]at C;subst C;refine br ⟨_,rfl,?_⟩;refine⟨_,rfl,rfl,_,rfl,?_⟩;rw[qB,B];by_cases p:(bH f.cps.toList).isEmpty=true
   ·rw[p];refine br ?_;refine br ?_;exact d H (af.refl _) (by unfold eu;rw[p];rfl)
   ·rw[U3.mpr p];refine cq ?_;refine rB (λc=>!(decide (48<=c) && decide (c<=57))) rfl J (UK G (by decide)) (λc H2 R h=>lP L O h) λH2 t=>?_;have e:(f.cps.toList.all λc=>!(!(decide (48<=c) && decide (c<=57))))=(bH f.cps.toList).all dig:=by
     rw[<-B]
     congr 1
     funext c
     simp[dig]
    rw[e];by_cases b:(bH f.cps.toList).all dig=true
    ·rw[b];refine cq ?_;have F:eu dig (bH f.cps.toList)=true:=by unfold eu;rw[U3.mpr p,b];rfl
     have o:=k H2 t;rw[F,Zn rfl]at o;exact o
    ·rw[U3.mpr b];refine br ?_;exact d H2 t (by unfold eu;rw[U3.mpr b,Wz])
theorem kF:aC ["deck","way","some"] ["deck"] (ag (top 60)):=by refine⟨rfl,rfl,rfl,?_,rfl,?_,?_⟩<;>decide +kernel
theorem ql (T:Tx K mg A):aB P w K mg base CX0 2 A.jC A.jx ["deck"] (lI K):=by
 have R:aB P w K mg base CX0 1 _ _ _ _:=MC (cD T);refine T.gz.fn.ok kF (λvs H Q E h=>?_) (λ_ _ _ s H vs Q E S h=>?_)
 ·obtain⟨d,n,rfl,_⟩:=h;rfl
 ·obtain⟨d,n,rfl,a4,_,k⟩:=h;refine⟨_,aj (bh (i:=1) kF.nd rfl (Or.inl rfl) (av R S (by rfl) T.aq.mg T.aq.fn.kp T.aq.bd .nil aA (aa (pv 0) (aa au ae))))
   (aj (bx (aO vJ (pv 1) au (aR _)) (ao (aG (bj (r:=ff K) bi (bz (aa aI (aa aI (aa aI ae)))) (av R S (by rfl) T.aq.mg T.aq.fn.kp T.aq.bd .nil aA (aa (pv 0) (aa au ae))) (λ_ _=>rfl)))) aS)
   (aj (bx (aO vJ (pv 1) au (aR _)) (ao (aG (bj (r:=ff K) bi (bz (aa aI (aa aI (aa aI (aa aI (aa aI ae)))))) (av R S (by rfl) T.aq.mg T.aq.fn.kp T.aq.bd .nil aA (aa (pv 0) (aa au ae))) (λ_ _=>rfl)))) aS)
   (aj (bx (aO vJ (pv 1) au (aR _)) (ao (aG (bj (r:=ff K) bi (bz (aa aI (aa aI (aa aI (aa aI (aa aI (aa aI (aa aI (aa aI ae))))))))) (av R S (by rfl) T.aq.mg T.aq.fn.kp T.aq.bd .nil aA (aa (pv 0) (aa au ae))) (λ_ _=>rfl)))) aS)
   (aj (bh (i:=2) kF.nd rfl (Or.inr rfl) (bj (r:=ff K) bi (bz (aa aI (aa aI (aa aI (aa aI ae))))) (bU G7 (pv 1) au) (λ_ _=>rfl)))
   (ao (aG (ee (r:=rJoin K) Yw PySem.F.slot_str_join PySem.F.type_str_join zv aI (aa (aY (N':=["k","some","deck"]) (n:=1) (fi:=[2,0]) (g:=aZ 0) rfl (bf (ag (top 60)) ["deck","way","some"] (by decide +kernel)) (fq (by rfl) T.jB (aa (bU iP au (av R S (by rfl) T.aq.mg T.aq.fn.kp T.aq.bd .nil aA (aa (pv 0) (aa au ae)))) ae)) (λs H fp=>ay (i:=0) (show(["k","some","deck"]:Uq).Nodup by decide +kernel) rfl (Or.inl rfl) (.inr rfl)) (λs H fp=>aV) (λs H fp=>bj MZ (pv 1) (av R S (by rfl) T.aq.mg T.aq.fn.kp T.aq.bd .nil aA (aa (pv 2) (aa (aP qc (by rfl) T.c6 Yb (aa (pv 1) ae)) ae))) (λ_ _=>rfl))) ae)))))))),?_⟩
  refine⟨_,rfl,d,12,n,rfl,a4,by lia,by decide,by decide,λway H1 X b _ _=>?_⟩;refine⟨_,rfl,_,_,rfl,rfl,_,rfl,?_⟩;refine uX (λ_=>?_) (λ_=>?_)
  ·refine⟨(by show 3<=Zg;decide),λp e=>⟨_,rfl,d,3,n+1,rfl,b.same (af.new e),by lia,by decide,by decide,λr o v a N O=>?_⟩⟩;obtain⟨x,L,M⟩:=qJ (l:=yQ) N O;have m:o p=some (.lst (yQ.map V.str)):=cH v ab (b.ne e);have f:=w1 x L;exact⟨p,_,r,_,rfl,rfl,.of m,M,k x o (bJ (X.trans (af.new e)) v) (a.mono (by lia)) ⟨f.1,f.2.1,f.2.2⟩⟩
  ·refine⟨_,rfl,_,_,rfl,rfl,_,rfl,?_⟩;refine uX (λ_=>?_) (λ_=>?_)
   ·refine⟨(by show 5<=Zg;decide),λp e=>⟨_,rfl,d,5,n+1,rfl,b.same (af.new e),by lia,by decide,by decide,λr o v a N O=>?_⟩⟩;obtain⟨x,L,M⟩:=qJ (l:=yF) N O;have m:o p=some (.lst (yF.map V.str)):=cH v ab (b.ne e);have f:=w2 x L;exact⟨p,_,r,_,rfl,rfl,.of m,M,k x o (bJ (X.trans (af.new e)) v) (a.mono (by lia)) ⟨f.1,f.2.1,f.2.2⟩⟩
   ·refine⟨_,rfl,_,_,rfl,rfl,_,rfl,?_⟩;refine uX (λ_=>?_) (λh8=>?_)
    ·refine⟨(by show 8<=Zg;decide),λp e=>⟨_,rfl,d,8,n+1,rfl,b.same (af.new e),by lia,by decide,by decide,λr o v a N O=>?_⟩⟩;obtain⟨x,L,M⟩:=qJ (l:=yl) N O;have m:o p=some (.lst (yl.map V.str)):=cH v ab (b.ne e);have f:=w3 x L;exact⟨p,_,r,_,rfl,rfl,.of m,M,k x o (bJ (X.trans (af.new e)) v) (a.mono (by lia)) ⟨f.1,f.2.1,f.2.2⟩⟩
    ·have a6:¬ way<8:=λh=>h8 (Zk h);obtain⟨x,L,M⟩:=qJ (l:=CK) (r:=way - 8) (by lia) (by show way - 8<4;lia);have B:=w4 x L;refine⟨(by show 4<=Zg;decide),λp e=>⟨_,rfl,_,_,rfl,rfl,p,_,way - 8,_,rfl,rfl,.of ab,M,?_⟩⟩;have a3:Dk (upd H1 p (.lst (CK.map V.str))) d (n+1):=b.same (af.new e);refine⟨rfl,_,rfl,d,4,n+1,rfl,a3,by lia,by decide,by decide,λr4 o v a N O=>?_⟩;refine⟨_,_,rfl,rfl,1+r4,rfl,by lia,by lia,λD W=>?_⟩;have J:d≠D:=a.ne W;refine iT (λi I σ U=>(∃u,σ=[u,some (.str x),some (.ref d)])/\af (wo d o) U/\Dk U d (n+2+i)/\∃l:Uq,I=l.map V.str/\l.length=i/\∀y∈l,Y1 y=true/\y.length<=1/\∃c,y=⟨#[c]⟩/\sgn c=true) ab ⟨⟨_,rfl⟩,aM.trans (af.new W),a.same (af.new W),[],rfl,rfl,λy t=>by cases t⟩ (λi I σ U _ C q=>?_) (λI σ U C q=>?_)
     ·obtain⟨Y,s3,G,l,rfl,hl,z⟩:=q;apply cU Y;clear Y;intro u;refine cB ⟨_,rfl,_,rfl,_,rfl,x,rfl,UK B.2.1 (by decide),d,x.length,n+2+i,rfl,G,by lia,by lia,by lia,λr _ s4 a0 Y q1=>?_⟩;obtain⟨c,j,hc,hj⟩:=JQ Y q1;have Z:sgn c=true:=U4.mp B.2.2.2 c (by simpa using Array.mem_of_getElem? hj);refine⟨x,r,c,rfl,rfl,UK B.2.1 (by decide),hc,_,cH s4 C J,small (by simp only[UA];lia),_,ab,⟨_,rfl⟩,ax (Zp J.symm W) (bJ s3 s4),a0.upd J,l++[⟨#[c]⟩],by simp,by simp[hl],λy t=>?_⟩;rcases UY.mp t with t | t
      ·exact z y t
      ·simp only[UG]at t;subst t;exact⟨LC B.1 hj,UD _,c,rfl,Z⟩
     ·obtain⟨_,s3,G,l,rfl,hl,z⟩:=q;have a5:l.length<=4:=by lia
      refine⟨"",D,l,rfl,rfl,.of C,rF (λy t=>(z y t).2.1) ?_,?_⟩
      ·have:(("" : Str)).length=0:=rfl;rw[this];lia
      ·exact k _ U (bJ (bJ (X.trans (af.new e)) v) s3) (G.mono (by lia)) (Fm (by lia) a5 z)
theorem zl:aC ["deck","most"] ["deck","most"] (ag (top 61)):=by refine⟨rfl,rfl,rfl,?_,rfl,?_,?_⟩<;>decide +kernel
theorem qE (T:Tx K mg A):aB P w K mg base CX0 3 A.jA A.jm ["deck","most"] (kR K):=by
 have R:aB P w K mg base CX0 2 _ _ _ _:=MC (ql T);have W:aB P w K mg base CX0 2 _ _ _ _:=MC (cD T);refine T.gC.fn.ok zl (λX H Q E h=>?_) (λ_ _ _ s H X Q E N h=>?_)
 ·obtain⟨d,m,n,rfl,_⟩:=h;rfl
 ·obtain⟨d,m,n,rfl,B,_,v,_,k⟩:=h;refine⟨_,ao (aG (ee (r:=rJoin K) Yw PySem.F.slot_str_join PySem.F.type_str_join zv aI (aa (aY (N':=["k","deck"]) (n:=1) (fi:=[0]) (g:=aZ 0) rfl (bf (ag (top 61)) ["deck","most"] (by decide +kernel)) (fq (by rfl) T.jB (aa (bU iP au (av W N (by rfl) T.aq.mg T.aq.fn.kp T.aq.bd .nil aA (aa (pv 0) (aa (pv 1) ae)))) ae)) (λs H I=>ay (i:=0) (show(["k","deck"]:Uq).Nodup by decide +kernel) rfl (Or.inl rfl) (.inr rfl)) (λs H I=>aV) (λs H I=>av R N (by rfl) T.gz.mg T.gz.fn.kp T.gz.bd .nil aA (aa (pv 1) ae))) ae))),?_⟩;refine⟨rfl,_,rfl,_,rfl,d,m,n,rfl,B,by lia,v,by lia,λZ O Y o _ _=>?_⟩;refine⟨_,_,rfl,rfl,1+Z,rfl,by lia,by lia,λD t=>?_⟩;have j:d≠D:=o.ne t;refine iT (λi f C p=>(∃u,C=[u,some (.ref d)])/\af (wo d O) p/\Dk p d (n+1+6 * i)/\∃l:Uq,f=l.map V.str/\l.length=i/\∀y∈l,WOk y) ab ⟨⟨_,rfl⟩,aM.trans (af.new t),o.same (af.new t),[],rfl,rfl,λy a=>by cases a⟩ (λi f C p _ c q=>?_) (λf C p c q=>?_)
  ·obtain⟨M,G,e,l,rfl,L,b⟩:=q;apply cU M;clear M;intro u;refine cB ⟨_,rfl,d,n+1+6 * i,rfl,e,by lia,λx _ J z U=>?_⟩;refine⟨_,cH J c j,small (by simp only[UA];lia),_,ab,⟨_,rfl⟩,ax (Zp j.symm t) (bJ G J),(z.upd j).mono (by lia),l++[x],by simp,by simp[L],λy a=>?_⟩;rcases UY.mp a with a | a
   ·exact b y a
   ·simp only[UG]at a;subst a;exact U
  ·obtain⟨_,G,e,l,rfl,L,b⟩:=q;have S:((" " : Str)).length=1:=rfl;refine⟨" ",D,l,rfl,rfl,.of c,rF (λy a=>(b y a).len) ?_,?_⟩
   ·rw[S];lia
   ·exact k _ l p (bJ Y G) (e.mono (by lia)) ⟨rfl,by lia,by lia,b⟩
theorem dc:aC ["deck","line","found","word","kind","way"] ["deck","line"] (ag (top 63)):=by refine⟨rfl,rfl,rfl,?_,rfl,?_,?_⟩<;>decide +kernel
theorem tH (T:Tx K mg A):aB P w K mg base CX0 2 A.iO A.iL ["deck","line"] (lU K):=by
 have zO:aB P w K mg base CX0 1 _ _ _ _:=MC (yR T);have aE:aB P w K mg base CX0 1 _ _ _ _:=MC (cD T);refine T.ir.fn.ok dc (λvs H Q E h=>?_) (λ_ _ _ s H vs Q E hr h=>?_)
 ·obtain⟨d,z,n,rfl,_⟩:=h;rfl
 ·obtain⟨d,z,n,rfl,u,_,U,Z,k⟩:=h;refine⟨_,aj (bh (i:=2) dc.nd rfl (Or.inl rfl) (bz ae))
   (aj (g9 Yx rfl (aT (ee Yw PySem.F.slot_str_split PySem.F.type_str_split vV (pv 1) (aa aI ae))) (ay (i:=3) dc.nd rfl (Or.inl rfl)) (aj (bh (i:=4) dc.nd rfl (Or.inl rfl) (av zO hr (by rfl) T.nK.mg T.nK.fn.kp T.nK.bd .nil aA (aa (pv 3) ae)))
   (aj (bh (i:=5) dc.nd rfl (Or.inl rfl) (av aE hr (by rfl) T.aq.mg T.aq.fn.kp T.aq.bd .nil aA (aa (pv 0) (aa au ae))))
   (ao (bx (aO vJ (pv 5) au (aR _)) (ao (bq (ee Y9 Yk Yl cR (pv 2) (aa (bZ (aa aI (aa (pv 3) ae))) ae)))) (ao (bx ((pw_and (aO vJ (pv 5) au (aR _)) (pw_and1 (aO xa (pv 4) aI (aR _)))).pt) (ao (bq (ee Y9 Yk Yl cR (pv 2) (aa (bZ (aa aI (aa (pv 4) ae))) ae)))) (ao (bq (ee Y9 Yk Yl cR (pv 2) (aa (bZ (aa aI (aa aI ae))) ae)))))))))))
   (ao (aG (pv 2)))),?_⟩
  have h1:((" " : Str)).length≠0:=by decide +kernel
  obtain⟨_,a0⟩:=u.lst;refine⟨UU _,λF hF=>?_⟩;have m:d≠F:=u.ne hF;refine⟨_,rfl,rfl,z," ",rfl,rfl,h1,UK (VR U 2) (by decide),λL hL=>⟨L,rfl,⟨_,.of ab⟩,?_⟩⟩;have B:F≠L:=aw (ab (H:=H)) hL;have N:af H (upd H F (.lst [])):=af.new hF;have sL:af (upd H F (.lst [])) (upd (upd H F (.lst [])) L (.lst ((Y4 z " ").map V.str))):=af.new hL;have a5:d≠L:=(u.same N).ne hL;have a3:=uC (z:=z) (y:= " ") Z;have a6:=(vH (z:=z) (y:= " ")).2;refine iM (K:=K) (xs:=(Y4 z " ").map V.str) (oV K H d z F L n) ⟨⟨_,_,_,rfl⟩,aM.trans (N.trans sL),u.same (N.trans sL),ab,[],[],sL _ _ ab,rfl,(λp hp=>by cases hp),(λj w p _ hp=>by simp at hp),.nil⟩ (λi I H3 _ q=>.of q.2.2.2.1) (λi x I H3 hx q=>?_) (λI H3 q=>?_)
  ·obtain⟨O,s3,r,J,b,ps,o,c,l,g,X⟩:=q;apply Kj O;clear O;intro u1 u2 u3;obtain⟨wd,e,rfl⟩:=e7 hx;have a8:i<(Y4 z " ").length:=aH e;have hw:=a3 wd (UC e);have W:TOk wd:=⟨UK hw.2 (UK U (by decide)),hw.1⟩;refine⟨_,rfl,wd,rfl,W,λ_ M=>?_⟩;refine⟨_,rfl,d,6,n+i,rfl,r.same M,by lia,by decide,by decide,λway H5 Y D _ _=>?_⟩;have v:H5 L=some (.lst ((Y4 z " ").map V.str)):=cH Y (M _ _ J) a5;have a:H5 F=some (.lst b):=cH Y (M _ _ o) m;have G:aD K (lim (upd H F (.lst [])) H5) b (ps.map Pt.dat):=(X.same (c7 M)).same (Bu (N _ _ a0) Y);have C:af (wo d H) H5:=bJ (s3.trans M) Y;have a7:b.length=i:=by rw[X.length,UA,c]
   have R:=Df wd.cps.toList;refine⟨_,rfl,_,_,rfl,rfl,_,rfl,?_⟩;refine uX (λ_=>?_) (λ_=>?_)
   ·refine⟨_,rfl,.inl ⟨rfl,_,.of a⟩,_,rfl,(by show 2<=Zg;decide),λt f=>⟨F,b,_,rfl,rfl,af.new f _ _ a,small (by lia),?_⟩⟩;exact oV.step (pt:=.word wd) m B hF ⟨_,_,_,rfl⟩ C D v a c l g G e (.inl rfl) rfl W (by decide +kernel) hw.1 f
   ·have OQ:∀(t:Za) (f:H5 t=none) (I:St),(∃u1 u2 u3,I=[some (.ref d),some (.str z),some (.ref F),u1,u2,u3])->oV K H d z F L n (i+1) I (upd (upd H5 t (.tup [.str "hole",.str "any"])) F (.lst (b++[.ref t]))):=λt f I a4=>
     oV.step (pt:=.hole 2) m B hF a4 C D v a c l g G e (.inr (.inr rfl)) rfl (by decide:2<3) (by decide +kernel) (by decide +kernel) f
    refine⟨_,rfl,_,_,rfl,rfl,_,rfl,?_⟩;refine uX (λ_=>?_) (λ_=>?_)
    ·refine⟨_,rfl,rfl,_,rfl,?_⟩;rw[FP R];by_cases h2:eL wd.cps.toList=2
     ·rw[Zk h2];refine br ?_;exact⟨_,rfl,.inl ⟨rfl,_,.of a⟩,(by show 2<=Zg;decide),λt f=>⟨F,b,_,rfl,rfl,af.new f _ _ a,small (by lia),OQ t f _ ⟨_,_,_,rfl⟩⟩⟩
     ·rw[Zl h2];refine cq ?_;refine⟨_,rfl,.inl ⟨rfl,_,.of a⟩,_,rfl,(by show 2<=Zg;decide),λt f=>⟨F,b,_,rfl,rfl,af.new f _ _ a,small (by lia),?_⟩⟩;have S:eL wd.cps.toList<2:=by lia
      rw[Km S];exact oV.step (pt:=.hole (eL wd.cps.toList)) m B hF ⟨_,_,_,rfl⟩ C D v a c l g G e (.inr (.inl ⟨rfl,S⟩)) rfl R (by decide +kernel) uc f
    ·refine br ?_;exact⟨_,rfl,.inl ⟨rfl,_,.of a⟩,(by show 2<=Zg;decide),λt f=>⟨F,b,_,rfl,rfl,af.new f _ _ a,small (by lia),OQ t f _ ⟨_,_,_,rfl⟩⟩⟩
  ·obtain⟨O,s3,r,J,b,ps,o,c,l,g,X⟩:=q;apply Kj O;clear O;intro u1 u2 u3;rw[UA]at c r;refine⟨_,rfl,k F H3 ps hF s3 (r.mono (by lia)) ⟨by lia,l⟩ ⟨c,g⟩ ⟨b,o⟩ ?_⟩;exact .lst (.of ((iq hF).trans o)) (X.same (fN N.ll))
theorem dq:aC ["deck","most","shapes","found","k","words","turn"] ["deck","most"] (ag (top 62)):=by refine⟨rfl,rfl,rfl,?_,rfl,?_,?_⟩<;>decide +kernel
theorem wI (T:Tx K mg A):aB P w K mg base CX0 4 A.kO A.lH ["deck","most"] (oG K):=by
 have S:aB P w K mg base CX0 3 _ _ _ _:=MC (cD T);have mn:aB P w K mg base CX0 3 _ _ _ _:=MC (ql T);have mP:aB P w K mg base CX0 3 _ _ _ _:=MC (qE T);refine T.lE.fn.ok dq (λvs H Q E h=>?_) (λ_ _ _ s H vs Q E J h=>?_)
 ·obtain⟨d,m,n,rfl,_⟩:=h;rfl
 ·obtain⟨d,m,n,rfl,bo,_,az,_,k⟩:=h;refine⟨_,aj (kY (i:=2) (N':=["k","deck"]) (n:=1) (fi:=[0]) (g:=aZ 0) dq.nd rfl (Or.inl rfl) rfl (bf (ag (top 62)) ["deck","most","shapes","found","k","words","turn"] (by decide +kernel)) (fq (by rfl) T.jB (aa (bU iP au (av S J (by rfl) T.aq.mg T.aq.fn.kp T.aq.bd .nil aA (aa (pv 0) (aa au ae)))) ae)) (λs H fp=>ay (i:=0) (show(["k","deck"]:Uq).Nodup by decide +kernel) rfl (Or.inl rfl) (.inr rfl)) (λs H fp=>aV) (λs H fp=>C8 (K:=K) rfl Yw PySem.F.slot_str_split PySem.F.type_str_split vV (av mP J (by rfl) T.gC.mg T.gC.fn.kp T.gC.bd .nil aA (aa (pv 1) (aa (bj (r:=ff K) bi (bz (aa au (aa au (aa au ae)))) (av S J (by rfl) T.aq.mg T.aq.fn.kp T.aq.bd .nil aA (aa (pv 1) (aa au ae))) (λ_ _=>rfl)) ae))) (aa aI ae)))
   (aj (bh (i:=3) dq.nd rfl (Or.inl rfl) (bz ae))
   (aj (g9 Yx rfl (fq (by rfl) T.jB (aa (av S J (by rfl) T.aq.mg T.aq.fn.kp T.aq.bd .nil aA (aa (pv 0) (aa (bU iP (pv 1) au) ae))) ae)) (ay (i:=4) dq.nd rfl (Or.inl rfl)) (aj (bh (i:=5) dq.nd rfl (Or.inl rfl) (iE (r:=tR K) oO (by rfl) T.rG nG (aa (bj (r:=ff K) bi (pv 2) (av S J (by rfl) T.aq.mg T.aq.fn.kp T.aq.bd .nil aA (aa (pv 0) (aa (aP (r:=dU K) bg (by rfl) T.c6 Yb (aa (pv 2) ae)) ae))) (λ_ _=>rfl)) ae)))
   (aj (g9 Yx rfl (fq (by rfl) T.jB (aa (av S J (by rfl) T.aq.mg T.aq.fn.kp T.aq.bd .nil aA (aa (pv 0) (aa au ae))) ae)) (ay (i:=6) dq.nd rfl (Or.inl rfl)) (ao (rm (av mn J (by rfl) T.gz.mg T.gz.fn.kp T.gz.bd .nil aA (aa (pv 0) ae)) (C0 (pv 5) (av S J (by rfl) T.aq.mg T.aq.fn.kp T.aq.bd .nil aA (aa (pv 0) (aa (aP (r:=dU K) bg (by rfl) T.c6 Yb (aa (pv 5) ae)) ae))) set_list))))
   (aj (bq (ee Y9 Yk Yl cR (pv 3) (aa (ee (r:=rJoin K) Yw PySem.F.slot_str_join PySem.F.type_str_join zv aI (aa (pv 5) ae)) ae)))
   (ao (bx (aO fX (av S J (by rfl) T.aq.mg T.aq.fn.kp T.aq.bd .nil aA (aa (pv 0) (aa au ae))) au (aR _)) (ao (bq (ee Y9 Yk Yl cR (pv 3) (aa (bj (r:=ff K) bi (pv 3) (av S J (by rfl) T.aq.mg T.aq.fn.kp T.aq.bd .nil aA (aa (pv 0) (aa (aP (r:=dU K) bg (by rfl) T.c6 Yb (aa (pv 3) ae)) ae))) (λ_ _=>rfl)) ae)))) aS))))))
   (ao (aG (kc (r:=Hc K) tW (pv 3) p5 (lu (pv 1))))))),?_⟩
  have h1:((" " : Str)).length=1:=rfl;refine⟨_,rfl,d,3,n,rfl,bo,by lia,by decide,by decide,λr H1 s1 ai _ _=>⟨_,_,rfl,rfl,1+r,rfl,by lia,by lia,λSH O=>?_⟩⟩;have Lj:d≠SH:=ai.ne O;refine iT (λi acc C H3=>(∃u,C=[u,some (.ref d)])/\af (wo d H1) H3/\Dk H3 d (n+1+81 * i)/\acc.length=i/\∀x∈acc,∃(s:Za) (ws:Uq),x = .ref s/\s≠d/\s≠SH/\H3 s=some (.lst (ws.map V.str))/\zN ws) ab ⟨⟨_,rfl⟩,aM.trans (af.new O),ai.same (af.new O),rfl,λx c=>by cases c⟩ (λi acc C H3 hi Y q=>?_) (λacc C H3 Y q=>?_)
  ·obtain⟨t,s3,I,a8,a5⟩:=q;apply cU t;clear t;intro u;refine cB ?_;refine⟨_,rfl,(by show 3<=Zg;decide),λp hp=>⟨_,rfl,d,3,_,rfl,I.same (af.new hp),by lia,by decide,by decide,λr3 H4 s4 U t q1=>?_⟩⟩;have b1:H4 p=some (.lst [.int 3,.int 6,.int 12]):=cH s4 ab (I.ne hp);obtain⟨v,hv,bt,b0⟩:=KQ t q1;refine⟨p,_,r3,_,rfl,rfl,.of b1,hv,d,v,_,rfl,U,by lia,bt,b0,λx ws H5 s5 B G=>?_⟩;have b8:=G.ok (by lia);have MT:af (wo d H3) H5:=bJ (bJ (aM.trans (af.new hp)) s4) s5;have Qu:H5 SH=some (.lst acc):=cH MT Y Lj;refine⟨rfl,x," ",rfl,rfl,by rw[h1];decide,UK (VR b8.2 2) (by decide),λl hl=>?_⟩;have sl:af H5 (upd H5 l (.lst ((Y4 x " ").map V.str))):=af.new hl;have OI:l≠SH:=(aw Qu hl).symm;have be:l≠d:=(B.ne hl).symm;refine⟨acc,sl _ _ Qu,small (by lia),_,ab,⟨_,rfl⟩,ax (Zp Lj.symm O) (bJ s3 (MT.trans sl)),((B.same sl).upd Lj).mono (by lia),by rw[UH,a8];rfl,λy z=>?_⟩;rcases UY.mp z with z | z
   ·obtain⟨s,b4,rfl,g1,g2,g3,g4⟩:=a5 y z;exact⟨s,b4,rfl,g1,g2,by rw[ap g2];exact sl _ _ (cH MT g3 g1.symm),g4⟩
   ·simp only[UG]at z;subst z;refine⟨l,ws,rfl,be,OI,by rw[ap OI,ab,G.split],G.pos,UK G.le (by lia),G.wd⟩
  ·obtain⟨_,s3,I,a8,a5⟩:=q;have KC:af (wo d H) (wo d H3):=bB bp (bJ s1 s3);have MD:(wo d H3) SH=some (.lst acc):=by rw[ak Lj.symm];exact Y
   have Qa:Ng (wo d H3) acc:=λx c=>by
    obtain⟨s,ws,rfl,g1,g2,g3,g4⟩:=a5 x c;exact⟨s,ws,rfl,by rw[ak g1];exact g3,g4⟩
   have a6:(wo d H3) d=none:=bp;have Oc:af (wo d H3) H3:=aM;refine⟨UU _,λF hF=>?_⟩;have a:d≠F:=I.ne hF;have M:(wo d H3) F=none:=Oc.free hF;have bw:H F=none:=by
    have:=KC.free M
    rwa [ak a.symm]at this
   generalize wo d H3=Hs at KC MD Qa a6 Oc M;have sF:af H3 (upd H3 F (.lst [])):=af.new hF;refine⟨_,rfl,_,rfl,_,_,rfl,rfl,d,_,_,rfl,I.same sF,by lia,by lia,by lia,λr2 H4 s4 U t q1=>⟨r2,rfl,by lia,by lia,?_⟩⟩;have TL:1<=acc.length:=by lia
   refine rA (λi C H5=>(∃u4 u5 u6,C=[some (.ref d),some (.int m),some (.ref SH),some (.ref F),u4,u5,u6])/\af Hs H5/\Dk H5 d (n+400+20 * i)/\∃ls:Uq,H5 F=some (.lst (ls.map V.str))/\ls.length<=2 * i/\∀x∈ls,∃ws,gZ 12 x ws)
    ⟨⟨_,_,_,rfl⟩,λb o e=>s4 b o (Zp (aw e a6) (sF b o (Oc b o e))),U.mono (by lia),[],cH s4 ab a,UD _,λx c=>by cases c⟩ (λi C H5 hi q=>?_) (λC H5 q=>?_)
   ·obtain⟨t,s5,B,ls,X,br,HW⟩:=q;apply Kj t;clear t;intro u4 u5 u6;have wW:∀{Ha Hb:Hp},af Hs Ha->af (wo d Ha) Hb->af Hs Hb:=λsa sb b o e=>sb b o (Zp (aw e a6) (sa b o e));refine⟨_,rfl,_,rfl,_,rfl,SH,_,rfl,.inl (.of (s5 _ _ MD)),d,_,_,rfl,B,by lia,by lia,by lia,λrk H6 s6 ah k0 _=>?_⟩;have R:=wW s5 s6;have a7:=cH s6 X a;obtain⟨jj,rfl⟩:=Wa (k0:(0:Int)<=rk);have bc:jj<acc.length:=by lia
    have as:acc[jj]? = some acc[jj]:=UB bc;obtain⟨sA,ws,ex,bl,b3⟩:=Qa acc[jj] (UC as);refine⟨SH,acc,_,_,rfl,rfl,.of (R _ _ MD),dE as,sA,_,by rw[ex],.inl (.of (R _ _ bl)),λW hW=>?_⟩;have sW:af H6 (upd H6 W (.lst (ws.map V.str))):=af.new hW;have L:d≠W:=ah.ne hW;have bu:F≠W:=aw a7 hW;have bk:Hs W=none:=R.free hW;refine⟨_,rfl,d,3,_,rfl,ah.same sW,by lia,by decide,by decide,λr3 _ s8 b7 _ g1=>⟨r3,rfl,by lia,by lia,?_⟩⟩;refine rA (λj C H9=>(∃u4 u6,C=[some (.ref d),some (.int m),some (.ref SH),some (.ref F),u4,some (.ref W),u6])/\af Hs H9/\Dk H9 d (n+400+20 * i+2+7 * j)/\H9 F=some (.lst (ls.map V.str))/\∃l:Uq,H9 W=some (.lst (l.map V.str))/\zN l)
     ⟨⟨_,_,rfl⟩,wW (R.trans sW) s8,b7.mono (by lia),cH s8 (sW _ _ a7) a,ws,cH s8 ab L,b3⟩ (λj C H9 _ q=>?_) (λC H9 q=>?_)
    ·obtain⟨t,s9,a0,N,l,Z,f⟩:=q;apply zo t;clear t;intro u4 u6;have ba:=f.pos;have b5:=f.le;refine⟨_,rfl,d,_,rfl,a0,by lia,λx _ a4 Jy c=>?_⟩;have Ql:=cH a4 Z L;refine⟨_,rfl,_,rfl,_,rfl,W,_,rfl,.inl (.of Ql),d,_,_,rfl,Jy,by lia,by rw[UA];lia,by rw[UA];lia,λrj _ a3 Lz j0 j1=>?_⟩;have SS:=cH a3 Ql L;exact⟨W,_,rj,_,rfl,rfl,SS,MX j0 j1,⟨_,_,rfl⟩,ax bk (wW (wW s9 a4) a3),(Lz.upd L).mono (by lia),by rw[ap bu];exact cH a3 (cH a4 N a) a,l.set rj.toNat x,by rw[ab,List.map_set],f.set c⟩
    ·obtain⟨t,s9,a0,N,l,Z,f⟩:=q;apply zo t;clear t;intro u4 u6;have ba:=f.pos;have b5:=f.le;refine⟨_,rfl,.inl ⟨rfl,_,.of N⟩,rfl,_,rfl," ",W,l,rfl,rfl,.of Z,rF (λy z=>(f.wd y z).len) (by rw[h1];lia),F,_,_,rfl,rfl,N,small (by rw[UA];lia),?_⟩;have S1:(upd H9 F (.lst (ls.map V.str++[.str (YG " " l)]))) F=some (.lst ((ls++[YG " " l]).map V.str)):=by rw[ab];simp
     have JC:∀x∈ls++[YG " " l],∃ws,gZ 12 x ws:=λx c=>by
      rcases UY.mp c with c | c
      ·exact HW x c
      ·simp only[UG]at c;subst c;exact⟨l,f.line⟩
     refine⟨_,rfl,d,6,_,rfl,a0.upd a,by lia,by decide,by decide,λ_ _ ar GQ _ _=>⟨rfl,_,rfl,?_⟩⟩;have Lc:=cH ar S1 a;have IU:=wW (ax (D:=F) (o:=.lst (ls.map V.str++[.str (YG " " l)])) M s9) ar;have N5:(ls++[YG " " l]).length=ls.length+1:=by simp
     refine uX (λ_=>?_) (λ_=>?_)
     ·refine⟨_,rfl,.inl ⟨rfl,_,.of Lc⟩,_,rfl,_,rfl,_,rfl,F,_,rfl,.inl (.of Lc),d,_,_,rfl,GQ,by lia,by rw[UA];lia,by rw[UA];lia,λ_ _ a9 N8 z0 z1=>?_⟩;rw[UA]at z1;obtain⟨x,c,b6⟩:=qJ z0 z1;have Po:=cH a9 Lc a;refine⟨F,_,_,_,rfl,rfl,.of Po,b6,F,_,_,rfl,rfl,Po,small (by rw[UA];lia),⟨_,_,_,rfl⟩,ax M (wW IU a9),(N8.upd a).mono (by lia),(ls++[YG " " l])++[x],by rw[ab];simp,by rw[UH,N5];simp;lia,λy z=>?_⟩;rcases UY.mp z with z | z
      ·exact JC y z
      ·simp only[UG]at z;subst z;exact JC y c
     ·exact⟨⟨_,_,_,rfl⟩,IU,GQ.mono (by lia),ls++[YG " " l],Lc,by lia,JC⟩
   ·obtain⟨t,s5,B,ls,X,br,HW⟩:=q;apply Kj t;clear t;intro u4 u5 u6;refine⟨_,rfl,_,rfl,m,rfl,F,_,rfl,.of X,λD hD=>?_⟩;rw[Ie az,<-List.map_take];have b2:d≠D:=B.ne hD;have bb:H D=none:=by
     have:=(KC.trans s5).free hD
     rwa [ak b2.symm]at this
    exact k D (ls.take m.toNat) _ bb ((KC.trans s5).trans (af.new hD)) ((B.same (af.new hD)).mono (by lia)) ab (λx c=>HW x (VS c)) (by rw[UT];lia)
def ot (K:Xz):Sp:=λvs H Q _=>∃(d:Za) (n:Nat),vs=[.ref d]/\Dk H d n/\n<900000/\∀(t:Za) (s l:Int) H',H t=none->af (wo d H) H'->Dk H' d (n+3)->H' t=some (.tup [.int s,.int l])->Q (.ref t) H'
theorem N7 {r:Int} (a:0<=r) (h1:r<3):∃v:Int,atI [V.int 3,V.int 3,V.int 9] r=some (.int v)/\0<v/\v<10:=by
 have:r=0\/r=1\/r=2:=by lia
 rcases this with rfl | rfl | rfl
 ·exact⟨3,rfl,by decide,by decide⟩
 ·exact⟨3,rfl,by decide,by decide⟩
 ·exact⟨9,rfl,by decide,by decide⟩
theorem wC:aC ["deck"] ["deck"] (ag (top 64)):=by refine⟨rfl,rfl,rfl,?_,rfl,?_,?_⟩<;>decide +kernel
theorem wy (T:Tx K mg A):aB P w K mg base CX0 2 A.kL A.k5 ["deck"] (ot K):=by
 have m:aB P w K mg base CX0 1 _ _ _ _:=MC (cD T);refine T.kE.fn.ok wC (λL H Q E h=>?_) (λ_ _ _ s H L Q E q h=>?_)
 ·obtain⟨d,n,rfl,_⟩:=h;rfl
 ·obtain⟨d,n,rfl,j,_,k⟩:=h;refine⟨_,ao (aG (bZ (aa (bU iP au (av m q (by rfl) T.aq.mg T.aq.fn.kp T.aq.bd .nil aA (aa (pv 0) (aa au ae)))) (aa (bU iP au (av m q (by rfl) T.aq.mg T.aq.fn.kp T.aq.bd .nil aA (aa (pv 0) (aa (bj (r:=ff K) bi (bz (aa au (aa au (aa au ae)))) (av m q (by rfl) T.aq.mg T.aq.fn.kp T.aq.bd .nil aA (aa (pv 0) (aa au ae))) (λ_ _=>rfl)) ae)))) ae)))),?_⟩;refine⟨_,rfl,d,8,n,rfl,j,by lia,by decide,by decide,λG _ F c _ _=>⟨_,_,rfl,rfl,?_⟩⟩;refine⟨_,rfl,(by show 3<=Zg;decide),λp i=>⟨_,rfl,d,3,_,rfl,c.same (af.new i),by lia,by decide,by decide,λC z y g I M=>?_⟩⟩;obtain⟨v,B,l,_⟩:=N7 I M;have u:z p=some (.lst [.int 3,.int 3,.int 9]):=cH y ab (c.ne i);refine⟨p,_,C,_,rfl,rfl,.of u,B,d,v,_,rfl,g,by lia,l,by lia,λD H3 J a _ _=>⟨_,_,rfl,rfl,(by show 2<=Zg;decide),λt f=>?_⟩⟩;have b:af (wo d H) H3:=bJ (bJ F (aM.trans (af.new i))) (by exact bJ (by exact y) J);have x:=af.new (o:=.tup [.int (2+G),.int (1+D)]) f;have e:=a.ne f;refine k t _ _ _ ?_ (b.trans x) ((a.same x).mono (by lia)) ab;have:=b.free f
  rwa [ak e.symm]at this
def rfD (x:(Int×Str)×Option Ui):Zf:=.tuple [zw x.1,oP x.2]
def MN (v:StV) (lo hi:Int) (p:Ui):Zf:=.tuple [be p,.int (cnt v lo hi p:Nat)]
theorem DU {H:Hp}:∀{xs:Uj}{ds:UF},xs.length=ds.length->(∀(i:Nat) x d,xs[i]? = some x->ds[i]? = some d->Den K H x d)->aD K H xs ds
 | [],[],_,_=>.nil
 | [],_::_,h,_=>by cases h
 | _::_,[],h,_=>by cases h
 | x::xs,d::ds,h,k=>.cons (k 0 x d rfl rfl) (DU (Nat.succ.inj h) λi y e a b=>k (i+1) y e a b)
def c5 (K:Xz) (A:Ad):Sp:=λvs H Q _=>∃(B:Hp) (g pa tb:Za) (v:fc),vs=[.ref g]/\bA K A.aX A.aL B H g pa tb v/\∀(D:Za) (acc:Uj) (H':Hp),H D=none->af H H'->H' D=some (.lst acc)->aD K H' acc (v.cur.rf.map rfD)->Q (.ref D) H'
def oq (K:Xz) (A:Ad):Sp:=λvs H Q _=>∃(B:Hp) (g pa tb:Za) (v:fc) (lo hi:Int),vs=[.ref g,.int lo,.int hi]/\bA K A.aX A.aL B H g pa tb v/\∀(D:Za) (acc:Uj) (H':Hp),H D=none->af H H'->H' D=some (.lst acc)->aD K H' acc ((v.cur.bs++v.cur.fs).map (MN v.cur lo hi))->Q (.ref D) H'
theorem kK:aC ["self"] ["self"] (ag (mIn 55 4)):=by refine⟨rfl,rfl,rfl,?_,rfl,?_,?_⟩<;>decide +kernel
theorem fL (T:Tx K mg A):aB P w K mg base CX0 1 A.bI A.cy ["self"] (c5 K A):=by
 refine T.eB.fn.ok kK (λvs H Q E h=>?_) (λ_ _ _ s H vs Q E hr h=>?_)
 ·obtain⟨B,g,pa,tb,v,rfl,_⟩:=h;rfl
 ·obtain⟨B,g,pa,tb,v,rfl,F,k⟩:=h;have c:=F.okc;obtain⟨U,t,l,_,_,_,V,_,_,e,_,_,_,_,_,u,_⟩:=F;obtain⟨j,M,_,_,f,b,_,_,a,I,q2,R,_,_,_,_,q8,L⟩:=u;have p:b.length=v.cur.rs.length:=by rw[R.length,UA]
  have z:a.length=v.cur.rs.length:=by rw[L.length,UA,c.len]
  have a0:=c.rl;refine⟨_,ao (aG (Cc hr (by rfl) T.rG (by rfl) T.BI (aa (bK T.bQ T.dw (bK T.aN T.bc (pv 0))) (aa (bK T.bQ T.m6 (bK T.aN T.bc (pv 0))) ae)))),?_⟩;refine⟨_,rfl,g,U,_,.ref l,rfl,V,rfl,l,j,_,.ref M,rfl,e _ _ I,rfl,_,rfl,g,U,_,.ref l,rfl,V,rfl,l,j,_,.ref f,rfl,e _ _ I,rfl,M,f,b,a,rfl,.of (e _ _ q2),.of (e _ _ q8),by lia,λD y H' Y s q hl C6=>k D y H' Y s q (DU ?_ λi x d O J=>?_)⟩
  ·rw[hl,p,z,V1,UA];unfold StV.rf;rw[VU,c.len,V1]
  ·rw[UI]at J;obtain⟨⟨r,o⟩,m,rfl⟩:=Option.map_eq_some_iff.mp J;unfold StV.rf at m;rw[Vf]at m;have Z:=aH O;have N:b[i]? = some b[i]:=UB (by lia);have X:a[i]? = some a[i]:=UB (by lia);obtain⟨t,S,e3,_⟩:=C6 i _ _ Z N X;rw[O]at S;cases S;obtain⟨d1,W,C⟩:=R.get N;obtain⟨d2,G,n⟩:=L.get X;rw[UI,m.1]at W;rw[UI,m.2]at G;cases W;cases G;exact .tup (.of e3) (.cons ((C.same e).same s) (.cons ((n.same e).same s) .nil))
theorem ow:aC ["self","low","high","falls"] ["self","low","high"] (ag (mIn 55 16)):=by refine⟨rfl,rfl,rfl,?_,rfl,?_,?_⟩<;>decide +kernel
theorem we (T:Tx K mg A):aB P w K mg base CX0 2 A.ix A.lA ["self","low","high"] (oq K A):=by
 have dz:aB P w K mg base CX0 1 _ _ _ _:=MC (fL T);have dZ:aB P w K mg base CX0 1 _ _ _ _:=MC (ie T);refine T.uH.fn.ok ow (λvs H Q E h=>?_) (λ_ _ _ s H vs Q E hr h=>?_)
 ·obtain⟨B,g,pa,tb,v,f,b,rfl,_⟩:=h;rfl
 ·obtain⟨B,g,pa,tb,v,f,b,rfl,cw,k⟩:=h;have m:=cw.okc;have aq:=m.rl;have Gf:v.cur.rf.length=v.cur.rs.length:=by unfold StV.rf;rw[VU,m.len,V1]
  obtain⟨dx,_,_,_,hg⟩:=cw.gg;refine⟨_,aj (bh (i:=3) ow.nd rfl (Or.inr rfl) (aY (N':=["fall","moment","line","low","high"]) (n:=3) (fi:=[1,2]) (g:=u7 K 2 (eR (u7 K 2 (eR (aZ 1) (eR (aZ 2) vY))) (eR (aZ 0) vY))) rfl (bf (ag (mIn 55 16)) ["self","low","high","falls"] (by decide +kernel)) (aT (dY (pv 0) T.aN T.fP dz hr T.eB.bd .nil aA)) (λs H L=>fG rfl (ba (fG rfl (ba (ay (i:=1) (show(["fall","moment","line","low","high"]:Uq).Nodup by decide +kernel) rfl (Or.inl rfl) (.inr rfl)) (ba (ay (i:=2) (show(["fall","moment","line","low","high"]:Uq).Nodup by decide +kernel) rfl (Or.inl rfl) (.inr rfl)) dO))) (ba (ay (i:=0) (show(["fall","moment","line","low","high"]:Uq).Nodup by decide +kernel) rfl (Or.inl rfl) (.inr rfl)) dO))) (λs H L=>dS (vA xh vJ (pv 3) (pv 1) (pv 4))) (λs H L=>pv 0)))
   (ao (aG (aY (N':=["pattern","falls"]) (n:=1) (fi:=[3]) (g:=aZ 0) rfl (bf (ag (mIn 55 16)) ["self","low","high","falls"] (by decide +kernel)) (aT (dY (pv 0) T.aN T.ig dZ hr T.iA.bd .nil aA)) (λs H L=>ay (i:=0) (show(["pattern","falls"]:Uq).Nodup by decide +kernel) rfl (Or.inl rfl) (.inr rfl)) (λs H L=>aV) (λs H L=>bZ (aa (pv 0) (aa (C8 (K:=K) rfl (r:=DA K) Y9 Z4 PySem.F.type_list_count (EH hr) (pv 1) (aa (pv 0) ae)) ae)))))),?_⟩
  refine⟨_,rfl,g,dx,_,rfl,hg,rfl,B,g,pa,tb,v,rfl,cw,λRF R H1 _ s1 a0 a4=>?_⟩;refine⟨RF,rfl,⟨_,.of a0⟩,λFL U=>?_⟩;have Ob:R.length=v.cur.rs.length:=by rw[a4.length,UA,Gf]
  refine aK (K:=K) (xs:=R) (λi a G H2=>(∃u w z,G=[u,w,z,some (.int f),some (.int b)])/\af H1 H2/\aD K H1 a (((v.cur.rf.take i).filter (tD f b)).map λx=>oP x.2)) ab ⟨⟨_,_,_,rfl⟩,af.new U,.nil⟩ (λi a G H2 _ _ q=>.of (q.2.1 _ _ a0)) (λi x a G H2 X I q=>?_) (λ_ G H2 a6 q=>?_)
  ·obtain⟨⟨u,w,z,rfl⟩,l,y⟩:=q;obtain⟨d,S,cx⟩:=a4.get X;rw[UI]at S;obtain⟨⟨r,o⟩,e1,rfl⟩:=Option.map_eq_some_iff.mp S;have a8:=aH X;have a5:a.length<=64:=by
    rw[y.length,UA];have t:=U9 (tD f b) (v.cur.rf.take i);rw[UT]at t;lia
   cases cx with
   | tup a7 Y=>
    cases Y with
    | cons d1 Y=>
     cases Y with
     | cons d2 Y=>
      cases Y;cases d1 with
      | tup ah j=>
       cases j with
       | cons a1 j=>
        cases j with
        | cons a2 j=>
         cases j;cases a1;cases a2;refine⟨_,_,rfl,l.eA a7,rfl,_,_,rfl,_,_,rfl,l.eA ah,rfl,_,_,rfl,_,_,rfl,rfl,_,_,rfl,rfl,?_⟩;have ht:v.cur.rf.take (i+1)=v.cur.rf.take i++[(r,o)]:=by rw[UX,e1];rfl
         rw[ht,Vi,UL];have a3:tD f b (r,o)=false->aD K H1 a (((v.cur.rf.take i).filter (tD f b)).map (λx=>oP x.2)++([(r,o)].filter (tD f b)).map λx=>oP x.2):=λe=>by
          rw[VP,e,Zo UO,List.filter_nil,VQ,Vd];exact y
         refine⟨_,rfl,_,rfl,_,_,rfl,rfl,_,rfl,?_⟩;by_cases t:f<=r.1
         ·rw[show decide (f<=(r,o).1.1)=true from Zk t];refine cq ⟨_,rfl,_,_,rfl,rfl,_,rfl,?_⟩;by_cases Z:r.1<b
          ·rw[show decide ((r,o).1.1<b)=true from Zk Z];refine cq ⟨_,rfl,a,I,small (by lia),_,ab,⟨_,_,_,rfl⟩,ax U l,?_⟩;have e:tD f b (r,o)=true:=Zk ⟨t,Z⟩;rw[VP,e,Zn rfl];exact y.append (.cons d2 .nil)
          ·rw[show decide ((r,o).1.1<b)=false from Zl Z];exact br ⟨a,I,⟨_,_,_,rfl⟩,l,a3 (Zl λz=>Z z.2)⟩
         ·rw[show decide (f<=(r,o).1.1)=false from Zl t];exact br ⟨_,rfl,br ⟨a,I,⟨_,_,_,rfl⟩,l,a3 (Zl λz=>t z.1)⟩⟩
  ·obtain⟨_,l,N⟩:=q;rw[Ob,<-Gf,Vl]at N;have Ju:=cw.same (s1.trans l);refine⟨_,rfl,g,dx,_,rfl,l _ _ (s1 _ _ hg),rfl,B,g,pa,tb,v,rfl,Ju,λPS pv H3 _ s3 M J=>?_⟩;refine⟨PS,rfl,⟨_,.of M⟩,λD hD=>?_⟩;have Nz:pv.length=(v.cur.bs++v.cur.fs).length:=by rw[J.length,UA]
   have Tq:(v.cur.bs++v.cur.fs).length<128:=by
    have t:=m.bl;have Z:=m.gth.lt;rw[UH];lia
   have O:=s3 _ _ a6;have SU:=(N.same l).same s3;have RU:=J.same c8;refine aK (K:=K) (xs:=pv) (λi a G H4=>(∃u,G=[u,some (.ref FL)])/\af H3 (wo D H4)/\aD K (wo D H4) a (((v.cur.bs++v.cur.fs).take i).map (MN v.cur f b))) ab ⟨⟨_,rfl⟩,?_,.nil⟩ (λi a G H4 _ _ q=>.of (aM _ _ (q.2.1 _ _ M))) (λi x a G H4 X W q=>?_) (λa G H4 ai q=>?_)
   ·intro c o e;rw[ak (nn e hD),ap (nn e hD)];exact e
   ·obtain⟨q0,V,y⟩:=q;apply cU q0;clear q0;intro u;obtain⟨d,S,cx⟩:=RU.get X;rw[UI]at S;obtain⟨p,e1,rfl⟩:=Option.map_eq_some_iff.mp S;have a8:=aH X;have C:af H3 H4:=V.trans aM;have a5:a.length<=i:=by
     rw[y.length,UA,UT];lia
    refine cB ⟨_,rfl,_,rfl,.inl ⟨rfl,_,.of (C _ _ O)⟩,_,rfl,_,_,_,rfl,.lst (.of (C _ _ O)) (SU.same C),cx.same C,UK (dP _) (by decide),(by show 2<=Zg;decide),λq hq=>?_⟩;rw[MI m (UC e1)];have hqD:D≠q:=λe=>by rw[<-e,W]at hq;cases hq
    have sW:af (wo D H4) (wo D (upd (upd H4 q (.tup [x,.int (cnt v.cur f b p:Nat)])) D (.lst (a++[.ref q])))):=λc o e=>by
     obtain⟨t,e⟩:=aJ e;rw[ak t,ap t,ap λz=>by rw[z,hq]at e;cases e];exact e
    refine⟨a,by rw[ap hqD];exact W,small (by lia),_,ab,⟨_,rfl⟩,V.trans sW,?_⟩;rw[UX,e1,UL];refine(y.same sW).append (.cons ?_ .nil);exact .tup (.of (by rw[ak hqD.symm,ap hqD.symm];exact ab)) (.cons (cx.same (V.trans sW)) (.cons (.int _) .nil))
   ·obtain⟨_,V,y⟩:=q;rw[Nz,Vl]at y;have a9:=((s1.trans l).trans s3).trans (V.trans aM);exact k D a H4 (((s1.trans l).trans s3).free hD) a9 ai (y.same aM)
def qx (K:Xz) (A:Ad):Sp:=λvs H Q _=>∃(B:Hp) (g pa tb:Za) (v:fc) (x:V) (p:Ui),vs=[.ref g,x]/\bA K A.aX A.aL B H g pa tb v/\Den K H x (be p)/\p∈v.cur.bs++v.cur.fs /\
 ∀(D:Za) (as:Uz) (ms:List (List (Str×Nat))) (H':Hp),H D=none->af H H'->H' D=some (.lst (as.map V.ref))->as.Nodup->D∉as->iy v.cur p ms->as.length=ms.length->(∀(j:Nat) a m,as[j]? = some a->ms[j]? = some m->H a=none/\m.length<64/\∃ys,H' a=some (.lst ys)/\HwL H' ys m)->Q (.ref D) H'
def qD (K:Xz):Sp:=λvs H Q _=>∃(a:Za) (ws:Uq),vs=[.ref a]/\SqL K H a (ws.map V.str)/\ws.length<64/\∀(d:Za) (l:List (Str×Nat)) (H':Hp),H d=none->af H H'->H' d=some (.dK (hoK l))->(l.map (·.1)).Nodup->(∀y,y∈l.map (·.1)↔y∈ws)->(∀x∈l,x.2=ws.count x.1)->(l.map (·.2)).sum=ws.length->l.length<=ws.length->Q (.ref d) H'
def jz (K:Xz):Sp:=λvs H Q _=>∃(a:Za) (ws:Uq),vs=[.ref a]/\SqL K H a (ws.map V.str)/\ws.length<64/\(∀w∈ws,Bd w)/\∀(D:Za) (acc:Uj) (m:List (Str×Nat)) (H':Hp),H D=none->af H H'->H' D=some (.lst acc)->HwL H' acc m->zS ws m->m.length<=ws.length->Q (.ref D) H'
theorem kB:aC ["things","many","thing"] ["things"] (ag (top 52)):=by refine⟨rfl,rfl,rfl,?_,rfl,?_,?_⟩<;>decide +kernel
theorem yH (T:Tx K mg A):aB P w K mg base CX0 1 A.mm A.m3 ["things"] (qD K):=by
 refine T.nu.fn.ok kB (λJ H Q E h=>?_) (λ_ _ _ s H J Q E C h=>?_)
 ·obtain⟨a,m,rfl,_⟩:=h;rfl
 ·obtain⟨a,m,rfl,D,_,k⟩:=h;refine⟨_,aj (bh (i:=1) kB.nd rfl (Or.inl rfl) Bo)
   (aj (g9 Yx rfl (aT (pv 0)) (ay (i:=2) kB.nd rfl (Or.inl rfl)) (ao (Kk (Jf C) (pv 1) (pv 2) (bU iP (Ic (Jf C) (pv 1) (pv 2) au ⟨rfl,rfl,rfl,rfl⟩) au) rfl)))
   (ao (aG (pv 1)))),?_⟩
  intro d o;have t:SqL K (upd H d (.dK [])) a (m.map V.str):=(af.new o).seq D;refine⟨_,rfl,a,rfl,⟨_,t⟩,?_⟩;refine iM (K:=K) (xs:=m.map V.str) (λi r c=>(∃u,r=[some (.ref a),some (.ref d),u])/\af H c/\∃l:List (Str×Nat),c d=some (.dK (hoK l))/\(l.map (·.1)).Nodup/\(∀y,y∈l.map (·.1)↔y∈m.take i)/\(∀x∈l,x.2=(m.take i).count x.1)/\(l.map (·.2)).sum=i/\l.length<=i) ⟨⟨_,rfl⟩,af.new o,[],ab,Wh,λy=>⟨λh=>(by cases h),λh=>(by cases h)⟩,(λx j=>by cases j),rfl,UD _⟩ (λi r c _ p=>p.2.1.seq D) (λi x r c j p=>?_) (λr c p=>?_)
  ·obtain⟨⟨u,rfl⟩,B,l,g,n,f,b,q,e⟩:=p;obtain⟨w,z,rfl⟩:=e7 j;have M:=aH z;have L:zq c d (kV (Sum.inr w)) (fB (hoK l) (Sum.inr w)):=.k g;have v:GR c d (kV (Sum.inr w)) (.int ((p9 l w:Nat)+1:Int)) _:=.k g (by unfold hoK;rw[UA];exact small (by lia));refine⟨_,rfl,d,rfl,.inl ⟨_,.of g⟩,_,rfl,_,L,((p9 l w:Nat):Int),1,?_,rfl,_,rfl,_,rfl,d,_,rfl,v,?_⟩
   ·show Option.getD (fB (hoK l) (Sum.inr w)) (.int 0) = .int (p9 l w:Nat);rw[JA];unfold p9;cases l.find? λx=>decide (x.1=w) <;> rfl
   ·rw[Ny n];obtain⟨I,F,G⟩:=JP (w:=w) n;refine⟨⟨_,rfl⟩,ax o B,oC l w,ab,I,λy=>?_,λx j=>?_,by rw[G,q],?_⟩
    ·rw[F y,f y,UX,z,UY];exact or_congr Iff.rfl ⟨λh=>by rw[h];exact UG.mpr rfl,λh=>UG.mp h⟩
    ·rw[UX,z];exact Ni n f b x j
    ·unfold oC
     split
     ·rw[UA];lia
     ·rw[UH,UQ];lia
  ·obtain⟨⟨u,rfl⟩,B,l,g,n,f,b,q,e⟩:=p;rw[UA]at f q e b;rw[Vl]at b;exact⟨_,rfl,k d l c o B g n (λy=>by rw[f y,Vl]) b q e⟩
theorem je:aC ["words","many"] ["words"] (ag (top 53)):=by refine⟨rfl,rfl,rfl,?_,rfl,?_,?_⟩<;>decide +kernel
theorem pO (T:Tx K mg A):aB P w K mg base CX0 4 A.gu A.gm ["words"] (jz K):=by
 have AX:aB P w K mg base CX0 3 _ _ _ _:=MC (yH T);have zR:aB P w K mg base CX0 1 _ _ _ _:=MC (sR T);refine T.fE.fn.ok je (λvs H Q E h=>?_) (λ_ _ _ s H vs Q E Z h=>?_)
 ·obtain⟨a,ws,rfl,_⟩:=h;rfl
 ·obtain⟨a,ws,rfl,B,J,a7,k⟩:=h;refine⟨_,aj (bh (i:=1) je.nd rfl (Or.inr rfl) (av AX Z (by rfl) T.nu.mg T.nu.fn.kp T.nu.bd .nil aA (aa (pv 0) ae)))
   (ao (aG (aY (N':=["word","many"]) (n:=1) (fi:=[1]) (g:=aZ 0) rfl (bf (ag (top 53)) ["words","many"] (by decide +kernel)) (aT (FE (a:=.int) (r:=.bC .str .lD) .int zR Z T.j7.bd (by rfl) T.p6 (by rfl) T.j7.mg (aa (pv 1) ae))) (λs H fp=>ay (i:=0) (show(["word","many"]:Uq).Nodup by decide +kernel) rfl (Or.inl rfl) (.inr rfl)) (λs H fp=>aV) (λs H fp=>bZ (aa (pv 0) (aa (JU (Jf Z) (pv 1) (pv 0) (λ_ _=>rfl)) ae)))))),?_⟩
  refine⟨_,rfl,a,ws,rfl,B,J,λd l W S s1 hl hn hm a8 _ ah=>?_⟩;refine⟨_,rfl,_,rfl,d,_,_,rfl,.of hl,rfl,by unfold hoK;rw[UA,UA];lia,?_⟩;have a0:∀x∈l,Bd x.1:=λx j=>a7 _ ((hm x.1).mp (UE.mpr ⟨x,j,rfl⟩));have G:((hoK l).map λkv=>kV kv.1)=l.map λx=>V.str x.1:=by unfold hoK;rw[Vc];rfl
  refine rK (K:=K) (H0:=W) _ (l.map λx=>wkD x.1) [] [] W (by unfold hoK;rw[UA,UA,UA]) (af.refl W) .nil (λi x d2 C _ j I s2 kk=>?_) (λks C s2 d1=>?_)
  ·rw[G,UI]at j;obtain⟨y,e,rfl⟩:=Option.map_eq_some_iff.mp j;rw[UI,e]at I;cases I;have hb:=a0 y (UC e);exact⟨y.1,rfl,UK hb.1 (by decide),λp O=>kk _ _ (af.new O) (.tup (.of ab) (.cons (.int _) (.cons (.str hb.2) .nil)))⟩
  ·have a3:aD K C ks (l.map λx=>wkD x.1):=by simpa using d1
   refine⟨_,a3,λd S=>?_,λd S=>?_,λF p a9 O ho=>?_⟩
   ·obtain⟨x,_,rfl⟩:=UE.mp S;exact Mf _
   ·obtain⟨x,_,rfl⟩:=UE.mp S;exact UK (Ot _) (by decide)
   ·rw[G,UA]at O;obtain⟨m,f,em,eo⟩:=Gn O;have a6:zS ws m:=⟨((f.map _).nodup_iff).mpr hn,λy=>by rw[(f.map (·.1)).mem_iff];exact hm y,λx j=>a8 x (f.mem_iff.mp j),by unfold fW at ho;rw[eo]at ho;exact ho⟩
    rw[em];have a5:m.length=l.length:=f.length_eq;refine⟨F,rfl,⟨_,.of ab⟩,λD N=>?_⟩;have U:af W (upd C F (.lst (m.map λx=>V.str x.1))):=s2.trans (af.new a9);have LM:(upd C F (.lst (m.map λx=>V.str x.1))) F=some (.lst (m.map λx=>V.str x.1)):=ab;generalize upd C F (HO.lst (m.map λx=>V.str x.1))=Hb at U LM N ⊢;refine aK (K:=K) (xs:=m.map λx=>V.str x.1) (λi b X v=>(∃u,X=[u,some (.ref d)])/\af Hb v/\HwL v b (m.take i)) ab ⟨⟨_,rfl⟩,af.new N,.nil⟩ (λi b X v _ _ q=>.of (q.2.1 _ _ LM)) (λi x b X v j o q=>?_) (λb X v a4 q=>?_)
    ·obtain⟨q0,R,L⟩:=q;apply cU q0;clear q0;intro u;rw[UI]at j;obtain⟨y,e,rfl⟩:=Option.map_eq_some_iff.mp j;have Y:=R _ _ (U _ _ hl);have hy:y∈l:=f.mem_iff.mp (UC e);have hi:=aH e;have hg:zq v d (kV (Sum.inr y.1)) (some (.int (y.2:Nat))):=by
      rw[<-O7 hn hy];exact .k Y
     refine cB ⟨_,rfl,_,rfl,_,rfl,d,_,rfl,hg,(by show 2<=Zg;decide),λq B=>?_⟩;have hqD:D≠q:=λe'=>by rw[<-e',o]at B;cases B
     have ai:b.length<=i:=by rw[L.1,UT];lia
     refine⟨b,by rw[ap hqD];exact o,small (by lia),_,ab,⟨_,rfl⟩,ax N (R.trans (af.new B)),?_⟩;rw[UX,e];refine(L.mono λc t M=>?_).snoc (by rw[ap hqD.symm];exact ab);rw[ap (nn M o),ap (nn M B)];exact M
    ·obtain⟨_,R,L⟩:=q;rw[UA,Vl]at L;exact k D b m v ((s1.trans U).free N) ((s1.trans U).trans R) a4 L a6 (by rw[a5];exact ah)
theorem lr:aC ["self","pattern","rows","places"] ["self","pattern"] (ag (mIn 55 17)):=by refine⟨rfl,rfl,rfl,?_,rfl,?_,?_⟩<;>decide +kernel
theorem x8 (T:Tx K mg A):aB P w K mg base CX0 5 A.jD A.mU ["self","pattern"] (qx K A):=by
 have dZ:aB P w K mg base CX0 4 _ _ _ _:=MC (ie T);have fh:aB P w K mg base CX0 4 _ _ _ _:=MC (jd T);have rL:aB P w K mg base CX0 4 _ _ _ _:=MC (pO T);have dz:aB P w K mg base CX0 4 _ _ _ _:=MC (fL T);have d9:aB P w K mg base CX0 4 _ _ _ _:=MC (iQ T);refine T.wL.fn.ok lr (λvs H Q E h=>?_) (λ_ _ _ s H vs Q E hr h=>?_)
 ·obtain⟨B,g,pa,tb,v,x,p,rfl,_⟩:=h;rfl
 ·obtain⟨B,g,pa,tb,v,x,p,rfl,cw,cx,X,k⟩:=h;have C:=cw.okc;have cu:=C.rl;have Gf:=C.Kc;obtain⟨dx,_,_,_,hg⟩:=cw.gg;obtain⟨a0,b8,rfl,bk,b2⟩:=gG cx;have c6:b8.length=p.length:=by rw[b2.length,UA]
  have MW:=(C.pso p X).2.2;refine⟨_,aj (bx (aO (r:=Cy K true) (nL hr) (pv 1) (dY (pv 0) T.aN T.ig dZ hr T.iA.bd .nil aA) (by rfl)) (ao dg) aS)
   (aj (bh (i:=2) lr.nd rfl (Or.inr rfl) (aY (N':=["fall","moment","line","pattern"]) (n:=3) (fi:=[1]) (g:=u7 K 2 (eR (u7 K 2 (eR (aZ 1) (eR (aZ 2) vY))) (eR (aZ 0) vY))) rfl (bf (ag (mIn 55 17)) ["self","pattern","rows","places"] (by decide +kernel)) (aT (dY (pv 0) T.aN T.fP dz hr T.eB.bd .nil aA)) (λs H N=>fG rfl (ba (fG rfl (ba (ay (i:=1) (show(["fall","moment","line","pattern"]:Uq).Nodup by decide +kernel) rfl (Or.inl rfl) (.inr rfl)) (ba (ay (i:=2) (show(["fall","moment","line","pattern"]:Uq).Nodup by decide +kernel) rfl (Or.inl rfl) (.inr rfl)) dO))) (ba (ay (i:=0) (show(["fall","moment","line","pattern"]:Uq).Nodup by decide +kernel) rfl (Or.inl rfl) (.inr rfl)) dO))) (λs H N=>dS (aO (r:=vI K) (m4 hr) (pv 0) (pv 3) (aR _))) (λs H N=>av fh hr (by rfl) T.words_of.mg T.words_of.fn.kp T.words_of.bd .nil aA (aa (pv 2) ae))))
   (aj (kY (i:=3) (N':=["place","part"]) (n:=2) (fi:=[]) (g:=u7 K 2 (eR (aZ 0) (eR (aZ 1) vY))) lr.nd rfl (Or.inl rfl) rfl (bf (ag (mIn 55 17)) ["self","pattern","rows","places"] (by decide +kernel)) (JY (by rfl) T.BK (aa (pv 1) ae)) (λs H N=>fG rfl (ba (ay (i:=0) (show(["place","part"]:Uq).Nodup by decide +kernel) rfl (Or.inl rfl) (.inr rfl)) (ba (ay (i:=1) (show(["place","part"]:Uq).Nodup by decide +kernel) rfl (Or.inl rfl) (.inr rfl)) dO))) (λs H N=>dS (cY (av d9 hr (by rfl) T.cN.mg T.cN.fn.kp T.cN.bd .nil aA (aa (pv 1) ae)))) (λs H N=>pv 0))
   (ao (aG (aY (N':=["place","rows"]) (n:=1) (fi:=[2]) (g:=aZ 0) rfl (bf (ag (mIn 55 17)) ["self","pattern","rows","places"] (by decide +kernel)) (aT (pv 3)) (λs H N=>ay (i:=0) (show(["place","rows"]:Uq).Nodup by decide +kernel) rfl (Or.inr rfl) (.inl rfl)) (λs H N=>aV) (λs H N=>av rL hr (by rfl) T.fE.mg T.fE.fn.kp T.fE.bd .nil aA (aa (aY (wi:=zZ K (rD 1)) (N':=["words","place"]) (n:=1) (fi:=[0]) (g:=aZ 0) rfl (tU (ag (mIn 55 17)) (by decide +kernel)) (aT (pv 1)) (λs H N=>ay (i:=0) (show(["words","place"]:Uq).Nodup by decide +kernel) rfl (Or.inl rfl) (.inr rfl)) (λs H N=>aV) (λs H N=>bj (r:=ff K) bi (pv 0) (pv 1) (λ_ _=>rfl))) ae))))))),?_⟩
  refine⟨_,rfl,_,rfl,g,dx,_,rfl,hg,rfl,B,g,pa,tb,v,rfl,cw,λPS pv _ _ s1 c0 bq=>?_⟩;refine⟨_,_,.lst (.of c0) (bq.same c8),cx.same s1,UK (dP _) (by decide),_,rfl,?_⟩;rw[Zn rfl,pM C.pok (C.pok p X),Zk X];refine br ?_;refine⟨_,rfl,g,dx,_,rfl,s1 _ _ hg,rfl,B,g,pa,tb,v,rfl,cw.same s1,λRF b4 H2 _ s2 b6 bg=>?_⟩;refine⟨RF,rfl,⟨_,.of b6⟩,λW b9=>?_⟩;have Ob:b4.length=v.cur.rs.length:=by rw[bg.length,UA,Gf]
  have b5:=s1.trans s2;refine aK (K:=K) (xs:=b4) (λi f G H3=>(∃u w z,G=[u,w,z,some (.ref a0)])/\af H2 (wo W H3)/\aD K (wo W H3) f ((((v.cur.rf.take i).filter λx=>decide (x.2=some p)).map λx=>Y4 x.1.2 " ").map wsD)) ab ⟨⟨_,_,_,rfl⟩,?_,.nil⟩ (λi f G H3 _ _ q=>.of (aM _ _ (q.2.1 _ _ b6))) (λi x f G H3 Y a8 q=>?_) (λb0 G H3 c1 q=>?_)
  ·intro c o e;rw[ak (nn e b9),ap (nn e b9)];exact e
  ·obtain⟨⟨u,w,z,rfl⟩,s3,dn⟩:=q;obtain⟨d,hd,cj⟩:=bg.get Y;rw[UI]at hd;obtain⟨⟨r,o⟩,e1,rfl⟩:=Option.map_eq_some_iff.mp hd;have cz:=aH Y;have M:af H2 H3:=s3.trans aM;have ct:f.length<=64:=by
    rw[dn.length,UA,UA];have F:=U9 (λx=>decide (x.2=some p)) (v.cur.rf.take i);rw[UT]at F;lia
   obtain⟨bt,q,ck,eo,_⟩:=C.rfm _ (UC e1);replace eo:o=some q:=eo;subst eo;obtain⟨ws,aq⟩:=C.lns _ bt;have HW:=aq.ok (by decide);cases cj with
   | tup c4 ds=>
    cases ds with
    | cons d1 ds=>
     cases ds with
     | cons d2 ds=>
      cases ds;cases d1 with
      | tup cn O=>
       cases O with
       | cons a1 O=>
        cases O with
        | cons a2 O=>
         cases O;cases a1;cases a2 with
         | str _=>
         refine⟨_,_,rfl,M.eA c4,rfl,_,_,rfl,_,_,rfl,M.eA cn,rfl,_,_,rfl,_,_,rfl,rfl,_,_,rfl,rfl,?_⟩;have ht:v.cur.rf.take (i+1)=v.cur.rf.take i++[(r,some q)]:=by rw[UX,e1];rfl
         rw[ht,Vi,UL,UL];refine⟨_,rfl,_,rfl,_,_,d2.same M,cx.same (b5.trans M),UK (dP _) (by decide),_,rfl,?_⟩;rw[show Yc (oP (r,some q).2) (be p)=decide (q=p)from tS (C.pok q ck) (C.pok p X)];by_cases F:q=p
         ·subst F;rw[show[(r,some q)].filter (λx=>decide (x.2=some q))=[(r,some q)]from V7 (Zk rfl),Zk (show q=q from rfl)];refine cq ⟨_,rfl,_,rfl,UK HW.2 (by decide),λl hl=>?_⟩;have ai:W≠l:=λe=>by rw[<-e,a8]at hl;cases hl
          have sW:af (wo W H3) (wo W (upd (upd H3 l (.lst ((Y4 r.2 " ").map V.str))) W (.lst (f++[.ref l])))):=λc o e=>by
           obtain⟨F,e⟩:=aJ e;rw[ak F,ap F,ap λz=>by rw[z,hl]at e;cases e];exact e
          refine⟨f,by rw[ap ai];exact a8,small (by lia),_,ab,⟨_,_,_,rfl⟩,s3.trans sW,(dn.same sW).append (.cons ?_ .nil)⟩;refine .lst (.of (by rw[ak ai.symm,ap ai.symm];exact ab)) (jY λw R=>?_);replace R:w∈Y4 (r,some q).1.2 " " :=R;rw[aq.split]at R;exact(aq.wd w R).ok
         ·have J:¬ (r,some q).2=some p:=λe=>F (Ye e);rw[show[(r,some q)].filter (λx=>decide (x.2=some p))=[]from VT (λe=>J (Zm e)),Zl F,VQ,VQ,Vd];exact br ⟨f,a8,⟨_,_,_,rfl⟩,s3,dn⟩
  ·obtain⟨_,s3,Z⟩:=q;rw[Ob,<-Gf,Vl]at Z;replace Z:aD K (wo W H3) b0 ((fu v.cur p).map wsD):=Z;have M:af H2 H3:=s3.trans aM;have bl:=Z.same aM;have a5:=b5.trans M;refine⟨_,rfl,a0,rfl,⟨_,a5.seq bk⟩,λPL b1=>?_⟩;refine EX (K:=K) (xs:=b8) (λi f G H4=>(∃u w,G=[u,w])/\af H3 H4/\f=(hPl p i).map nV) ab ⟨⟨_,_,rfl⟩,af.new b1,rfl⟩ (λi f G H4 _ _ q=>(a5.trans q.2.1).seq bk) (λi x f G H4 t Y ah q ht=>?_) (λ_ G H4 S q=>?_)
   ·obtain⟨⟨u,w,rfl⟩,s4,rfl⟩:=q;have cv:=Ee p i;obtain⟨pt,a6,c2⟩:=lh b2 Y;have hi:=aH a6;have st:af H4 (upd H4 t (.tup [.int i,x])):=af.new ht;refine⟨t,_,rfl,.of ab,rfl,_,_,rfl,_,_,rfl,rfl,_,rfl,x,pt,rfl,c2.same ((a5.trans s4).trans st),_,rfl,?_⟩;have a4:=st _ _ ah;have s5:=s4.trans st;cases pt with
    | word w=>
     rw[AW,a6,show GP (some (.word w))=false from rfl,Zo UO,Vd];exact br ⟨_,a4,⟨_,_,rfl⟩,s5,rfl⟩
    | hole m=>
     rw[AW,a6,show GP (some (.hole m))=true from rfl,Zn (show true=true from rfl),UL];exact cq ⟨_,rfl,_,a4,small (by rw[UA];lia),_,ab,⟨_,_,rfl⟩,ax b1 s5,rfl⟩
   ·obtain⟨_,s4,rfl⟩:=q;rw[c6]at S;have hn:∀n∈hPl p p.length,n<p.length:=λn hn=>Nn hn;have c7:=Ee p p.length;generalize hns:hPl p p.length=ns at S hn c7;have aw:=a5.trans s4;have cg:=s4 _ _ c1;have RA:=bl.same s4;have Rk:=KJ (p:=p) C;have bp:b0.length=(fu v.cur p).length:=by rw[bl.length,UA]
    refine⟨_,rfl,PL,rfl,⟨_,.of S⟩,λD hD=>?_⟩;refine aK (K:=K) (xs:=ns.map nV) (λi f G H5=>(∃u,G=[u,some (.ref W)])/\af H4 H5/\∃(as:Uz) (ms:List (List (Str×Nat))),f=as.map V.ref/\as.length=i/\ms.length=i/\as.Nodup/\D∉as/\(∀(j n:Nat) m,ns[j]? = some n->ms[j]? = some m->zS (wAt (fu v.cur p) n) m)/\∀(j:Nat) a m,as[j]? = some a->ms[j]? = some m->H4 a=none/\m.length<64/\∃ys,H5 a=some (.lst ys)/\HwL H5 ys m) ab ⟨⟨_,rfl⟩,af.new hD,[],[],rfl,rfl,rfl,Wh,VI,(λj n m _ h=>by cases h),λj a m h=>(by cases h)⟩ (λi f G H5 _ _ q=>.of (q.2.1 _ _ S)) (λi x f G H5 Y ah q=>?_) (λf G H5 a4 q=>?_)
    ·obtain⟨q0,s5,as,ms,rfl,GX,CH,au,U,ar,a3⟩:=q;apply cU q0;clear q0;intro u;have a9:∀a∈as,∃o,H5 a=some o:=λa ha=>by
      obtain⟨j,hj⟩:=VJ ha;have c3:j<ms.length:=by rw[CH,<-GX];exact aH hj
      obtain⟨_,_,ys,F,_⟩:=a3 j a _ hj (UB c3);exact⟨_,F⟩
     rw[UI]at Y;obtain⟨n,en,rfl⟩:=Option.map_eq_some_iff.mp Y;have d0:=hn n (UC en);have hi:=aH en;have bb:=s5 _ _ cg;have Ri:=RA.same s5;refine cB ⟨_,rfl,W,rfl,⟨_,.of bb⟩,λIN bo=>?_⟩;refine aK (K:=K) (xs:=b0) (λj f G H6=>(∃u,G=[u,some (.int (n:Nat))])/\af H5 H6/\f=(wAt ((fu v.cur p).take j) n).map V.str) ab ⟨⟨_,rfl⟩,af.new bo,rfl⟩ (λj f G H6 _ _ q=>.of (q.2.1 _ _ bb)) (λj x f G H6 Y cf q=>?_) (λf G H6 b7 q=>?_)
     ·obtain⟨q0,s6,rfl⟩:=q;apply cU q0;clear q0;intro u;obtain⟨ws,r,R,rfl,bu⟩:=qG Ri Y;have BJ:=(Jm C ws (UC R)).1;have hj:=aH R;have cc:n<ws.length:=by lia
      have a9:(ws.map V.str)[n]? = some (.str (ws.getD n Yh)):=by rw[UI,US,UB cc];rfl
      refine cB ⟨_,rfl,_,rfl,r,_,_,_,rfl,rfl,s6.seq bu,dE a9,_,cf,small (by unfold wAt;rw[UA,UA,UT];lia),_,ab,⟨_,rfl⟩,ax bo s6,?_⟩;rw[As R,UL];rfl
     ·obtain⟨_,s6,rfl⟩:=q;rw[bp,UP (UD _)]at b7;have bc:(wAt (fu v.cur p) n).length=(fu v.cur p).length:=by unfold wAt;rw[UA]
      refine⟨IN,wAt (fu v.cur p) n,rfl,.of b7,by rw[bc];exact Rk,λw R=>?_,λL c9 m H7 hL s7 bw cp Rt cb=>?_⟩
      ·unfold wAt at R;obtain⟨ws,bz,rfl⟩:=UE.mp R;obtain⟨F,J⟩:=Jm C ws bz;rw[US,UB (by lia)];exact J _ (Vh _)
      ·have az:=s6 _ _ ah;have b3:D≠L:=λe=>by rw[<-e,az]at hL;cases hL
       have a7:=s6.trans s7;rw[bc]at cb;have I:∀{α:Type}{l:List α}{x y:α}{j:Nat},(l++[x])[j]? = some y->l[j]? = some y\/(j=l.length/\y=x):=λ{α l x y j} h=>by
        by_cases hj:j<l.length
        ·rw[U6 hj]at h;exact .inl h
        ·have J:=aH h;rw[UH,UQ]at J;have e:j=l.length:=by lia
         subst e;rw[Vb (UD _),Wi]at h;exact .inr ⟨rfl,(Ye h).symm⟩
       have up:∀c t,H7 c=some (.tup t)->(upd H7 D (.lst (as.map V.ref++[.ref L]))) c=some (.tup t):=λc t e=>by
        rw[ap λz=>by rw[z,s7 _ _ az]at e;cases e];exact e
       refine⟨_,s7 _ _ az,small (by rw[UA];have:=aH en;lia),_,ab,⟨_,rfl⟩,ax hD (s5.trans a7),as++[L],ms++[m],by rw[UL];rfl,by rw[UH,UQ,GX],by rw[UH,UQ,CH],?_,?_,λj n' m' F J=>?_,λj a m' F J=>?_⟩
       ·rw[VE];refine⟨au,by simp,λa ha b hb e=>?_⟩;obtain⟨o,F⟩:=a9 a ha;have cm:=UG.mp hb;rw[e,cm]at F;rw[s6 _ _ F]at hL;cases hL
       ·intro hm;rcases UY.mp hm with h | h
        ·exact U h
        ·exact b3 (UG.mp h)
       ·rcases I J with h | ⟨e,rfl⟩
        ·exact ar j n' m' F h
        ·rw[e,CH,en]at F;cases F;exact Rt
       ·rcases I F with h | ⟨e,rfl⟩
        ·rcases I J with h' | ⟨e',rfl⟩
         ·obtain⟨h0,hl,ys,h3,h4⟩:=a3 j a m' h h';have cs:a≠D:=λe=>U (e ▸ UC h);exact⟨h0,hl,ys,by rw[ap cs];exact a7 _ _ h3,h4.mono λc t e=>up c t (a7 _ _ e)⟩
         ·have:=aH h;lia
        ·rcases I J with h' | ⟨e',rfl⟩
         ·have:=aH h';lia
         ·exact⟨(s5.trans s6).free hL,by lia,c9,by rw[ap b3.symm];exact bw,cp.mono up⟩
    ·obtain⟨_,s5,as,ms,rfl,GX,CH,au,U,ar,a3⟩:=q;rw[UA]at GX CH;refine k D as ms H5 (aw.free hD) (aw.trans s5) a4 au U ⟨by rw[hns];exact CH,λj n m F J=>ar j n m (by rw[<-hns];exact F) J⟩ (GX.trans CH.symm) λj a m F J=>?_;obtain⟨h0,h3⟩:=a3 j a m F J;exact⟨aw.free h0,h3⟩
def j4 (K:Xz):Sp:=λvs H Q _=>∃(d S:Za) (n:Nat) (xs:Uj),vs=[.ref d,.ref S]/\Dk H d n/\n<800000/\SqL K (wo d H) S xs/\xs.length<=40/\∀(D:Za) (ys:Uj) (H':Hp),H D=none->af (wo d H) H'->Dk H' d (n+xs.length)->H' D=some (.lst ys)->ys.Perm xs->Q (.ref D) H'
theorem gp:aC ["deck","some","found","one"] ["deck","some"] (ag (top 65)):=by refine⟨rfl,rfl,rfl,?_,rfl,?_,?_⟩<;>decide +kernel
theorem rg (T:Tx K mg A):aB P w K mg base CX0 2 A.ib A.ic ["deck","some"] (j4 K):=by
 have N:aB P w K mg base CX0 1 _ _ _ _:=MC (cD T);refine T.gE.fn.ok gp (λR H Q E h=>?_) (λ_ _ _ s H R Q E O h=>?_)
 ·obtain⟨d,S,n,xs,rfl,_⟩:=h;rfl
 ·obtain⟨d,S,n,xs,rfl,m,_,I,_,k⟩:=h;refine⟨_,aj (bh (i:=2) gp.nd rfl (Or.inl rfl) (bz ae))
   (aj (g9 Yx rfl (aT (pv 1)) (ay (i:=3) gp.nd rfl (Or.inl rfl)) (ao (bq (ee (r:=L4) Y9 PySem.F.slot_list_insert PySem.F.type_list_insert Lx (pv 2) (aa (av N O (by rfl) T.aq.mg T.aq.fn.kp T.aq.bd .nil aA (aa (pv 0) (aa (bU iP (aP (r:=dU K) bg (by rfl) T.c6 Yb (aa (pv 2) ae)) au) ae))) (aa (pv 3) ae))))))
   (ao (aG (pv 2)))),?_⟩
  refine⟨UU _,λD j=>?_⟩;have g:d≠D:=m.ne j;have B:af (wo d H) (upd H D (.lst [])):=aM.trans (af.new j);refine⟨_,rfl,S,rfl,⟨_,B.seq I⟩,?_⟩;refine iM (K:=K) (xs:=xs) (λi t b=>(∃u,t=[some (.ref d),some (.ref S),some (.ref D),u])/\af (wo d H) b/\Dk b d (n+i)/\∃ys,b D=some (.lst ys)/\ys.Perm (xs.take i)) ⟨⟨_,rfl⟩,B,m.same (af.new j),[],ab,.nil⟩ (λi t b _ q=>q.2.1.seq I) (λi x t b C q=>?_) (λt b q=>?_)
  ·obtain⟨p,z,f,ys,a,l⟩:=q;apply cU p;clear p;intro u;have U:=aH C;have J:ys.length=i:=by rw[l.length_eq,UT];lia
   refine⟨_,rfl,.inl ⟨rfl,_,.of a⟩,_,rfl,_,rfl,D,_,rfl,.inl (.of a),_,_,rfl,rfl,d,_,_,rfl,f,by lia,by lia,by lia,λr L G y M _=>?_⟩;have v:L D=_:=cH G a g;refine⟨_,rfl,D,r.toNat,_,ys,rfl,by rw[Int.toNat_of_nonneg M],v,by lia,small (by lia),⟨_,rfl⟩,?_,?_,_,ab,?_⟩
   ·refine ax (Zp g.symm j) λc o e=>G _ _ ?_;have:=aJ e;rw[ak this.1];exact z _ _ e
   ·exact y.upd g
   ·rw[UX,C];refine List.perm_middle.trans ?_;rw[We];exact(List.Perm.cons _ l).trans (List.perm_append_singleton _ _).symm
  ·obtain⟨p,z,f,ys,a,l⟩:=q;apply cU p;clear p;intro u;rw[Vl]at l;exact⟨_,rfl,k D ys b j z f a l⟩
abbrev Mi (K:Xz) (A:Ad):=MdI K ⟨122,27,122,69⟩ PB A.aX A.aL A.ar
theorem Fu {N:V->Hp->Prop}{G:Prop} (Pre:V->Hp->Prop) (rest:∀x H,Pre x H->N x H) (f:(∀x H,Pre x H->N x H)->G):G:=f rest
theorem DJ (a b:Int):(PyData.tuple [.int a,.int b]).depth<=100:=by
 simp only[Yr,Y6];decide
def i8 (K:Xz) (A:Ad):Sp:=λvs H Q _=>∃(d SV L HD:Za) (n:Nat) (s l:Int) (zs:Uq) (hv:Uj) (bs:Uh),vs=[.ref d,.ref SV,.ref L,.ref HD]/\Dk H d n/\n<500000/\SqT K (wo d H) SV [.int s,.int l]/\SqL K (wo d H) L (zs.map V.str)/\SqL K (wo d H) HD hv/\aD K (wo d H) hv (bs.map be)/\zs.length<=30/\(∀z∈zs,∃ws,gZ 12 z ws)/\bs.Nodup/\bs.length<=4/\nY bs/\bG A.ar H /\
 ∀(H' B':Hp) (g pa tb:Za) (v:fc),af (wo d (wo A.ar H)) H'->bG A.ar H'->v.s=s->v.l=l->v.cur.rs.Perm (zs.map λz=>((7:Int),z))->v.cur.bs.Perm bs->lB v.cur.bs->bA K A.aX A.aL B' H' g pa tb v->Q (.ref g) H'
theorem cZ:aC ["deck","sieve","lines","hand","log","never","what"] ["deck","sieve","lines","hand"] (ag (top 66)):=by refine⟨rfl,rfl,rfl,?_,rfl,?_,?_⟩<;>decide +kernel
theorem o9 (T:Tx K mg A):aB P w K mg base CX0 26 A.fF A.fV ["deck","sieve","lines","hand"] (i8 K A):=by
 have tG:aB P w K mg base CX0 25 _ _ _ _:=MC (rg T);have tw:aB P w K mg base CX0 24 _ _ _ _:=MC (Ae T);have uG:aB P w K mg base CX0 25 _ _ _ _:=MC (Ax T);have xE:aB P w K mg base CX0 25 _ _ _ _:=MC (CA T);have aE:aB P w K mg base CX0 25 _ _ _ _:=MC (cD T);have uA:aB P w K mg base CX0 25 _ _ _ _:=MC (AY T);have AI:aB P w K mg base CX0 25 _ _ _ _:=MC (zt T);have Cv:aB P w K mg base CX0 25 _ _ _ _:=MC (zY T);have mP:aB P w K mg base CX0 25 _ _ _ _:=MC (qE T);refine T.bW.fn.ok cZ (λvs H Q E h=>?_) (λ_ _ _ s H vs Q E W h=>?_)
 ·obtain⟨d,SV,L,HD,n,O,F,zs,hv,bs,rfl,_⟩:=h;rfl
 ·obtain⟨d,SV,L,HD,n,O,F,zs,hv,bs,rfl,dy,_,c7,e3,d4,d3,_,e8,eh,_,bk,cj,k⟩:=h;obtain⟨ef,eE⟩:=aU cj;obtain⟨_,dt⟩:=dy.lst;have bo:A.ar≠d:=nn eE dt
  have Sz:hv.length=bs.length:=by rw[d3.length,UA]
  have HX:(wo d H) A.ar=some (.tbl ef):=by rw[ak bo];exact eE
  have eW:wo A.ar (wo d H)=wo d (wo A.ar H):=by
   funext c
   by_cases h1:c=d
   ·by_cases h2:c=A.ar
    ·exact(bo (h2.symm.trans h1)).elim
    ·rw[ak h2,h1,bp,bp]
   ·by_cases h2:c=A.ar
    ·rw[h2,bp,ak bo,bp]
    ·rw[ak h2,ak h1,ak h1,ak h2]
  have NZ:SqL K (wo d (wo A.ar H)) HD hv:=by rw[<-eW];exact qL HX d4
  have Pz:SqL K (wo d (wo A.ar H)) L (zs.map V.str):=by rw[<-eW];exact qL HX e3
  have PM:aD K (wo d (wo A.ar H)) hv (bs.map be):=by rw[<-eW];exact fO HX d3
  refine⟨_,aj (bh (i:=4) cZ.nd rfl (Or.inl rfl) (jT (aO (r:=vI K) (m4 W) (pv 1) (bZ (aa au (aa au ae))) (aR _)) (IY T.Gi tw W (by rfl) T.Mc T.BR (.cons (show RelV (.ref A.bN) _ from rfl) .nil) aA) (zh T.Gi tw W (by rfl) T.Mc T.zL.bd .nil aA (aa (pv 1) ae))))
   (aj (bh (i:=5) cZ.nd rfl (Or.inl rfl) (bz (aa (bZ (aa aI (aa aI ae))) (aa (bZ (aa aI (aa aI ae))) ae))))
   (aj (g9 Yx rfl (aT (av tG W (by rfl) T.gE.mg T.gE.fn.kp T.gE.bd .nil aA (aa (pv 0) (aa (bU (r:=uh K) nv (aY (N':=["line"]) (n:=1) (fi:=[]) (g:=aZ 0) rfl (bf (ag (top 66)) ["deck","sieve","lines","hand","log","never","what"] (by decide +kernel)) (aT (pv 2)) (λs H fp=>ay (i:=0) (nT _) rfl (Or.inl rfl) (.inr rfl)) (λs H fp=>aV) (λs H fp=>bZ (aa aI (aa (pv 0) ae)))) (aY (N':=["pattern"]) (n:=1) (fi:=[]) (g:=aZ 0) rfl (bf (ag (top 66)) ["deck","sieve","lines","hand","log","never","what"] (by decide +kernel)) (aT (pv 3)) (λs H fp=>ay (i:=0) (nT _) rfl (Or.inl rfl) (.inr rfl)) (λs H fp=>aV) (λs H fp=>bZ (aa aI (aa (pv 0) ae))))) ae)))) (ay (i:=6) cZ.nd rfl (Or.inl rfl)) (aj (bx (aO fX (bj (r:=lY K) d5 (pv 6) au (λ_ _=>rfl)) aI (aR _)) (ao (bq (d8 (pv 4) T.aN T.sQ uG W T.uK.bd .nil aA (aa au (aa (bj (r:=lY K) d5 (pv 6) au (λ_ _=>rfl)) ae))))) (ao (bq (d8 (pv 4) T.aN T.ul xE W T.yc.bd .nil aA (aa (bj (r:=lY K) d5 (pv 6) au (λ_ _=>rfl)) ae)))))
   (aj (bx (aO fX (av aE W (by rfl) T.aq.mg T.aq.fn.kp T.aq.bd .nil aA (aa (pv 0) (aa au ae))) au (aR _)) (aj (bq (d8 (pv 4) T.aN T.sQ uG W T.uK.bd .nil aA (aa au (aa (av mP W (by rfl) T.gC.mg T.gC.fn.kp T.gC.bd .nil aA (aa (pv 0) (aa au ae))) ae))))
   (ao (bq (dY (pv 4) T.aN T.si uA W T.uu.bd .nil aA)))) aS)
   (aj (bx (aO fX (av aE W (by rfl) T.aq.mg T.aq.fn.kp T.aq.bd .nil aA (aa (pv 0) (aa au ae))) au (aR _)) (aj (bq (dY (pv 4) T.aN T.si uA W T.uu.bd .nil aA))
   (ao (bq (dY (pv 4) T.aN T.yG AI W T.w5.bd .nil aA)))) aS)
   (ao (bx ((pw_and (aO fX (av aE W (by rfl) T.aq.mg T.aq.fn.kp T.aq.bd .nil aA (aa (pv 0) (aa au ae))) au (aR _)) (pw_and1 (aO (r:=Cy K true) (nL W) (pv 5) (pv 3) (by rfl)))).pt) (aj (bq (d8 (pv 4) T.aN T.ul xE W T.yc.bd .nil aA (aa (pv 5) ae)))
   (ao (bq (d8 (pv 4) T.aN T.AA Cv W T.BE.bd .nil aA (aa (pv 5) ae))))) aS))))))
   (ao (aG (pv 4))))),?_⟩
  apply Fu (λx R=>∃(g pa tb:Za) (B1:Hp) (cur:StV),x = .ref g/\H g=none/\H pa=none/\H tb=none/\af (wo d (wo A.ar H)) R/\bG A.ar R/\Dk R d n/\(∀c o,H c=some o->lZ o->B1 c=none)/\cur.rs=[]/\cur.bs=[]/\bA K A.aX A.aL B1 R g pa tb ⟨O,F,cur,cur,[],[]⟩)
  case f=>
   intro rest;refine⟨_,rfl,(by show 2<=Zg;decide),λT3 e9=>?_⟩;have sT:=af.new (o:=.tup [.int 3,.int 2]) e9;refine⟨_,_,.tup (sT.eA (aM.eA c7)) (.cons (.int _) (.cons (.int _) .nil)),.tup (.of ab) (.cons (.int _) (.cons (.int _) .nil)),DJ _ _,_,rfl,?_⟩;rw[wR];generalize upd H T3 (.tup [.int 3,.int 2])=Ht at sT ⊢;have di:∀{g dx pa tb:Za}{Hg R B1:Hp}{cur:StV},Ht g=none->af Ht Hg->af (wo g (wo A.ar Hg)) R->bG A.ar R->Hg pa=none->Hg tb=none->(∀c o,Hg c=some o->lZ o->B1 c=none)->cur.rs=[]->cur.bs=[]->bA K A.aX A.aL B1 R g pa tb ⟨O,F,cur,cur,[],[]⟩->∃(g' pa tb:Za) (B1:Hp) (cur:StV),V.ref g = .ref g'/\H g' = none/\H pa=none/\H tb=none/\af (wo d (wo A.ar H)) R/\bG A.ar R/\Dk R d n/\(∀c o,H c=some o->lZ o->B1 c=none)/\cur.rs=[]/\cur.bs=[]/\bA K A.aX A.aL B1 R g' pa tb ⟨O,F,cur,cur,[],[]⟩:=λ{g dx pa tb Hg R B1 cur} hg sg s1 M a4 a3 B e1 e2 cw=>by
    have c3:H g=none:=sT.free hg;refine⟨g,pa,tb,B1,cur,rfl,c3,sT.free (sg.free a4),sT.free (sg.free a3),λc o e=>?_,M,?_,λc o e m=>B c o (sg _ _ (sT _ _ e)) m,e1,e2,cw⟩
    ·obtain⟨h1,e⟩:=aJ e;obtain⟨h2,e⟩:=aJ e;exact s1 _ _ (Zq (nn e c3) h2 (sg _ _ (sT _ _ e)))
    ·obtain⟨a,b,c,e,r⟩:=id dy;exact⟨a,b,c,s1 _ _ (Zq (nn e c3) bo.symm (sg _ _ (sT _ _ e))),r⟩
   by_cases b8:O=3/\F=2
   ·rw[Zk b8];refine cq ?_;intro g dx hg cp d0;obtain⟨Hg,eq,sg,cm⟩:=xZ A.aX hg cp d0;rw[eq];refine⟨g,A.bN,dx,3,2,rfl,cm,T.oE _,aF (aF cj sT) sg,λR B1 pa tb cur s1 M a4 a3 B e1 e2 cw=>⟨rfl,?_⟩⟩;rw[show(⟨3,2,cur,cur,[],[]⟩:fc)=⟨O,F,cur,cur,[],[]⟩by rw[b8.1,b8.2]]at cw;have:=di (dx:=dx) hg sg s1 M a4 a3 B e1 e2 cw;generalize V.ref g=x at this ⊢;exact rest x R this
   ·rw[Zl b8];refine br ⟨_,rfl,λg dx hg cp d0=>?_⟩;obtain⟨Hg,eq,sg,cm⟩:=xZ A.aX hg cp d0;rw[eq];refine⟨g,SV,dx,O,F,rfl,cm,sg.eA (sT.eA (aM.eA c7)),aF (aF cj sT) sg,λR B1 pa tb cur s1 M a4 a3 B e1 e2 cw=>⟨rfl,?_⟩⟩;have:=di (dx:=dx) hg sg s1 M a4 a3 B e1 e2 cw;generalize V.ref g=x at this ⊢;exact rest x R this
  rintro x R ⟨g,pa,tb,B1,cur,rfl,hg,a4,a3,s1,M,ck,B,e1,e2,cw⟩;clear e3 d4 c7;refine⟨(by show 2<=Zg;decide),λt1 df=>?_⟩;obtain⟨_,eq,sa,dz⟩:=dW (.tup [.str "word",.str "never"]) df;rw[eq];refine⟨(by show 2<=Zg;decide),λt2 d9=>?_⟩;obtain⟨_,eq,sb,dr⟩:=dW (.tup [.str "hole",.str "any"]) d9;rw[eq];refine⟨(by show 2<=Zg;decide),λNV t=>?_⟩;obtain⟨H2,eq,sc,du⟩:=dW (.lst [.ref t1,.ref t2]) t;rw[eq];have a7:=sa.trans sb;have G:H2 t1=some (.tup [.str "word",.str "never"]):=sc _ _ (sb _ _ dz);have I:H2 t2=some (.tup [.str "hole",.str "any"]):=sc _ _ dr;have j:Mi K A H d g pa NV n [.ref t1,.ref t2] B1 tb ⟨O,F,cur,cur,[],[]⟩ H2:=by
   have d7:=cw.same a7;obtain⟨_,_,_,_,_,_,ee,RZ,R5,eb,_⟩:=id d7;have de:=s1.trans a7;have e6:H NV=none:=by
    cases e:H NV with
    | none=>rfl
    | some o=>
     by_cases h1:NV=d
     ·obtain⟨ys,hy⟩:=(ck.same a7).lst;rw[h1,hy]at t;cases t
     by_cases h2:NV=A.ar
     ·obtain⟨q,hq⟩:=aU (aF M a7);rw[h2,hq]at t;cases t
     rw[de NV o (Zq h1 h2 e)]at t;cases t
   exact⟨de.trans sc,aF (aF M a7) sc,(ck.same a7).same sc,d7.same sc,B,eb.free t,(nn t R5),a3,du,⟨_,dt⟩,⟨_,eE⟩,hg,a4,e6,(nn t ee),(nn t RZ)⟩
  clear eq du sc t dr sb d9 dz sa df cw B ck M s1 a7;refine⟨_,rfl,_,rfl,L,rfl,⟨_,j.sB.seq Pz⟩,λC1 cu=>?_⟩;refine aK (K:=K) (xs:=zs.map V.str) (λi a6 σ H3=>(∃u,σ=[u])/\af H2 H3/\∃Z:List Wt,a6=Z.map (·.1)/\Z.map (·.2)=(zs.take i).map Sum.inl/\∀e∈Z,nZ (wo C1 H3) e) ab ⟨⟨_,rfl⟩,af.new cu,[],rfl,rfl,λe y=>by cases y⟩ (λi a6 σ H3 _ _ q=>q.2.1.seq (j.sB.seq Pz)) (λi x a6 σ H3 hx b3 q=>?_) (λ_ σ H3 bu q=>?_)
  ·obtain⟨q0,s3,Z,rfl,hZ,N⟩:=q;apply cU q0;clear q0;intro u;obtain⟨z,hz,rfl⟩:=e7 hx;have hi:=aH hz;have Rg:Z.length<=100:=by have:=congrArg YV hZ;rw[UA,UA,UT]at this;lia
   refine cB ⟨_,rfl,(by show 2<=Zg;decide),λp U=>?_⟩;have sp:=af.new (o:=.tup [.str "line",.str z]) U;have b5:p≠C1:=(aw b3 U).symm;refine⟨_,sp _ _ b3,small (by rw[UA];lia),_,ab,⟨_,rfl⟩,ax cu (s3.trans sp),Z++[(.ref p,.inl z)],by rw[UL];rfl,by rw[UL,hZ,UX,hz,UL];rfl,λe y=>?_⟩;have sw:af (wo C1 H3) (wo C1 (upd (upd H3 p (.tup [.str "line",.str z])) C1 (.lst (Z.map (·.1)++[.ref p])))):=λc o h=>by
    have:=aJ h;rw[ak this.1,ap this.1];exact sp _ _ this.2
   rcases UY.mp y with h | h
   ·exact(N e h).same sw
   ·rw[UG.mp h];exact⟨p,rfl,by rw[ak b5,ap b5];exact ab⟩
  obtain⟨_,s3,Z1,rfl,bi,vd⟩:=q;rw[UA,Vl]at bi;have j:=j.same s3;have G:=s3 _ _ G;have I:=s3 _ _ I;have vd:∀e∈Z1,nZ H3 e:=λe y=>(vd e y).same aM;clear s3 cu;refine⟨_,rfl,HD,rfl,⟨_,j.sB.seq NZ⟩,λC2 c5=>?_⟩;refine aK (K:=K) (xs:=hv) (λi a6 σ H4=>(∃u,σ=[u])/\af H3 H4/\∃Z:List Wt,a6=Z.map (·.1)/\Z.map (·.2)=((hv.zip bs).take i).map Sum.inr/\∀e∈Z,nZ (wo C2 H4) e) ab ⟨⟨_,rfl⟩,af.new c5,[],rfl,rfl,λe y=>by cases y⟩ (λi a6 σ H4 _ _ q=>q.2.1.seq (j.sB.seq NZ)) (λi x a6 σ H4 hx b3 q=>?_) (λ_ σ H4 dh q=>?_)
  ·obtain⟨q0,s3,Z,rfl,hZ,N⟩:=q;apply cU q0;clear q0;intro u;have hi:=aH hx;have e5:i<bs.length:=by lia
   have ec:(hv.zip bs)[i]? = some (x,bs[i]):=by
    rw[Vf];exact⟨hx,UB e5⟩
   have Rg:Z.length<=100:=by have:=congrArg YV hZ;rw[UA,UA,UT]at this;lia
   refine cB ⟨_,rfl,(by show 2<=Zg;decide),λp U=>?_⟩;have sp:=af.new (o:=.tup [.str "hand",x]) U;have b5:p≠C2:=(aw b3 U).symm;refine⟨_,sp _ _ b3,small (by rw[UA];lia),_,ab,⟨_,rfl⟩,ax c5 (s3.trans sp),Z++[(.ref p,.inr (x,bs[i]))],by rw[UL];rfl,by rw[UL,hZ,UX,ec,UL];rfl,λe y=>?_⟩;have sw:af (wo C2 H4) (wo C2 (upd (upd H4 p (.tup [.str "hand",x])) C2 (.lst (Z.map (·.1)++[.ref p])))):=λc o h=>by
    have:=aJ h;rw[ak this.1,ap this.1];exact sp _ _ this.2
   rcases UY.mp y with h | h
   ·exact(N e h).same sw
   ·rw[UG.mp h];exact⟨p,rfl,by rw[ak b5,ap b5];exact ab⟩
  obtain⟨_,s3,Z2,rfl,bc,ES⟩:=q;have QG:(hv.zip bs).length=hv.length:=by rw[VU];lia
  rw[<-QG,Vl]at bc;have j:=j.same s3;have G:=s3 _ _ G;have I:=s3 _ _ I;have bu:=s3 _ _ bu;have vd:∀e∈Z1,nZ H4 e:=λe y=>(vd e y).same s3;have ES:∀e∈Z2,nZ H4 e:=λe y=>(ES e y).same aM;clear s3 c5;have ek:Z1.length=zs.length:=by have:=congrArg YV bi;rw[UA,UA]at this;exact this
  have ej:Z2.length=bs.length:=by have:=congrArg YV bc;rw[UA,UA,QG,Sz]at this;exact this
  refine⟨C1,C2,_,_,rfl,rfl,.of bu,.of dh,UK (show(Z1.map (·.1)).length+(Z2.map (·.1)).length<=1000 by rw[UA,UA];lia) (by decide),λC hC=>?_⟩
  have eg:d≠C:=j.dk.ne hC;obtain⟨H5,eq,s5,bw⟩:=dW (.lst (Z1.map (·.1)++Z2.map (·.1))) hC
  rw[eq];have j:=j.same s5;have G:=s5 _ _ G;have I:=s5 _ _ I;have N:∀e∈Z1++Z2,nZ H5 e:=λe y=>by
   rcases UY.mp y with h | h
   ·exact(vd e h).same s5
   ·exact(ES e h).same s5
  have hZ:(Z1++Z2).map (·.2)=zs.map Sum.inl++(hv.zip bs).map Sum.inr:=by rw[UL,bi,bc]
  have c9:(Z1++Z2).length<=34:=by rw[UH];lia
  rw[<-UL]at bw;clear eq s5 vd ES bu dh hC bi bc;generalize Z1++Z2=Z at bw N hZ c9;refine⟨d,C,_,_,rfl,j.dk,by lia,.of (Zp eg.symm bw),by rw[UA];lia,λD ys H6 hD s6 dj ct U=>⟨D,rfl,⟨_,.of ct⟩,?_⟩⟩;obtain⟨J,ai,rfl⟩:=yq (·.1) U Z rfl
  obtain⟨_,c1⟩:=j.dk.lst;obtain⟨_,dm⟩:=aU j.la;obtain⟨_,_,_,_,_,_,dq,PN,A3,_⟩:=id j.lg;have nD:∀{c o},H5 c=some o->D≠c:=λ{c o} e z=>by rw[<-z,hD]at e;cases e
  have up:∀c xs,H5 c=some (.tup xs)->H6 c=some (.tup xs):=λc xs e=>s6 _ _ (by rw[ak λz=>by rw[z,c1]at e;cases e];exact e);have N:∀e∈Z,nZ H6 e:=λe y=>(N e y).tup up;have G:=up _ _ G;have I:=up _ _ I;have a8:D≠d/\D≠g/\D≠pa/\D≠tb/\D≠A.ar:=⟨nD c1,nD dq,nD PN,nD A3,nD dm⟩;have j:=j.pick s6 (dj.mono (show n+(Z.map (·.1)).length<=n+40 by rw[UA];lia))
  clear nD up hD s6 dj bw c1 dm dq PN A3 U;obtain⟨_,da⟩:=j.dk.lst;obtain⟨_,dn⟩:=aU j.la;obtain⟨_,_,_,_,_,_,dg,Ll,yb,_⟩:=id j.lg;have hK:Kp A.ar d g pa tb (lS A.ar d g pa tb H6) H6:=Lk;have kt:∀c xs,H6 c=some (.tup xs)->lS A.ar d g pa tb H6 c=some (.tup xs):=λc xs e=>E7 e da dg Ll yb dn;have kD:lS A.ar d g pa tb H6 D=some (.lst (J.map (·.1))):=by
   rw[uN a8.1 a8.2.1 a8.2.2.1 a8.2.2.2.1 a8.2.2.2.2];exact ct
  have kN:lS A.ar d g pa tb H6 NV=some (.lst [.ref t1,.ref t2]):=by
   rw[uN j.dd.2.2.2.1.symm j.ng j.np j.nt j.nP.2.2.2];exact j.lf
  have bb:Den K (lS A.ar d g pa tb H6) (.ref NV) (be zV):=K7 kN (kt _ _ G) (kt _ _ I);have c0:∀e∈J,nZ (lS A.ar d g pa tb H6) e:=λe y=>(N e (ai.mem_iff.mp y)).tup kt;have Ux:J.length<=34:=by rw[ai.length_eq];exact c9
  have ea:∀e∈J,(∃z,e.2 = .inl z/\z∈zs)\/∃q,e.2 = .inr q/\q∈hv.zip bs:=λe y=>Qv hZ (ai.mem_iff.mp y);have d1:=NJ hZ;have c6:=Oa hZ;have Q9:(hv.zip bs).map (·.2)=bs:=by
   rw[WZ];lia
  rw[Q9]at c6;have SA:(J.filterMap lnO).Perm (zs.map λz=>((7:Int),z)):=by rw[<-d1];exact ai.filterMap _
  have La:(J.filterMap hdO).Perm bs:=by rw[<-c6];exact ai.filterMap _
  have Ck:∀(v:fc) (i p:Nat),Lp v J O F i p->∀b∈v.cur.bs,b∈bs:=λv i p h b hb=>by
   have h1:=h.bs.mem_iff.mp hb;rw[<-La.mem_iff];exact((WU i J).filterMap hdO).mem h1
  have Q4:∀(v:fc) (i p:Nat),Lp v J O F i p->v.cur.bs.length<=4:=λv i p h=>by
   have h1:=h.bs.length_eq;have h2:=((WU i J).filterMap hdO).length_le;have h3:=La.length_eq;lia
  have cz:Lp ⟨O,F,cur,cur,[],[]⟩ J O F 0 0:=⟨rfl,rfl,e1,by show cur.bs.Perm [];rw[e2],by show lB cur.bs;rw[e2];exact List.Pairwise.nil,UU _⟩;clear kt kN da dn dg Ll yb a8 G I N ai hZ c9 d1 c6 Q9 ct;generalize lS A.ar d g pa tb H6=Bk at hK kD bb c0;refine iM (K:=K) (xs:=J.map (·.1)) (λi σ H5=>(∃u6,σ=[some (.ref d),some (.ref SV),some (.ref L),some (.ref HD),some (.ref g),some (.ref NV),u6])/\∃(Bi:Hp) (tb:Za) (v:fc),Mi K A H d g pa NV (n+40+83 * i) [.ref t1,.ref t2] Bi tb v H5/\Kp A.ar d g pa tb Bk H5/\Lp v J O F i (3 * i)) ⟨⟨_,rfl⟩,B1,tb,_,j,hK,cz⟩ (λi σ H5 _ q=>.of (let ⟨_,_,_,_,_,h,_⟩:=q;h.sB _ _ kD)) (λi x σ H5 hx q=>?_) (λσ H5 q=>?_)
  ·clear j hK cz;obtain⟨q0,Bi,tb,v,j,hK,l⟩:=q;apply cU q0;clear q0;intro u6;rw[UI]at hx;obtain⟨e,y,rfl⟩:=Option.map_eq_some_iff.mp hx;have hi:=aH y;have c8:=UC y;have ah:=l.pl;have a9:=l.rl;have HF:=Q4 v _ _ l;apply j6 (λH7=>∃(Bi:Hp) (tb:Za) (v:fc),Mi K A H d g pa NV (n+40+83 * i) [.ref t1,.ref t2] Bi tb v H7/\Kp A.ar d g pa tb Bk H7/\Lp v J O F (i+1) (3 * i+1)/\v.tbk=[]/\∃F r0 b0,v.past=F++[(r0,b0)]/\FA (r0,b0))
   case f=>
    intro rest;obtain⟨Y,c4,cb,cy,S⟩:=j.lg.gg;have yp:=j.lg.okc.held;rcases ea e c8 with⟨z,ez,hz⟩ | ⟨q,ez,hq⟩
    ·obtain⟨f1,f2,tx,ext,htx⟩:=Nm (c0 e c8) ez;have b7:=hK.sB _ _ htx;refine⟨_,rfl,tx,_,0,_,ext,rfl,.of b7,rfl,rfl,_,rfl,cq ?_⟩;refine⟨_,rfl,g,Y,_,rfl,S,rfl,_,rfl,tx,_,1,_,ext,rfl,.of b7,rfl,Bi,g,pa,tb,v,7,z,rfl,j.lg,j.dd.2.2.2.2.2.2,e8 z hz,by lia,l.m7,by lia,j.la,λH9 B9 cc FR s9 cg b4 a5 B e1 e2 Ib=>?_⟩;refine rest _ ⟨B9,cc,_,j.um s9 cg b4 B Ib,hK.um s9 b4,⟨l.vs,l.vl,?_,?_,?_,?_⟩,rfl,_,_,_,rfl,yp⟩
     ·show FR.rs=_;rw[e1,l.rs,UX,y,Vu,DN f1]
     ·show FR.bs.Perm _;rw[e2,UX,y,Vu,Ei f2,Vd];exact l.bs
     ·show lB FR.bs;rw[e2];exact l.ko
     ·show(v.past++[_]).length<=_;rw[UH,UQ];lia
    ·obtain⟨f1,f2,tx,ext,htx⟩:=Nw (c0 e c8) ez;have b7:=hK.sB _ _ htx;obtain⟨cx,c2⟩:=KI PM hq;refine⟨_,rfl,tx,_,0,_,ext,rfl,.of b7,rfl,rfl,_,rfl,?_⟩;rw[Zl (by intro z;injection z with z;exact absurd z (by decide +kernel))];refine br ?_;have ba:q.2∉v.cur.bs:=λz=>by
      have h1:=l.bs.mem_iff.mp z;have h2:(J.filterMap hdO).Nodup:=La.nodup_iff.mpr eh;rw[<-We i J,Vu,VE]at h2;refine h2.2.2 _ h1 _ (Wc.mpr ⟨e,UC (i:=0) ?_,f2⟩) rfl;rw[List.getElem?_drop,Nat.add_zero];exact y
     refine⟨_,rfl,g,Y,_,rfl,S,rfl,_,rfl,tx,_,1,_,ext,rfl,.of b7,rfl,Bi,g,pa,tb,v,_,q.2,rfl,j.lg,j.dd.2.2.2.2.2.2,cx.same j.sB,(bk _ c2).1,(bk _ c2).2.1,(bk _ c2).2.2,ba,by lia,by lia,j.la,λH9 B9 cc FR s9 cg b4 a5 B e1 U hk Ib=>?_⟩;refine rest _ ⟨B9,cc,_,j.um s9 cg b4 B Ib,hK.um s9 b4,⟨l.vs,l.vl,?_,?_,hk,?_⟩,rfl,_,_,_,rfl,yp⟩
     ·show FR.rs=_;rw[e1,l.rs,UX,y,Vu,Ei f1,Vd]
     ·show FR.bs.Perm _;rw[UX,y,Vu,DN f2];exact U.trans (l.bs.append_right _)
     ·show(v.past++[_]).length<=_;rw[UH,UQ];lia
   clear j hK l ah a9 HF;rintro H7 ⟨Bi,tb,v,j,hK,l,bl,l1,r1,b1,mV,xc⟩;have ah:=l.pl;have a9:=l.rl;refine⟨_,rfl,d,5,_,rfl,j.dk,by lia,by decide,by decide,λr H8 s8 X r0 r1=>⟨rfl,_,rfl,?_⟩⟩;have j:=j.pick s8 X;have hK:=hK.pick s8;clear s8 X;apply j6 (λH9=>∃(Bi:Hp) (tb:Za) (v:fc),Mi K A H d g pa NV (n+40+83 * i+81) [.ref t1,.ref t2] Bi tb v H9/\Kp A.ar d g pa tb Bk H9/\Lp v J O F (i+1) (3 * i+1)/\v.tbk.length<=1/\∃F r0 b0,v.past=F++[(r0,b0)]/\FA (r0,b0))
   case f=>
    intro rest;refine uX (λ_=>?_) (λ_=>rest _ ⟨Bi,tb,v,{ j with dk:=j.dk.mono (by lia) },hK,l,by rw[bl];exact UU _,l1,_,b1,mV,xc⟩);obtain⟨Y,c4,cb,cy,S⟩:=j.lg.gg;refine⟨_,rfl,g,Y,_,rfl,S,rfl,_,rfl,d,3,_,rfl,j.dk,by lia,by decide,by decide,λz ws H9 s9 ei bg=>?_⟩;have j:=j.pick s9 ei;have hK:=hK.pick s9;have yp:=j.lg.okc.held;refine⟨Bi,g,pa,tb,v,7,z,rfl,j.lg,j.dd.2.2.2.2.2.2,⟨ws,bg.1,bg.pos,UK bg.le (by decide),bg.wd⟩,by lia,l.m7,by lia,j.la,λe4 cs J8 Qf b6 GO GJ a5 B e1 e2 Dl=>?_⟩;have j:=j.um b6 GO GJ B Dl;have hK:=hK.um b6 GJ;obtain⟨b2,dc,e0,d6,as⟩:=j.lg.gg;refine⟨_,rfl,g,b2,_,rfl,as,rfl,cs,g,pa,J8,_,v.past,v.cur.rs,v.cur.bs,rfl,j.lg,j.dd.2.2.2.2.2.2,rfl,yp,UU _,j.la,λdw bt xU a0 AB a5 B e1 e2 uW=>?_⟩;refine rest _ ⟨bt,J8,_,j.back a0 AB B uW,hK.back a0,⟨l.vs,l.vl,e1.trans l.rs,by show xU.bs.Perm _;rw[e2];exact l.bs,by show lB xU.bs;rw[e2];exact l.ko,l.pl⟩,UD _,l1,_,b1,mV,xc⟩
   clear j hK l ah a9 bl mV xc l1 b1 r1;rintro H9 ⟨Bi,tb,v,j,hK,l,bl,l1,q1,b1,mV,xc⟩;have ah:=l.pl;have a9:=l.rl;refine⟨_,rfl,d,6,_,rfl,j.dk,by lia,by decide,by decide,λr H8 s8 X r0 r1=>⟨rfl,_,rfl,?_⟩⟩;have j:=j.pick s8 X;have hK:=hK.pick s8;clear s8 X;apply j6 (λH9=>∃(Bi:Hp) (tb:Za) (v:fc),Mi K A H d g pa NV (n+40+83 * i+82) [.ref t1,.ref t2] Bi tb v H9/\Kp A.ar d g pa tb Bk H9/\Lp v J O F (i+1) (3 * i+1))
   case f=>
    intro rest;refine uX (λ_=>?_) (λ_=>rest _ ⟨Bi,tb,v,j,hK,l⟩);obtain⟨Y,c4,cb,cy,S⟩:=j.lg.gg;have yp:=j.lg.okc.held;refine⟨_,rfl,g,Y,_,rfl,S,rfl,Bi,g,pa,tb,v,l1,q1,b1,rfl,j.lg,j.dd.2.2.2.2.2.2,mV,xc,by lia,j.la,λdw bt xU a0 AB a5 B e1 e2 uW=>?_⟩;have j:=j.back a0 AB B uW;have hK:=hK.back a0;have RV:=congrArg YV mV;rw[UH,UQ]at RV;obtain⟨b2,dc,e0,d6,as⟩:=j.lg.gg;refine⟨_,rfl,g,b2,_,rfl,as,rfl,bt,g,pa,tb,_,v.tbk,v.cur.rs,v.cur.bs,rfl,j.lg,j.dd.2.2.2.2.2.2,rfl,yp,by show l1.length<=_;lia,j.la,λ_ ed Mu dv wa a5 B cn az NQ=>?_⟩;refine rest _ ⟨ed,tb,_,j.back dv wa B NQ,hK.back dv,⟨l.vs,l.vl,cn.trans l.rs,by show Mu.bs.Perm _;rw[az];exact l.bs,by show lB Mu.bs;rw[az];exact l.ko,?_⟩⟩;show(l1++[_]).length<=_;rw[UH,UQ];lia
   clear j hK l ah a9 bl mV xc l1 b1 q1;rintro H9 ⟨Bi,tb,v,j,hK,l⟩;have ah:=l.pl;have a9:=l.rl;have HF:=Q4 v _ _ l;refine⟨_,rfl,d,6,_,rfl,j.dk,by lia,by decide,by decide,λr H8 s8 X r0 r1=>⟨rfl,_,rfl,?_⟩⟩;have j:=j.pick s8 X;have hK:=hK.pick s8;clear s8 X;have oH:∀{Bi:Hp}{tb:Za}{v:fc}{H9:Hp},Mi K A H d g pa NV (n+40+83 * i+83) [.ref t1,.ref t2] Bi tb v H9->Kp A.ar d g pa tb Bk H9->Lp v J O F (i+1) (3 * i+3)->∃(Bi:Hp) (tb:Za) (v:fc),Mi K A H d g pa NV (n+40+83 * (i+1)) [.ref t1,.ref t2] Bi tb v H9/\Kp A.ar d g pa tb Bk H9/\Lp v J O F (i+1) (3 * (i+1)):=λh1 h2 h3=>⟨_,_,_,{ h1 with dk:=h1.dk.mono (by lia) },h2,{ h3 with pl:=by have:=h3.pl;lia }⟩;refine uX (λ_=>?_) (λ_=>br ⟨⟨_,rfl⟩,oH j hK { l with pl:=by lia }⟩);refine⟨_,rfl,_,rfl,_,_,.lst (j.sB.seq NZ) (PM.same j.sB),bb.same hK.sB,UK (dP _) (by decide),_,rfl,?_⟩;have vd:∀p∈zV,p.ok:=λp U=>(IJ p U).okP.1;rw[Zn rfl,pM (λq hq p U=>((bk q hq).1 p U).okP.1) vd];by_cases cv:zV∈bs
   ·rw[Zk cv];exact br ⟨⟨_,rfl⟩,oH j hK { l with pl:=by lia }⟩
   ·rw[Zl cv];have ba:zV∉v.cur.bs:=λz=>cv (Ck v _ _ l _ z);obtain⟨Y,c4,cb,cy,S⟩:=j.lg.gg;refine cq ⟨_,rfl,g,Y,_,rfl,S,rfl,_,rfl,Bi,g,pa,tb,v,.ref NV,zV,rfl,j.lg,j.dd.2.2.2.2.2.2,bb.same hK.sB,IJ,(by decide),(by decide),ba,by lia,by lia,j.la,λe4 cs J8 Qf b6 GO GJ a5 B e1 U hk Dl=>?_⟩;have j:=j.um b6 GO GJ B Dl;have hK:=hK.um b6 GJ;obtain⟨b2,dc,e0,d6,as⟩:=j.lg.gg;refine⟨_,rfl,g,b2,_,rfl,as,rfl,_,rfl,cs,g,pa,J8,_,.ref NV,zV,rfl,j.lg,j.dd.2.2.2.2.2.2,bb.same hK.sB,vd,U.mem_iff.mpr (UY.mpr (.inr (UG.mpr rfl))),?_,j.la,λdw bt _ xU a0 AB OG a5 B cn az uW=>?_⟩
    ·show(v.past++[_]).length<=_;rw[UH,UQ];lia
    refine⟨⟨_,rfl⟩,oH (j.um a0 AB OG B uW) (hK.um a0 OG) ⟨l.vs,l.vl,?_,?_,?_,?_⟩⟩
    ·exact(cn.trans e1).trans l.rs
    ·show xU.bs.Perm _;rw[az];exact(HZ U ba).trans l.bs
    ·show lB xU.bs;rw[az];exact List.Pairwise.filter _ hk
    ·show((v.past++[_])++[_]).length<=_;rw[UH,UH,UQ,UQ];lia
  ·clear j hK cz;obtain⟨q0,Bi,tb,v,j,hK,l⟩:=q;apply cU q0;clear q0;intro u6;have d2:=l.rs;have dp:=l.bs;rw[UA,Vl]at d2 dp;exact⟨_,rfl,k H5 Bi g pa tb v j.sB j.la l.vs l.vl (by rw[d2];exact SA) (dp.trans La) l.ko j.lg⟩
def qH (K:Xz) (A:Ad):Sp:=λvs H Q _=>∃(B:Hp) (g pa tb:Za) (v:fc),vs=[.ref g]/\bA K A.aX A.aL B H g pa tb v /\
 ∀(X PS CT:Za) (HO:V) (pv cv:Uj) (hs:List (List (List (Str×Nat)))) (H':Hp),af H H'->H' X=some (.lst [.ref PS,.ref CT,HO])->H' PS=some (.lst pv)->aD K H' pv ((v.cur.bs++v.cur.fs).map be)->H' CT=some (.lst cv)->aD K H' cv (((v.cur.bs++v.cur.fs).map λp=>(p,cnt v.cur 0 10 p)).map cnD)->Den K H' HO (.list (hs.map BQ))->hs.length=(v.cur.bs++v.cur.fs).length->(∀(j:Nat) p ms,(v.cur.bs++v.cur.fs)[j]? = some p->hs[j]? = some ms->iy v.cur p ms)->Q (.ref X) H'
theorem p8:aC ["log","found"] ["log"] (ag (top 67)):=by refine⟨rfl,rfl,rfl,?_,rfl,?_,?_⟩<;>decide +kernel
theorem yC (T:Tx K mg A):aB P w K mg base CX0 6 A.l7 A.mI ["log"] (qH K A):=by
 have dZ:aB P w K mg base CX0 5 _ _ _ _:=MC (ie T);have yw:aB P w K mg base CX0 5 _ _ _ _:=MC (we T);have BH:aB P w K mg base CX0 5 _ _ _ _:=MC (x8 T);refine T.fY.fn.ok p8 (λvs H Q E h=>?_) (λ_ _ _ s H vs Q E hr h=>?_)
 ·obtain⟨B,g,pa,tb,v,rfl,_⟩:=h;rfl
 ·obtain⟨B,g,pa,tb,v,rfl,L,k⟩:=h;obtain⟨t,_,_,_,f⟩:=L.gg;have J:=L.okc;have U:=J.bl;have I:=J.gth.lt;refine⟨_,aj (bh (i:=1) p8.nd rfl (Or.inl rfl) (dY (pv 0) T.aN T.ig dZ hr T.iA.bd .nil aA))
   (ao (aG (bz (aa (pv 1) (aa (d8 (pv 0) T.aN T.wc yw hr T.uH.bd .nil aA (aa au (aa au ae))) (aa (aY (N':=["pattern","log"]) (n:=1) (fi:=[0]) (g:=aZ 0) rfl (bf (ag (top 67)) ["log","found"] (by decide +kernel)) (aT (pv 1)) (λs H fp=>ay (i:=0) (show(["pattern","log"]:Uq).Nodup by decide +kernel) rfl (Or.inl rfl) (.inr rfl)) (λs H fp=>aV) (λs H fp=>d8 (pv 1) T.aN T.yh BH hr T.wL.bd .nil aA (aa (pv 0) ae))) ae)))))),?_⟩
  refine⟨_,rfl,g,t,_,rfl,f,rfl,B,g,pa,tb,v,rfl,L,λPS pv _ av s1 S m=>?_⟩;refine⟨_,rfl,_,rfl,g,t,_,rfl,s1 _ _ f,rfl,B,g,pa,tb,v,0,10,rfl,L.same s1,λCT cv H2 az s2 a8 Z=>?_⟩;have r:=s1.trans s2;have Ka:=(m.same c8).same s2;have F:=s2 _ _ S;have Ju:=L.same r;have a5:=r _ _ f;have ai:pv.length=(v.cur.bs++v.cur.fs).length:=by rw[m.length,UA]
  have Pk:(v.cur.bs++v.cur.fs).length<=128:=by rw[UH];lia
  rw[show(v.cur.bs++v.cur.fs).map (MN v.cur 0 10)=((v.cur.bs++v.cur.fs).map λp=>(p,cnt v.cur 0 10 p)).map cnD by rw[Vc];rfl]at Z;clear m S s1 s2 av az f L;refine⟨_,rfl,PS,rfl,⟨_,.of F⟩,λD hD=>?_⟩;refine aK (K:=K) (xs:=pv) (λi a σ N=>(∃u,σ=[u,some (.ref g)])/\af H2 N/\∃hs:List (List (List (Str×Nat))),hs.length=i/\aD K (wo D N) a (hs.map BQ)/\∀(j:Nat) p ms,(v.cur.bs++v.cur.fs)[j]? = some p->hs[j]? = some ms->iy v.cur p ms) ab ⟨⟨_,rfl⟩,af.new hD,[],rfl,.nil,λj p ms _ e=>by cases e⟩ (λi a σ N _ _ q=>.of (q.2.1 _ _ F)) (λi x a σ N hx C q=>?_) (λa σ N aq q=>?_)
  ·obtain⟨q0,M,hs,l,dn,G⟩:=q;apply cU q0;clear q0;intro u;obtain⟨p,hp,cx⟩:=dR Ka hx;have hi:=aH hx;have b1:a.length=hs.length:=by rw[dn.length,UA]
   refine cB ⟨_,rfl,g,t,_,rfl,M _ _ a5,rfl,_,rfl,B,g,pa,tb,v,x,p,rfl,Ju.same M,cx.same M,UC hp,λE as ms H4 hE s4 a7 _ hEn a3 W gf=>?_⟩;have O:E≠D:=(aw C hE).symm;have ar:=HN J a3;have sw:af (wo D N) (wo D (upd H4 D (.lst (a++[.ref E])))):=λc o h=>by
    have:=aJ h;rw[ak this.1,ap this.1];exact s4 _ _ this.2
   have a4:=s4 _ _ C;refine⟨a,a4,small (by lia),_,ab,⟨_,rfl⟩,ax hD (M.trans s4),hs++[ms],by rw[UH,UQ,l],?_,λj p' b0 U I=>?_⟩
   ·rw[UL];refine(dn.same sw).append (.cons (.lst (xs:=as.map V.ref) (.of (by rw[ak O,ap O];exact a7)) ?_) .nil);refine va (by rw[UA,UA,W]) λj y d hy hd=>?_;rw[UI]at hy hd;obtain⟨a1,ah,rfl⟩:=Option.map_eq_some_iff.mp hy;obtain⟨m1,Y,rfl⟩:=Option.map_eq_some_iff.mp hd;obtain⟨n1,_,ys,a6,hw⟩:=gf j a1 m1 ah Y;have a0:a1≠D:=(aw C n1).symm;refine .lst (xs:=ys) (.of (by rw[ak a0,ap a0];exact a6)) (JT (hw.mono λc _ hc=>?_) (ar m1 (UC Y)));have R:c≠D:=nn hc a4
    rw[ak R,ap R];exact hc
   ·by_cases hj:j<hs.length
    ·rw[U6 hj]at I;exact G j p' b0 U I
    ·have a9:=aH I;rw[UH,UQ]at a9;have ej:j=i:=by lia
     rw[ej]at U I;rw[Vb (by lia),l,Wi]at I;cases I;rw[hp]at U;cases U;exact a3
  ·obtain⟨_,M,hs,l,dn,G⟩:=q;refine⟨(by show 3<=Zg;decide),λX hX=>?_⟩;have sX:=af.new (o:=.lst [.ref PS,.ref CT,.ref D]) hX;have b:=M.trans sX;exact k X PS CT (.ref D) pv cv hs _ (r.trans b) ab (b _ _ F) (Ka.same b) (b _ _ a8) (Z.same b) ((Den.lst (.of aq) (dn.same aM)).same sX) (l.trans ai) G
def yO (K:Xz) (P:Za):Sp:=λvs H Q _=>∃(a:Za) (ns:List Int),vs=[.ref a]/\SqL K H a (ns.map V.int)/\ns.length<=63/\bG P H/\∀H',Q (.bl true) H'
theorem DG {lo hi:Option Int}{x:V} (h:x∈g8 xs lo hi):x∈xs:=by
 unfold g8 at h
 first
  | exact List.mem_of_mem_drop (VS h)
  | exact VS (List.mem_of_mem_drop h)
theorem Nc {a b:V}{r:Int} (h0:0<=r) (h1:r<2):atI [a,b] r=some a\/atI [a,b] r=some b:=by
 have:r=0\/r=1:=by lia
 rcases this with rfl | rfl
 ·exact .inl rfl
 ·exact .inr rfl
theorem z9 (ds:UF):Yc (.list ds) (.list [])=ds.isEmpty:=by
 cases ds <;> rfl
theorem GY (zs:Uq):(PyData.list (zs.map PyData.str)).depth<=100:=by
 refine UK (uD (n:=0) λd hd=>?_) (by decide);obtain⟨z,_,rfl⟩:=UE.mp hd;exact Qb _ _
theorem jH:aC ["script","deck","sieve","lines","hand","k","pattern","first","cell","rest"] ["script"] (ag (top 68)):=by refine⟨rfl,rfl,rfl,?_,rfl,?_,?_⟩<;>decide +kernel
theorem NA (F:Fun K "law" "law" (top 68) A.Mv A.LX) (T:Tx K mg A):aB P w K mg base CX0 27 A.Mv A.LX ["script"] (yO K A.ar):=by
 have rV:aB P w K mg base CX0 26 _ _ _ _:=MC (yP T);have zj:aB P w K mg base CX0 26 _ _ _ _:=MC (wI T);have rN:aB P w K mg base CX0 26 _ _ _ _:=MC (yC T);have vW:aB P w K mg base CX0 26 _ _ _ _:=MC (tH T);have js:aB P w K mg base CX0 26 _ _ _ _:=MC (o9 T);have yB:aB P w K mg base CX0 26 _ _ _ _:=MC (wy T);have aE:aB P w K mg base CX0 26 _ _ _ _:=MC (cD T);have i7:aB P w K mg base CX0 26 _ _ _ _:=MC (tq T);have C9:aB P w K mg base CX0 26 _ _ _ _:=MC (DT T);refine F.ok jH (λvs H Q E h=>?_) (λ_ _ _ s H vs Q E l h=>?_)
 ·obtain⟨a,O,rfl,_⟩:=h;rfl
 ·obtain⟨a,O,rfl,NR,hn,f6,k⟩:=h;refine⟨_,aj (bh (i:=1) jH.nd rfl (Or.inl rfl) (av rV l (by rfl) T.gc.mg T.gc.fn.kp T.gc.bd .nil aA (aa (bj (r:=ff K) bi (bU (r:=uh K) nv (pv 0) (bz (aa au ae))) au (λ_ _=>rfl)) (aa au ae))))
   (aj (bh (i:=2) jH.nd rfl (Or.inl rfl) (bj (r:=ff K) bi (bz (aa (av yB l (by rfl) T.kE.mg T.kE.fn.kp T.kE.bd .nil aA (aa (pv 1) ae)) (aa (bZ (aa au (aa au ae))) ae))) (iE xW (by rfl) T.LO Hv (aa (cM fX (av aE l (by rfl) T.aq.mg T.aq.fn.kp T.aq.bd .nil aA (aa (pv 1) (aa au ae))) au (aR _)) ae)) (λ_ _=>rfl)))
   (aj (bh (i:=3) jH.nd rfl (Or.inl rfl) (av zj l (by rfl) T.lE.mg T.lE.fn.kp T.lE.bd .nil aA (aa (pv 1) (aa au ae))))
   (aj (bh (i:=4) jH.nd rfl (Or.inr rfl) (bz ae))
   (aj (g9 Yx rfl (fq (by rfl) T.jB (aa (bU Cr (av aE l (by rfl) T.aq.mg T.aq.fn.kp T.aq.bd .nil aA (aa (pv 1) (aa au ae))) (iE xW (by rfl) T.LO Hv (aa (cM (r:=Jg K) (yT l) (pv 3) (bz ae) (aR _)) ae))) ae)) (ay (i:=5) jH.nd rfl (Or.inl rfl)) (aj (bh (i:=6) jH.nd rfl (Or.inl rfl) (av vW l (by rfl) T.ir.mg T.ir.fn.kp T.ir.bd .nil aA (aa (pv 1) (aa (bj (r:=ff K) bi (pv 3) (av aE l (by rfl) T.aq.mg T.aq.fn.kp T.aq.bd .nil aA (aa (pv 1) (aa (aP (r:=dU K) bg (by rfl) T.c6 Yb (aa (pv 3) ae)) ae))) (λ_ _=>rfl)) ae))))
   (ao (bx (aO (r:=Cy K true) (nL l) (pv 6) (pv 4) (by rfl)) (ao (bq (ee Y9 Yk Yl cR (pv 4) (aa (pv 6) ae)))) aS))))
   (aj (bh (i:=7) jH.nd rfl (Or.inl rfl) (av rN l (by rfl) T.fY.mg T.fY.fn.kp T.fY.bd .nil aA (aa (av js l (by rfl) T.bW.mg T.bW.fn.kp T.bW.bd .nil aA (aa (pv 1) (aa (pv 2) (aa (pv 3) (aa (pv 4) ae))))) ae)))
   (aj (g9 Yx rfl (aT (kc (r:=Hc K) tW (bU (r:=uh K) nv (kc (r:=Hc K) tW (pv 0) (lu au) (lu au)) (bz (aa au (aa au ae)))) p5 (lu au))) (ay (i:=8) jH.nd rfl (Or.inl rfl)) (ao (bx (aO (r:=Jg K) (yT l) (av rN l (by rfl) T.fY.mg T.fY.fn.kp T.fY.bd .nil aA (aa (av js l (by rfl) T.bW.mg T.bW.fn.kp T.bW.bd .nil aA (aa (av rV l (by rfl) T.gc.mg T.gc.fn.kp T.gc.bd .nil aA (aa (pv 8) (aa au ae))) (aa (pv 2) (aa (pv 3) (aa (pv 4) ae))))) ae)) (pv 7) (aR _)) (ao (aG sZ)) aS)))
   (aj (kY (i:=9) (N':=["line","hand"]) (n:=1) (fi:=[4]) (g:=aZ 0) jH.nd rfl (Or.inl rfl) rfl (bf (ag (top 68)) ["script","deck","sieve","lines","hand","k","pattern","first","cell","rest"] (by decide +kernel)) (aT (pv 3)) (λs H fp=>ay (i:=0) (show(["line","hand"]:Uq).Nodup by decide +kernel) rfl (Or.inr rfl) (.inl rfl)) (λs H fp=>dS (aO (r:=vI K) (m4 l) (aY (wi:=zZ K (rD 1)) (N':=["pattern","line"]) (n:=1) (fi:=[0]) (g:=aZ 0) rfl (tU (ag (top 68)) (by decide +kernel)) (aT (pv 1)) (λs H fp=>ay (i:=0) (show(["pattern","line"]:Uq).Nodup by decide +kernel) rfl (Or.inl rfl) (.inr rfl)) (λs H fp=>dS (cY (av C9 l (by rfl) T.fits.mg T.fits.fn.kp T.fits.bd .nil aA (aa (pv 0) (aa (pv 1) ae))))) (λs H fp=>pv 0)) (bz ae) (aR _))) (λs H fp=>pv 0))
   (aj (bx ((pw_and (aO (r:=vI K) (m4 l) (pv 2) (bZ (aa au (aa au ae))) (aR _)) (pw_and1 (aO (r:=Jg K) (yT l) (av i7 l (by rfl) T.gathered.mg T.gathered.fn.kp T.Dj (.cons (show RelV (.ref A.bN) _ from rfl) .nil) aA (aa (pv 9) ae)) (av i7 l (by rfl) T.gathered.mg T.gathered.fn.kp T.gathered.bd .nil aA (aa (pv 9) (aa (bZ (aa au (aa au ae))) ae))) (aR _)))).pt) (ao (aG sZ)) aS)
   (ao (aG (o4 (cM (r:=vI K) (m4 l) (kc (r:=Hc K) tW (bj (r:=ff K) bi (pv 7) au (λ_ _=>rfl)) (lu (aP (r:=dU K) bg (by rfl) T.c6 Yb (aa (pv 4) ae))) p5) (av i7 l (by rfl) T.gathered.mg T.gathered.fn.kp T.gathered.bd .nil aA (aa (pv 9) (aa (pv 2) ae))) (aR _)) (pF (cM fX (aP (r:=O1 K) (HV l.hd) (by rfl) T.Oz MJ (aa (aY (N':=["pattern","many"]) (n:=2) (fi:=[]) (g:=u7 K 2 (eR (aZ 0) (eR (aZ 1) vY))) rfl (bf (ag (top 68)) ["script","deck","sieve","lines","hand","k","pattern","first","cell","rest"] (by decide +kernel)) (aT (bj (r:=ff K) bi (pv 7) au (λ_ _=>rfl))) (λs H fp=>fG rfl (ba (ay (i:=0) (show(["pattern","many"]:Uq).Nodup by decide +kernel) rfl (Or.inl rfl) (.inr rfl)) (ba (ay (i:=1) (show(["pattern","many"]:Uq).Nodup by decide +kernel) rfl (Or.inl rfl) (.inr rfl)) dO))) (λs H fp=>aV) (λs H fp=>pv 1)) ae)) (aP (r:=dU K) bg (by rfl) T.c6 Yb (aa (pv 3) ae)) (aR _)))))))))))))),?_⟩
  refine⟨_,rfl,(by show 1<=Zg;decide),λp hp=>⟨a,p,_,_,rfl,rfl,(af.new hp).seq NR,.of ab,?_,λq hq=>?_⟩⟩
  ·rw[UA];exact UK (VR hn 1) (by decide)
  have sq:af H (upd (upd H p (.lst [.int 0])) q (.lst (O.map V.int++[V.int 0]))):=(af.new hp).trans (af.new hq);have dc:(upd (upd H p (.lst [.int 0])) q (.lst (O.map V.int++[V.int 0]))) q=some (.lst (O.map V.int++[V.int 0])):=ab;generalize upd (upd H p (.lst [.int 0])) q (.lst (O.map V.int++[V.int 0]))=H1 at sq dc ⊢;obtain⟨c0,gj⟩:∃c0:Int,atI (O.map V.int++[V.int 0]) 0=some (.int c0):=by
   cases O with
   | nil=>exact⟨0,rfl⟩
   | cons c r=>exact⟨c,dE (j:=0) rfl⟩
  refine⟨q,_,0,_,rfl,rfl,.of dc,gj,c0,0,rfl,by decide,λd H2 hd s2 cb=>?_⟩;have e3:=sq.trans s2;have f3:=aF f6 e3;have LN:SqL K (wo d H2) a (O.map V.int):=(bB hd s2).seq (sq.seq NR);clear dc hq hp sq hd f6 NR s2 e3;obtain⟨_,bc⟩:=cb.lst;refine⟨_,rfl,d,_,rfl,cb,by decide,λT1 fz g5 H3 e4 s3 cy d1=>?_⟩;have eo:=gv f3 bc s3;have dg:d≠T1:=cb.ne e4;have LU:SqL K (wo d H3) a (O.map V.int):=(bB bp s3).seq LN;refine⟨(by show 2<=Zg;decide),λT2 d7=>?_⟩;obtain⟨_,eq,s4,O4⟩:=dW (.tup [.int 3,.int 2]) d7;rw[eq];have M8:d≠T2:=cy.ne d7;refine⟨(by show 2<=Zg;decide),λLS d8=>?_⟩;obtain⟨_,eq,s5,ey⟩:=dW (.lst [.ref T1,.ref T2]) d8;rw[eq];have b5:=s4.trans s5;have Qh:d≠LS:=(cy.same s4).ne d8;have dh:=cy.same b5;obtain⟨_,gm⟩:=dh.lst;refine⟨_,rfl,d,3,_,rfl,dh,by decide,by decide,by decide,λr H6 s6 cu r0 r1=>?_⟩;have fu:=gv (aF eo b5) gm s6;have ek:H6 LS=_:=cH s6 ey Qh;have O2:H6 T1=_:=cH s6 (b5 _ _ d1) dg;have OY:H6 T2=_:=cH s6 (s5 _ _ O4) M8;have Md:SqL K (wo d H6) a (O.map V.int):=(bB bp s6).seq ((ji b5).seq LU);obtain⟨SV,sv,lv,bk,ez,d6⟩:∃(SV:Za) (sv lv:Int),atI [V.ref T1,V.ref T2] (if decide (V.int r=V.int 0)=true then 1 else 0)=some (.ref SV)/\H6 SV=some (.tup [.int sv,.int lv])/\d≠SV:=by
   rcases Nc (a:=V.ref T1) (b:=V.ref T2) (r:=if decide (V.int r=V.int 0)=true then 1 else 0) (by split <;> lia) (by split <;> lia)with e | e
   ·exact⟨T1,fz,g5,e,O2,dg⟩
   ·exact⟨T2,3,2,e,OY,M8⟩
  refine⟨rfl,.inr ⟨_,rfl,LS,_,_,_,rfl,rfl,.of ek,bk,?_⟩⟩;clear bk ek O2 OY O4 ey d1 LU eo cy bc cb f3 s3 LN Qh dg M8 eq b5 d8 d7 e4 s5 s4 dh;obtain⟨_,ej⟩:=cu.lst;refine⟨_,rfl,d,30,_,rfl,cu,by decide,by decide,by decide,λL zs H7 hL s7 cw cc ah f7=>?_⟩;have fo:zs.length<=30:=f7;have di:=gv fu ej s7;have cg:H7 SV=_:=cH s7 ez d6;have LV:SqL K (wo d H7) a (O.map V.int):=(bB bp s7).seq Md;have ed:d≠L:=cu.ne hL;obtain⟨_,Ab⟩:=aU di;obtain⟨_,df⟩:=cw.lst;have c5:d≠A.ar:=nn df Ab
  have e5:L≠A.ar:=nn cc Ab
  have et:SV≠A.ar:=nn cg Ab
  have F5:SqL K (wo d (wo A.ar H7)) a (O.map V.int):=by
   refine af.seq (λc o e=>?_) (qL (P:=A.ar) (Zp c5.symm Ab) LV);obtain⟨a1,e⟩:=aJ e;obtain⟨a2,e⟩:=aJ e;rw[ak a2,ak a1];exact e
  have hV:(wo d (wo A.ar H7)) d=none/\(wo d (wo A.ar H7)) A.ar=none:=⟨bp,by rw[ak c5.symm,bp]⟩;have b4:(wo d (wo A.ar H7)) L=some (.lst (zs.map V.str)):=by rw[ak ed.symm,ak e5];exact cc
  have dy:(wo d (wo A.ar H7)) SV=some (.tup [.int sv,.int lv]):=by rw[ak d6.symm,ak et];exact cg
  have c9:af (wo d (wo A.ar H7)) H7:=aM.trans aM;generalize wo d (wo A.ar H7)=V9 at hV b4 dy c9 F5;clear hL LV Md fu s7 ez f7 ej Ab df cg cu et s6;refine⟨UU _,λHD d3=>?_⟩;have ai:d≠HD:=cw.ne d3;have f5:V9 HD=none:=c9.free d3;obtain⟨_,eq,sH,Pr⟩:=dW (.lst []) d3;rw[eq];have Jy:=cw.same sH;obtain⟨yd,cm⟩:=Jy.lst;refine⟨_,rfl,d,4,_,rfl,Jy,by lia,by decide,by decide,λcn H11 d2 Lz _ _=>?_⟩;have AB:=gv (aF di sH) cm d2;have OU:H11 HD=_:=cH d2 Pr ai;have Od:af V9 H11:=λc o e=>d2 _ _ (by rw[ak λz=>by rw[z,hV.1]at e;cases e];exact sH _ _ (c9 _ _ e));have RJ:∀z∈zs,Y1 z=true:=λz hz=>by
   obtain⟨_,h⟩:=ah z hz;exact(h.ok (by decide)).1
  refine⟨_,rfl,UU _,λE hE=>?_⟩;have sE:=af.new (o:=.lst []) hE;refine⟨_,_,.lst (.of (sE _ _ (Od _ _ b4))) (jY RJ),.lst (.of ab) .nil,GY _,.inr ⟨_,rfl,_,_,rfl,rfl,.inl ⟨by lia,by lia⟩,?_⟩⟩;rw[z9];have yf:=sE _ _ OU;have Na:=Od.trans sE;have wa:=aF AB sE;have Aw:=Lz.same sE;generalize upd H11 E (.lst [])=H12 at yf Na wa Aw ⊢;clear sE hE Od OU AB d2 cm Pr sH eq Jy d3 Lz;obtain⟨m,hm,fy,fm⟩:∃m:Nat,cn * (if (!(zs.map PyData.str).isEmpty)=true then 1 else 0)=(m:Int)/\m<4/\(0<m->0<zs.length):=by
   cases hz:zs with
   | nil=>exact⟨0,by simp,by decide,λh=>absurd h (by decide)⟩
   | cons x r=>exact⟨cn.toNat,by simp;lia,by lia,λ_=>by simp⟩
  refine⟨(m:Int),congrArg (λz=>[V.int z]) hm,by lia,by lia,?_⟩;refine rA (λj t H12=>∃(u5 u6:Option V) (hv:Uj) (bs:Uh),t=[some (.ref a),some (.ref d),some (.ref SV),some (.ref L),some (.ref HD),u5,u6,none,none,none]/\af V9 H12/\bG A.ar H12/\Dk H12 d (3000+100 * j)/\H12 HD=some (.lst hv)/\aD K (wo HD (wo d H12)) hv (bs.map be)/\bs.Nodup/\nY bs/\bs.length<=j) ⟨none,none,[],[],rfl,Na,wa,Aw.mono (by lia),yf,.nil,Wh,(λq hq=>by cases hq),UD _⟩ (λj t H12 hj q=>?_) (λt H12 q=>?_)
  ·obtain⟨u5,u6,hv,bs,rfl,bt,wa,Aw,yf,ET,a7,D,fg⟩:=q;have hg:j<4:=by lia
   have ha:0<zs.length:=fm (by lia);have dq:hv.length=bs.length:=by rw[ET.length,UA]
   have Ta:=bt _ _ b4;refine⟨_,rfl,_,rfl,_,rfl,_,rfl,L,_,rfl,.inl (.of Ta),d,((zs.map V.str).length:Int),_,rfl,Aw,by lia,by rw[UA];lia,by rw[UA];lia,λr H13 a6 GQ r0 r1=>?_⟩;rw[UA]at r1;obtain⟨i,rfl⟩:∃i:Nat,r=(i:Int):=⟨r.toNat,(Int.toNat_of_nonneg r0).symm⟩;have hi:i<zs.length:=by lia
   have bk:atI (zs.map V.str) (i:Int)=some (.str zs[i]):=by
    refine dE ?_;rw[UI,UB hi];rfl
   have fv:zs[i]∈zs:=Vh hi;generalize zs[i]=y at bk fv;obtain⟨yd,cm⟩:=Aw.lst;have Lo:=gv wa cm a6;have IU:af V9 H13:=λc o e=>a6 _ _ (by rw[ak λz=>by rw[z,hV.1]at e;cases e];exact bt _ _ e);have OE:H13 HD=_:=cH a6 yf ai;obtain⟨wq,bu⟩:=ah y fv;have ep:=bu.ok (by decide);have hc:=ep.2;refine⟨L,_,(i:Int),_,rfl,rfl,.of (IU _ _ b4),bk,d,y,_,rfl,GQ,by lia,by lia,ep.1,λF H14 ps hF a0 N8 _ dj _ cx=>?_⟩;obtain⟨_,PK⟩:=GQ.lst;have Gr:=gv Lo PK a0;have Ra:af V9 H14:=λc o e=>a0 _ _ (by rw[ak λz=>by rw[z,hV.1]at e;cases e];exact IU _ _ e);have Hq:H14 HD=_:=cH a0 OE ai;have ew:∀{Ha Hb:Hp},af (wo d Ha) Hb->af (wo HD (wo d Ha)) (wo HD (wo d Hb)):=λ{Ha Hb} s c o e=>by
    obtain⟨h1,e⟩:=aJ e;have:=aJ e;rw[ak h1,ak this.1];exact s _ _ e
   have MM:=ET.same ((ew a6).trans (ew a0));have sP:af (lim H13 H14) (wo HD (wo d H14)):=λc o e=>by
    have hn:=jq e;rw[bO hn]at e;rw[ak (λz=>hn _ (by rw[z];exact OE)),ak (λz=>hn _ (by rw[z];exact PK))];exact e
   have LR:=cx.same sP;rw[bu.split]at dj;have QK:PW ps:=Aa bu.wd dj;have fj:ps.length=wq.length:=dj.1;have h7:=bu.pos;have h8:=bu.le;have gi:ps≠[]:=λe=>by rw[e]at fj;simp at fj;lia
   have vd:∀p∈ps,p.ok:=λp hp=>(QK p hp).okP.1;have ES:∀q∈bs,∀p∈q,p.ok:=λq hq p hp=>((D q hq).1 p hp).okP.1;have sU:af (wo HD (wo d H14)) H14:=aM.trans aM;have L3:Dk H14 d (3000+100 * (j+1)):=N8.mono (by lia);refine⟨_,rfl,_,rfl,_,_,.lst (.of Hq) (MM.same sU),LR.same sU,UK (dP _) (by decide),_,rfl,?_⟩;rw[Zn rfl,pM ES vd];by_cases Ck:ps∈bs
   ·rw[Zk Ck];exact br ⟨_,_,hv,bs,rfl,Ra,Gr,L3,Hq,MM,a7,D,Nat.le_succ_of_le fg⟩
   ·rw[Zl Ck];refine cq ⟨_,rfl,.inl ⟨rfl,_,.of Hq⟩,_,rfl,HD,hv,_,rfl,rfl,Hq,small (by lia),_,_,hv++[.ref F],bs++[ps],rfl,ax f5 Ra,jn Gr Hq,L3.upd ai,ab,?_,?_,λq hq=>?_,?_⟩
    ·rw[UL];have sC:af (wo HD (wo d H14)) (wo HD (wo d (upd H14 HD (.lst (hv++[.ref F]))))):=λc o e=>by
      obtain⟨h1,e⟩:=aJ e;obtain⟨h2,e⟩:=aJ e;rw[ak h1,ak h2,ap h1];exact e
     exact(MM.same sC).append (.cons (LR.same sC) .nil)
    ·rw[VE];exact⟨a7,by simp,λx hx y hy e=>Ck (by rw[UG.mp hy]at e;rw[<-e];exact hx)⟩
    ·rcases UY.mp hq with hq | hq
     ·exact D q hq
     ·rw[UG.mp hq];exact⟨QK,gi,by lia⟩
    ·rw[UH,UQ];lia
  obtain⟨u5,u6,hv,bs,rfl,bt,wa,Aw,yf,ET,a7,D,fg⟩:=q;have HF:bs.length<=4:=by lia
  have dq:hv.length=bs.length:=by rw[ET.length,UA]
  have L9:Dk H12 d 4000:=Aw.mono (by lia);obtain⟨_,Cq⟩:=aU wa;have d5:HD≠A.ar:=nn yf Cq
  have bw:af V9 (wo d (wo A.ar H12)):=λc o e=>by
   rw[ak (nn e hV.1),ak (nn e hV.2)];exact bt _ _ e
  have d4:(wo d (wo A.ar H12)) HD=some (.lst hv):=by rw[ak ai.symm,ak d5];exact yf
  have cz:aD K (wo d (wo A.ar H12)) hv (bs.map be):=by
   refine(fO (P:=A.ar) (Zq d5.symm c5.symm Cq) ET).same λc o e=>?_;obtain⟨a1,e⟩:=aJ e;obtain⟨a2,e⟩:=aJ e;obtain⟨a3,e⟩:=aJ e;rw[ak a3,ak a1];exact e
  have ct:=bw _ _ b4;have cs:=bw _ _ dy;have Hm:=bw.seq F5;have b2:af (wo d (wo A.ar H12)) (wo d H12):=λc o e=>by
   obtain⟨a1,e⟩:=aJ e;obtain⟨a2,e⟩:=aJ e;rw[ak a1];exact e
  refine⟨_,rfl,_,rfl,_,rfl,_,rfl,d,SV,L,HD,4000,sv,lv,zs,hv,bs,rfl,L9,by decide,.of (b2 _ _ cs),.of (b2 _ _ ct),.of (b2 _ _ d4),cz.same b2,fo,ah,a7,HF,D,wa,λH13 B g pa tb v a6 Lo es el er eb ko lg=>?_⟩;have b3:v.cur.Ok sv lv:=by rw[<-es,<-el];exact lg.okc
  refine⟨B,g,pa,tb,v,rfl,lg,λX PS CT HO pv cv hs H14 a0 Qs QQ fa QZ en fl gz fx=>?_⟩;have LD:=a6.trans a0;have Gr:=aF Lo a0;generalize wo d (wo A.ar H12)=U at d4 cz ct cs Hm LD b2 bw a6;clear b2 bw a6 a0 Lo lg es el L9 Aw Cq d5 yf ET wa bt hm fm fy b4 dy hV c9 F5 Na cw di cc f5 ai ed c5 e5 d6;refine⟨_,rfl,(1:Int),rfl,(3:Int),rfl,a,_,rfl,LD.seq Hm,λZ1 e8=>⟨(by show 2<=Zg;decide),λZ2 fh=>?_⟩⟩;have f9:=af.new (o:=.lst (g8 (O.map V.int) (some 1) (some 3))) e8;have dw:=af.new (o:=.lst [.int 0,.int 1]) fh;have fw:∀x∈g8 (O.map V.int) (some 1) (some 3)++[.int 0,.int 1],∃c:Int,x = .int c:=λx hx=>by
   rcases UY.mp hx with hx | hx
   ·obtain⟨c,_,rfl⟩:=UE.mp (DG hx);exact⟨c,rfl⟩
   ·rcases UR.mp hx with h | h
    ·exact⟨0,h⟩
    ·exact⟨1,UG.mp h⟩
  refine⟨Z1,Z2,_,_,rfl,rfl,.of (dw _ _ ab),.of ab,?_,λZ3 fk=>⟨(2:Int),rfl,Z3,_,rfl,.of ab,λZ hZ=>⟨Z,rfl,⟨_,.of ab⟩,?_⟩⟩⟩
  ·refine UK (VR (sN _ _ _) _) ?_;rw[UA];exact UK (VR hn 2) (by decide)
  have J:=((f9.trans dw).trans (af.new (o:=.lst (g8 (O.map V.int) (some 1) (some 3)++[.int 0,.int 1])) fk)).trans (af.new (o:=.lst (g8 (g8 (O.map V.int) (some 1) (some 3)++[.int 0,.int 1]) none (some 2))) hZ);have dr:∀x∈g8 (g8 (O.map V.int) (some 1) (some 3)++[.int 0,.int 1]) none (some 2),∃c:Int,x = .int c:=λx hx=>fw x (DG hx);generalize OJ:upd _ Z _=H18 at J ⊢;have Om:H18 Z=some (.lst (g8 (g8 (O.map V.int) (some 1) (some 3)++[.int 0,.int 1]) none (some 2))):=by rw[<-OJ];exact ab
  clear OJ fw f9 dw fk fh e8 hZ;generalize g8 (g8 (O.map V.int) (some 1) (some 3)++[.int 0,.int 1]) none (some 2)=cells at dr Om ⊢;have Nj:=aF Gr J;obtain⟨_,pA⟩:=aU Nj;have HI:=LD.trans J;have a5:∀{c:Za}{ys:Uj},H18 c=some (.lst ys)->wo A.ar H18 c=some (.lst ys):=λ{c ys} e=>by rw[ak λz=>by rw[z,pA]at e;cases e];exact e
  have du:∀{c:Za}{ys:Uj},H18 c=some (.tup ys)->wo A.ar H18 c=some (.tup ys):=λ{c ys} e=>by rw[ak λz=>by rw[z,pA]at e;cases e];exact e
  have cp:wo A.ar H18 A.ar=none:=bp;have dv:=a5 Om;have ck:=a5 (J _ _ Qs);have K5:=a5 (J _ _ QQ);have J6:=a5 (J _ _ QZ);have aw:=a5 (HI _ _ ct);have b1:=a5 (HI _ _ d4);have c7:=du (HI _ _ cs);have Ln:=fO pA (fa.same J);have Ky:=fO pA (en.same J);have Ki:=fO pA (cz.same HI);have dt:=zp pA (fl.same J);have N2:af (wo A.ar H18) H18:=aM;generalize wo A.ar H18=W at cp dv ck K5 J6 aw b1 c7 Ln Ky Ki dt N2 a5 du;clear a5 du Om J HI LD d4 cz ct cs Hm fa en fl Qs QQ QZ Gr pA;refine iM (K:=K) (xs:=cells) (λi t az=>(∃u1 u5 u6 u8,t=[some (.ref a),u1,some (.ref SV),some (.ref L),some (.ref HD),u5,u6,some (.ref X),u8,none])/\af W az/\bG A.ar az) ⟨⟨_,_,_,_,rfl⟩,N2,Nj⟩ (λi t az _ q=>.of (q.2.1 _ _ dv)) (λi x t az hx q=>?_) (λt az q=>?_)
  ·obtain⟨c,rfl⟩:=dr x (UC hx);obtain⟨q0,M,Kz⟩:=q;apply OA q0;clear q0;intro u1 gs gw u8;refine⟨_,rfl,c,930,rfl,by decide,λe H20 he G RK=>?_⟩;have eg:W e=none:=M.free he;have cj:af W (wo e H20):=bB eg (M.trans G);refine⟨_,rfl,_,rfl,_,rfl,e,SV,L,HD,930,sv,lv,zs,hv,bs,rfl,RK,by decide,.of (cj _ _ c7),.of (cj _ _ aw),.of (cj _ _ b1),Ki.same cj,fo,ah,a7,HF,D,aF Kz G,λH21 B2 g2 gx gy v2 a9 Cp h5 gq gg gp gh eu=>?_⟩;have RG:v2.cur.Ok sv lv:=by rw[<-h5,<-gq];exact eu.okc
   have Rh:af W H21:=(bB eg (bB cp (M.trans G))).trans a9;refine⟨B2,g2,gx,gy,v2,rfl,eu,λ_ _ _ _ _ _ e0 H22 S hX2 gu Ka g4 S0 Rp RL Sj=>?_⟩;obtain⟨t1,t2,t3⟩:=EN RG b3 (gp.trans eb.symm) gh ko (gg.trans er.symm) RL Sj gz fx;have BZ:=Rh.trans S;have ht:ux (v2.cur.bs++v2.cur.fs) ((v2.cur.bs++v2.cur.fs).map λp=>(p,cnt v2.cur 0 10 p)) e0=ux (v.cur.bs++v.cur.fs) ((v.cur.bs++v.cur.fs).map λp=>(p,cnt v.cur 0 10 p)) hs:=by rw[t2,t3,t1]
   refine⟨_,rfl,ux _ _ e0,ux _ _ hs,.lst (.of hX2) (.cons (.lst (.of gu) Ka) (.cons (.lst (.of g4) S0) (.cons Rp .nil))),.lst (.of (BZ _ _ ck)) (.cons (.lst (.of (BZ _ _ K5)) (Ln.same BZ)) (.cons (.lst (.of (BZ _ _ J6)) (Ky.same BZ)) (.cons (dt.same BZ) .nil))),IL _ _ _,_,rfl,?_⟩;rw[ht,Ey];exact br ⟨⟨_,_,_,_,rfl⟩,BZ,aF Cp S⟩
  obtain⟨q0,M,Kz⟩:=q;apply OA q0;clear q0;intro u1 gs gw u8;clear dr dv dt N2 Nj;have ec:∀q∈bs,∀p∈q,p.ok:=λq hq p hp=>((D q hq).1 p hp).okP.1;refine⟨_,rfl,L,rfl,⟨_,.of (M _ _ aw)⟩,λR hR=>?_⟩;refine aK (K:=K) (xs:=zs.map V.str) (λi N t H20=>(∃u,t=[u,some (.ref HD)])/\af az H20/\N=(e9 bs (zs.take i)).map V.str) ab ⟨⟨_,rfl⟩,af.new hR,rfl⟩ (λi N t H20 _ _ q=>.of ((M.trans q.2.1) _ _ aw)) (λi x N t H20 hx ef q=>?_) (λN t H20 GU q=>?_)
  ·obtain⟨q0,G,rfl⟩:=q;apply cU q0;clear q0;intro u;obtain⟨z,hz,rfl⟩:=e7 hx;have hi:=aH hz;obtain⟨_,gb⟩:=ah z (UC hz);have ei:=gb.ok (by decide);have h9:(e9 bs (zs.take i)).length<=30:=by
    unfold e9;refine UK (U9 _ _) ?_;rw[UT];lia
   have BY:=M.trans G;refine⟨_,rfl,HD,rfl,⟨_,.of (BY _ _ b1)⟩,λC hC=>?_⟩;refine aK (K:=K) (xs:=hv) (λj ac t H21=>(∃u,t=[u,some (.str z)])/\af H20 H21/\aD K W ac (((bs.take j).filter (bT z)).map be)) ab ⟨⟨_,rfl⟩,af.new hC,.nil⟩ (λj ac t H21 _ _ q=>.of ((BY.trans q.2.1) _ _ b1)) (λj x ac t H21 hx ea q=>?_) (λac t H21 R0 q=>?_)
   ·obtain⟨q0,a9,dn⟩:=q;apply cU q0;clear q0;intro u;obtain⟨ps,d9,fc⟩:=dR Ki hx;have bo:=UC d9;have hj:=aH d9;have OT:ac.length<=j:=by
     rw[dn.length,UA];exact UK (U9 _ _) (by rw[UT];lia)
    refine⟨_,rfl,_,rfl,x,z,ps,rfl,fc.same (BY.trans a9),ec ps bo,UK ei.2 (by decide),ei.1,λH22 S=>⟨_,rfl,?_⟩⟩;have e2:(bs.take (j+1)).filter (bT z)=(bs.take j).filter (bT z)++[ps].filter (bT z):=by rw[UX,d9,Vi];rfl
    cases hb:a8 ps (Y4 z " ")with
    | true=>
     refine cq ⟨_,rfl,_,S _ _ ea,small (by lia),_,ab,⟨_,rfl⟩,ax hC (a9.trans S),?_⟩;rw[e2,VP,show bT z ps=true from hb,UL];exact dn.append (.cons fc .nil)
    | false=>
     refine br ⟨_,S _ _ ea,⟨_,rfl⟩,a9.trans S,?_⟩;rw[e2,VP,show bT z ps=false from hb];simpa using dn
   obtain⟨_,a9,fb⟩:=q;rw[dq,Vl]at fb;refine⟨UU _,λE hE=>?_⟩;have sE:=af.new (o:=.lst []) hE;have EY:=a9.trans sE;refine⟨_,_,.lst (.of (sE _ _ R0)) (fb.same (BY.trans EY)),.lst (.of ab) .nil,vk _,_,rfl,?_⟩;rw[z9,List.isEmpty_map,NM hz];generalize upd H21 E (.lst [])=H22 at EY ⊢;cases hb:(bs.filter (bT z)).isEmpty with
   | true=>
    refine cq ⟨_,rfl,_,EY _ _ ef,small (by rw[UA];lia),_,ab,⟨_,rfl⟩,ax hR (G.trans EY),?_⟩;rw[Zn rfl,UL];rfl
   | false=>
    refine br ⟨_,EY _ _ ef,⟨_,rfl⟩,G.trans EY,?_⟩;rw[Zo UO,Vd]
  obtain⟨_,G,rfl⟩:=q;rw[UA,Vl]at GU;have dp:(e9 bs zs).length<64:=by
   unfold e9;exact Wb (U9 _ _) (by lia)
  have da:=M9 (bs:=bs) ah;have oo:eh sv lv (e9 bs zs) v.cur.fs:=by
   refine b3.gth.Qz (LB eb λz=>?_);unfold StV.zZ;rw[(er.map (·.2)).mem_iff,Vc]
   simp
  have BY:=M.trans G;have Oe:=aF Kz G;obtain⟨_,IX⟩:=aU Oe;have I:af W (wo A.ar H20):=bB cp BY;have c3:wo A.ar H20 R=some (.lst ((e9 bs zs).map V.str)):=by rw[ak λz=>by rw[z,IX]at GU;cases GU];exact GU
  have d0:wo A.ar H20 A.ar=none:=bp;have sY:af (wo A.ar H20) H20:=aM;generalize wo A.ar H20=Y at I c3 d0 sY;have e6:=I _ _ ck;have Tc:=I _ _ K5;have Pf:=I _ _ J6;have g6:=I _ _ aw;have gf:=I _ _ b1;have ft:=I _ _ c7;have Rm:=Ln.same I;have O3:=Ky.same I;clear ck K5 J6 aw b1 c7 Ln Ky Ki I GU hR BY IX G M Kz cp ec;apply j6 (λH21=>af Y H21/\bG A.ar H21)
  case f=>
   intro rest;refine⟨_,rfl,(by show 2<=Zg;decide),λT3 d1=>?_⟩;have sT:=af.new (o:=.tup [.int 3,.int 2]) d1;have bb:=sY.trans sT;refine⟨_,_,.tup (.of (bb _ _ ft)) (.cons (.int _) (.cons (.int _) .nil)),.tup (.of ab) (.cons (.int _) (.cons (.int _) .nil)),DJ _ _,_,rfl,?_⟩;rw[wR];have Cp:=aF Oe sT;generalize upd H20 T3 (.tup [.int 3,.int 2])=H21 at bb Cp ⊢;by_cases c2:sv=3/\lv=2
   ·rw[Zk c2];have Mm:eh 3 2 (e9 bs zs) v.cur.fs:=by
     have:=oo;rw[c2.1,c2.2]at this;exact this
    refine cq ⟨_,rfl,R,A.bN,_,3,2,rfl,.inl (bb _ _ c3),dp,da,T.oE _,Cp,λGD ms OZ H22 ps bo hu gr S Ph b7 dk dx D IP g7 a7 c1=>?_⟩;have M4:ps=v.cur.fs:=eh.unique ⟨⟨ms,bo,hu,dk⟩,dx,D,IP⟩ Mm;have SE:af Y H22:=(bB d0 bb).trans S;refine⟨_,rfl,(by show 2<=Zg;decide),λT4 h6=>?_⟩;have b0:=af.new (o:=.tup [.int 3,.int 2]) h6;have AO:=SE.trans b0;obtain⟨_,L6⟩:=aU (aF Ph b0);refine⟨R,T4,_,3,2,rfl,.inl (AO _ _ c3),dp,da,.of ab,aF Ph b0,λ_ gk _ as g0 S2 gn _ a4 Ti R9 Ry Ru RB Pl _ _ QX=>?_⟩;have Sm:g0=v.cur.fs:=eh.unique ⟨⟨gk,S2,gn,Ry⟩,Ru,RB,Pl⟩ Mm;rw[M4]at c1;rw[Sm]at QX;have Tn:=(fO L6 ((c1.same c8).same b0)).same a4;have Rq:as GD=some (.lst OZ):=a4 _ _ (by rw[ak λz=>by rw[z]at b7;have:=b0 _ _ b7;rw[L6]at this;cases this];exact b0 _ _ b7);refine⟨_,_,.lst (.of Rq) Tn,.lst (.of R9) (QX.same c8),vk _,_,rfl,?_⟩;rw[xk];exact br (rest _ ⟨(bB d0 AO).trans a4,Ti⟩)
   ·rw[Zl c2];exact br (br (rest _ ⟨bb,Cp⟩))
  clear sY Oe;rintro H21 ⟨sY,Cp⟩;have gd:v.cur.bs.length=hv.length:=by rw[eb.length_eq,dq]
  refine⟨_,rfl,X,_,0,_,rfl,rfl,.of (sY _ _ e6),rfl,_,rfl,HD,_,rfl,.inl (.of (sY _ _ gf)),(hv.length:Int),rfl,PS,_,rfl,.of (sY _ _ Tc),λF hF=>?_⟩;have sF:=af.new (o:=.lst (g8 pv (some (hv.length:Int)) none)) hF;have b6:(upd H21 F (.lst (g8 pv (some (hv.length:Int)) none))) F=some (.lst (g8 pv (some (hv.length:Int)) none)):=ab;have b8:=sY.trans sF;have dm:=aF Cp sF;generalize upd H21 F (.lst (g8 pv (some (hv.length:Int)) none))=H22 at b6 b8 dm ⊢;rw[Hl]at b6;have dz:=xu hv.length (Rm.same b8);rw[UL,List.drop_left' (by rw[UA];exact gd)]at dz;obtain⟨_,Mh⟩:=aU dm;refine⟨_,rfl,_,rfl,R,SV,_,sv,lv,rfl,.inl (b8 _ _ c3),dp,da,.of (b8 _ _ ft),dm,λGD ms OZ H23 ps bo hu gr de _ b7 dk dx D IP g7 _ c1=>?_⟩;have M4:ps=v.cur.fs:=eh.unique ⟨⟨ms,bo,hu,dk⟩,dx,D,IP⟩ oo;rw[M4]at c1;have AO:af Y H23:=(bB d0 b8).trans de;have Sv:H23 F=some (.lst (pv.drop hv.length)):=de _ _ (by rw[ak λz=>by rw[z,Mh]at b6;cases b6];exact b6);refine⟨_,_,.lst (.of Sv) ((fO Mh dz).same de),.lst (.of b7) (c1.same c8),vk _,_,rfl,?_⟩;rw[xk];refine cq ⟨_,rfl,X,_,1,_,rfl,rfl,.of (AO _ _ e6),rfl,CT,rfl,⟨_,.of (AO _ _ Pf)⟩,λSL fe=>?_⟩;have Pk:(v.cur.bs++v.cur.fs).length<=128:=by
   have h1:=b3.bl;have h2:=b3.gth.lt;rw[UH];lia
  have h4:cv.length=(v.cur.bs++v.cur.fs).length:=by rw[O3.length,UA,UA]
  refine aK (K:=K) (xs:=cv) (λj N t as=>(∃u w,t=[u,w])/\af H23 as/\N=(((v.cur.bs++v.cur.fs).take j).map λp=>((cnt v.cur 0 10 p:Nat):Int)).map V.int) ab ⟨⟨_,_,rfl⟩,af.new fe,rfl⟩ (λj N t as _ _ q=>.of ((AO.trans q.2.1) _ _ Pf)) (λj x N t as hx h3 q=>?_) (λN t as P4 q=>?_)
  ·obtain⟨⟨u,w,rfl⟩,a4,rfl⟩:=q;have hj:=aH hx;obtain⟨_,bc,cx⟩:=O3.get hx;rw[UI,UI]at bc;obtain⟨q,e1,rfl⟩:=Option.map_eq_some_iff.mp bc;obtain⟨p,e2,rfl⟩:=Option.map_eq_some_iff.mp e1;obtain⟨b,y,rfl,hq,_⟩:=MF cx;refine⟨b,_,rfl,(AO.trans a4).eA hq,rfl,_,_,rfl,_,_,rfl,rfl,?_⟩;refine⟨_,rfl,_,h3,small (by rw[UA,UA,UT];lia),_,ab,⟨_,_,rfl⟩,ax fe a4,?_⟩;rw[UX,e2,UL,UL];rfl
  ·obtain⟨_,a4,rfl⟩:=q;rw[h4,Vl]at P4;refine⟨SL,_,rfl,.of P4,(λi hi=>?_),by rw[UA];lia,_,rfl,L,_,rfl,.inl (.of ((AO.trans a4) _ _ g6)),rfl,?_⟩
   ·obtain⟨p,_,rfl⟩:=UE.mp hi;have:=Nf (lo:=0) (hi:=10) (p:=p) b3;lia
   rw[zT λp=>cnt v.cur 0 10 p,Iy b3 (eb.nodup_iff.mpr a7) er,UA,Zk rfl];exact k _
end
theorem hX1 (e:hX s=true):W.xlAt hV [] s=true:=by unfold hX at e;exact(VM.mp e).1
theorem hX2 (e:hX s=true):W.recOk (W.RowW.records (W.OpenRow.toRowW (W.OpenLaw.row Yj))) s=true:=by unfold hX at e;exact(VM.mp e).2
theorem hS:Yj.wellSaid=true:=by kernel_rfl
abbrev hFo (i:Nat) (x:Str) (m:Xy) (c:Nat):Zb:=YC x x (cO (top i)) (bY (top i)) (ag (top i)) .none .none .none m none (.ref c) .none
theorem hDf {P:Params}{f c:Nat}{m:Xy} (X:(hK P).In h) (G:h.Ns mainGlobals mg) (ps:Uq) (l:(hK P).lookup f=some (hFn i x m c)) (d:YP (hK P) (.ref c) x=true) (k:YF (hK P) (.ref f)=true) (a:W.nsIn (hK P) mainGlobals x=some (some (.ref f)))
  (b:∀(kV doc pm:Xy) (an:Option Za) (cdv ct:Xy) (us:WF),us.length=ps.length->bindArgs (YC x x (cO (top i)) (bY (top i)) (ag (top i)) .none kV doc pm an cdv ct) ⟨us,[]⟩=pure (ps.zip us)):bE (hK P) mg x (top i) ps f (hFo i x m c):=
 have F:Fun (hK P) x x (top i) f (hFo i x m c):=Je l d k
 ⟨F,F.binds b,Yt X G a⟩
abbrev Di (i:Nat) (x:Str) (m:Xy) (c D:Nat):Zb:=YC x x (cO (top i)) (bY (top i)) (ag (top i)) (.ref D) .none .none m none (.ref c) .none
theorem RI {P:Params}{f c D:Nat}{m:Xy} (X:(hK P).In h) (G:h.Ns mainGlobals mg) (ps:Uq) (l:(hK P).lookup f=some (hFd i x m c D)) (d:YP (hK P) (.ref c) x=true) (k:YF (hK P) (.ref f)=true) (a:W.nsIn (hK P) mainGlobals x=some (some (.ref f)))
  (b:Binds (hK P) (Di i x m c D) ps []):Gj (hK P) mg x (top i) ps f (Di i x m c D):=
 ⟨⟨⟨_,_,_,_,_,_,_,_,_,_,rfl,l,d⟩,k⟩,b,Yt X G a⟩
abbrev mFo (i j:Nat) (x q:Str) (m:Xy) (c:Nat):Zb:=YC x q (cO (mIn i j)) (bY (mIn i j)) (ag (mIn i j)) .none .none .none m none (.ref c) .none
abbrev BW (i j:Nat) (x q:Str) (m:Xy) (c D:Nat):Zb:=YC x q (cO (mIn i j)) (bY (mIn i j)) (ag (mIn i j)) (.ref D) .none .none m none (.ref c) .none
theorem mDf {P:Params}{f c:Nat}{q:Str}{m:Xy} (ps:Uq) (l:(hK P).lookup f=some ⟨.type "function",none,.func (mFd i j x q 3 m (.ref c)),#[]⟩) (d:YP (hK P) (.ref c) q=true) (k:YF (hK P) (.ref f)=true)
  (b:∀(kV doc pm:Xy) (an:Option Za) (cdv ct:Xy) (us:WF),us.length=ps.length->bindArgs (YC x q (cO (mIn i j)) (bY (mIn i j)) (ag (mIn i j)) .none kV doc pm an cdv ct) ⟨us,[]⟩=pure (ps.zip us)):gP (hK P) x q (mIn i j) ps f (mFo i j x q m c):=
 ⟨⟨⟨_,_,_,_,_,_,_,_,_,rfl,l,d⟩,k⟩,Binds.all λus a=>b _ _ _ _ _ _ us a⟩
theorem Sw {P:Params}{f c D:Nat}{q:Str}{m:Xy} (ps:Uq) (l:(hK P).lookup f=some ⟨.type "function",none,.func (MK i j x q 3 m (.ref c) D),#[]⟩) (d:YP (hK P) (.ref c) q=true) (k:YF (hK P) (.ref f)=true) (b:Binds (hK P) (BW i j x q m c D) ps []):HS (hK P) x q (mIn i j) ps f (BW i j x q m c D):=
 ⟨⟨⟨_,_,_,_,_,_,_,_,_,_,rfl,l,d⟩,k⟩,b⟩
theorem on1 {C:WF->Prop} (h:∀a0,C [a0]):∀us:WF,us.length=1->C us
 | [a0],_=>h a0
theorem on2 {C:WF->Prop} (h:∀a0 a1,C [a0,a1]):∀us:WF,us.length=2->C us
 | [a0,a1],_=>h a0 a1
theorem on3 {C:WF->Prop} (h:∀a0 a1 a2,C [a0,a1,a2]):∀us:WF,us.length=3->C us
 | [a0,a1,a2],_=>h a0 a1 a2
theorem on4 {C:WF->Prop} (h:∀a0 a1 a2 a3,C [a0,a1,a2,a3]):∀us:WF,us.length=4->C us
 | [a0,a1,a2,a3],_=>h a0 a1 a2 a3
theorem wk {P:Params} (X:(hK P).In s.heap) (us:WF) (a:us.length=2):BindsTo s (Di 44 "gathered" om 275 271) ⟨us,[]⟩ ((["lines","sieve"]:Uq).zip (us++[])):=by
 rw[Vd];exact on2 (C:=λus=>BindsTo s (Di 44 "gathered" om 275 271) ⟨us,[]⟩ ((["lines","sieve"]:Uq).zip us)) (λ_ _=>BindsTo.of_defaults rfl (X 271 _ rfl) rfl rfl rfl) us a
theorem vg {P:Params} (X:(hK P).In s.heap) (us:WF) (a:us.length=1):BindsTo s (Di 44 "gathered" om 275 271) ⟨us,[]⟩ ((["lines","sieve"]:Uq).zip (us++[.ref 229])):=
 on1 (C:=λus=>BindsTo s (Di 44 "gathered" om 275 271) ⟨us,[]⟩ ((["lines","sieve"]:Uq).zip (us++[.ref 229]))) (λ_=>BindsTo.of_defaults rfl (X 271 _ rfl) rfl rfl rfl) us a
theorem wm {P:Params} (X:(hK P).In s.heap) (us:WF) (a:us.length=2):BindsTo s (BW 55 0 "__init__" "Log.__init__" bV 345 339) ⟨us,[]⟩ ((["self","sieve"]:Uq).zip (us++[])):=by
 rw[Vd];exact on2 (C:=λus=>BindsTo s (BW 55 0 "__init__" "Log.__init__" bV 345 339) ⟨us,[]⟩ ((["self","sieve"]:Uq).zip us)) (λ_ _=>BindsTo.of_defaults rfl (X 339 _ rfl) rfl rfl rfl) us a
theorem vE {P:Params} (X:(hK P).In s.heap) (us:WF) (a:us.length=1):BindsTo s (BW 55 0 "__init__" "Log.__init__" bV 345 339) ⟨us,[]⟩ ((["self","sieve"]:Uq).zip (us++[.ref 229])):=
 on1 (C:=λus=>BindsTo s (BW 55 0 "__init__" "Log.__init__" bV 345 339) ⟨us,[]⟩ ((["self","sieve"]:Uq).zip (us++[.ref 229]))) (λ_=>BindsTo.of_defaults rfl (X 339 _ rfl) rfl rfl rfl) us a
def hA:Ad:=⟨120,hFo 14 "has_only" tI 119,127,hFo 15 "is_word" tI 126,134,hFo 16 "kind_of" tI 133,141,hFo 17 "words_of" tI 140,146,hFo 18 "is_line" tI 145,153,hFo 19 "word_key" tI 152,161,hFo 23 "is_part" g7 160,166,hFo 24 "is_pattern" g7 165,173,hFo 25 "is_hole" g7 172,180,hFo 26 "part_takes" g7 179,187,hFo 27 "all_taken" g7 186,194,hFo 28 "fits" g7 193,201,hFo 29 "kind_of_hole_around" g7 200,206,hFo 30 "joined_part" g7 205,211,hFo 31 "joined" g7 210,218,hFo 32 "part_key" g7 217,223,hFo 33 "pattern_key" g7 222,228,hFo 34 "ordered" g7 227,236,hFo 37 "grouped" om 235,241,hFo 38 "words_at" om 240,248,hFo 39 "many_unlike_at" om 247,253,hFo 40 "is_fit_to_part_at" om 252,258,hFo 41 "place_to_part_at" om 257,265,hFo 42 "parted" om 264,270,hFo 43 "pattern_of_group" om 269,276,Di 44 "gathered" om 275 271,283,hFo 46 "looseness_of_part" Fn 282,288,hFo 47 "looseness" Fn 287,293,hFo 48 "falls_under" Fn 292,300,hFo 52 "how_often" bV 299,305,hFo 53 "words_in_order" bV 304,471,hFo 57 "_law_deck" qU 470,478,hFo 58 "_law_pick" qU 477,483,hFo 59 "_law_kind" qU 482,488,hFo 60 "_law_word" qU 487,493,hFo 61 "_law_line" qU 492,498,hFo 62 "_law_lines" qU 497,505,hFo 63 "_law_pattern" qU 504,512,hFo 64 "_law_sieve" qU 511,519,hFo 65 "_law_shuffled" qU 518,524,hFo 66 "_law_filled_log" qU 523,529,hFo 67 "_law_told" qU 528,534,hFo 68 "law" qU 533,317,mFo 54 0 "__init__" "State.__init__" bV 316,346,BW 55 0 "__init__" "Log.__init__" bV 345 339,353,mFo 55 1 "__len__" "Log.__len__" bV 352,360,mFo 55 2 "__eq__" "Log.__eq__" bV 359,367,mFo 55 3 "held" "Log.held" bV 366,374,mFo 55 4 "rows_with_falls" "Log.rows_with_falls" bV 373,381,mFo 55 5 "turn_to" "Log.turn_to" bV 380,388,mFo 55 6 "do_deed" "Log.do_deed" bV 387,395,mFo 55 7 "come" "Log.come" bV 394,402,mFo 55 8 "put" "Log.put" bV 401,407,mFo 55 9 "take" "Log.take" bV 406,414,mFo 55 10 "back" "Log.back" bV 413,421,mFo 55 11 "again" "Log.again" bV 420,433,mFo 55 13 "patterns" "Log.patterns" bV 432,440,mFo 55 14 "under" "Log.under" bV 439,452,mFo 55 16 "counts" "Log.counts" bV 451,457,mFo 55 17 "holes" "Log.holes" bV 456,154,229,327,460,257,255⟩
theorem hT {P:Params} (X:(hK P).In h) (G:h.Ns mainGlobals mg):Tx (hK P) mg hA:=by
 refine⟨Yd X G ?_,Yd X G ?_,Yd X G ?_,Yd X G ?_,Yd X G ?_,Yd X G ?_,Yd X G ?_,Yd X G ?_,Yd X G ?_,Yd X G ?_,Yd X G ?_,Yd X G ?_,Yd X G ?_,Yd X G ?_,Yd X G ?_,Yd X G ?_,⟨321,Yt X G ?_⟩,(by rw[J4];exact⟨323,Yt X G (by kernel_rfl)⟩),(by rw[K2];exact⟨325,Yt X G (by kernel_rfl)⟩),(by rw[Jw];exact⟨327,Yt X G (by kernel_rfl)⟩),⟨373,Yt X G ?_⟩,Yt X G ?_,(λH=>.inr ⟨_,_,_,rfl,rfl,rfl,(by show 3<=Zg;decide),.cons ⟨_,rfl⟩ (.cons ⟨_,rfl⟩ (.cons ⟨_,rfl⟩ (.nil)))⟩),⟨_,rfl,rfl,rfl⟩,Yt X G ?_,(λH=>.inr ⟨_,_,_,rfl,rfl,rfl,(by show 2<=Zg;decide),.cons ⟨_,rfl⟩ (.cons ⟨_,rfl⟩ (.nil))⟩),⟨_,rfl,rfl,rfl⟩,⟨554,Yt X G ?_⟩,⟨556,Yt X G ?_⟩,hDf X G ["text","signs"] rfl ?_ ?_ ?_ ?_,hDf X G ["thing"] rfl ?_ ?_ ?_ ?_,hDf X G ["word"] rfl ?_ ?_ ?_ ?_,hDf X G ["line"] rfl ?_ ?_ ?_ ?_,hDf X G ["thing"] rfl ?_ ?_ ?_ ?_,hDf X G ["word"] rfl ?_ ?_ ?_ ?_,hDf X G ["thing"] rfl ?_ ?_ ?_ ?_,hDf X G ["thing"] rfl ?_ ?_ ?_ ?_,hDf X G ["part"] rfl ?_ ?_ ?_ ?_,hDf X G ["part","word"] rfl ?_ ?_ ?_ ?_,hDf X G ["parts","words"] rfl ?_ ?_ ?_ ?_,hDf X G ["pattern","line"] rfl ?_ ?_ ?_ ?_,hDf X G ["part"] rfl ?_ ?_ ?_ ?_,hDf X G ["parts"] rfl ?_ ?_ ?_ ?_,hDf X G ["patterns"] rfl ?_ ?_ ?_ ?_,hDf X G ["part"] rfl ?_ ?_ ?_ ?_,hDf X G ["pattern"] rfl ?_ ?_ ?_ ?_,hDf X G ["patterns"] rfl ?_ ?_ ?_ ?_,hDf X G ["rows","keys"] rfl ?_ ?_ ?_ ?_,hDf X G ["group","place"] rfl ?_ ?_ ?_ ?_,hDf X G ["group","place"] rfl ?_ ?_ ?_ ?_,hDf X G ["group","place","sieve"] rfl ?_ ?_ ?_ ?_,hDf X G ["group","sieve"] rfl ?_ ?_ ?_ ?_,hDf X G ["group","sieve"] rfl ?_ ?_ ?_ ?_,hDf X G ["group"] rfl ?_ ?_ ?_ ?_,RI X G ["lines","sieve"] rfl ?_ ?_ ?_ λs c b a=>wk b c (by rw[Vd]at a;exact a),hDf X G ["part"] rfl ?_ ?_ ?_ ?_,hDf X G ["pattern"] rfl ?_ ?_ ?_ ?_,hDf X G ["line","patterns"] rfl ?_ ?_ ?_ ?_,hDf X G ["things"] rfl ?_ ?_ ?_ ?_,hDf X G ["words"] rfl ?_ ?_ ?_ ?_,hDf X G ["cell","turn"] rfl ?_ ?_ ?_ ?_,hDf X G ["deck","many"] rfl ?_ ?_ ?_ ?_,hDf X G ["word"] rfl ?_ ?_ ?_ ?_,hDf X G ["deck"] rfl ?_ ?_ ?_ ?_,hDf X G ["deck","most"] rfl ?_ ?_ ?_ ?_,hDf X G ["deck","most"] rfl ?_ ?_ ?_ ?_,hDf X G ["deck","line"] rfl ?_ ?_ ?_ ?_,hDf X G ["deck"] rfl ?_ ?_ ?_ ?_,hDf X G ["deck","some"] rfl ?_ ?_ ?_ ?_,hDf X G ["deck","sieve","lines","hand"] rfl ?_ ?_ ?_ ?_,hDf X G ["log"] rfl ?_ ?_ ?_ ?_,mDf ["self","sieve","rows","by_hand"] rfl ?_ ?_ ?_,Sw ["self","sieve"] rfl ?_ ?_ λs c b a=>wm b c (by rw[Vd]at a;exact a),mDf ["self"] rfl ?_ ?_ ?_,mDf ["self","other"] rfl ?_ ?_ ?_,mDf ["self"] rfl ?_ ?_ ?_,mDf ["self"] rfl ?_ ?_ ?_,mDf ["self","held"] rfl ?_ ?_ ?_,mDf ["self","rows","by_hand"] rfl ?_ ?_ ?_,mDf ["self","moment","line"] rfl ?_ ?_ ?_,mDf ["self","pattern"] rfl ?_ ?_ ?_,mDf ["self","pattern"] rfl ?_ ?_ ?_,mDf ["self"] rfl ?_ ?_ ?_,mDf ["self"] rfl ?_ ?_ ?_,mDf ["self"] rfl ?_ ?_ ?_,mDf ["self","number"] rfl ?_ ?_ ?_,mDf ["self","low","high"] rfl ?_ ?_ ?_,mDf ["self","pattern"] rfl ?_ ?_ ?_,Yt X G ?_,⟨?_,?_,?_,?_⟩,⟨?_,?_,?_,?_,?_⟩,⟨?_,?_,?_,?_⟩,(by unfold b6;kernel_rfl),(by unfold b6;kernel_rfl),(by unfold b6;kernel_rfl),(by unfold b6;kernel_rfl),Yt X G ?_,⟨?_,?_,?_,?_⟩,⟨?_,?_,?_,?_,?_⟩,⟨?_,?_,?_,?_⟩,⟨?_,?_,?_⟩,⟨?_,?_,?_⟩,⟨?_,?_,?_⟩,⟨?_,?_,?_⟩,⟨?_,?_,?_⟩,⟨?_,?_,?_⟩,⟨?_,?_,?_⟩,⟨?_,?_,?_⟩,⟨?_,?_,?_⟩,⟨?_,?_,?_⟩,⟨?_,?_,?_⟩,⟨?_,?_,?_⟩,⟨?_,?_,?_⟩,⟨?_,?_,?_⟩,⟨?_,?_,?_⟩,(by unfold b6;kernel_rfl),(by unfold b6;kernel_rfl),(by unfold b6;kernel_rfl),(by unfold b6;kernel_rfl),(by unfold b6;kernel_rfl),λs c b a=>vg b c (by rw[UH]at a;exact Nat.succ.inj a),λs c b a=>vE b c (by rw[UH]at a;exact Nat.succ.inj a),⟨rfl,λh b=>W.codeHd_of_K b (by kernel_rfl),4,_,Yt X G ?_,by decide,by decide,rfl,rfl,rfl,rfl⟩⟩<;>first|exact λ_ _ _ _ _ _=>on1 λ_=>rfl|exact λ_ _ _ _ _ _=>on2 λ_ _=>rfl|exact λ_ _ _ _ _ _=>on3 λ_ _ _=>rfl|exact λ_ _ _ _ _ _=>on4 λ_ _ _ _=>rfl|kernel_rfl
theorem hF (w:Ze) (mg:Str->Option Xy) (a:Za) (h:Heap) (X:(hK w.params).In h) (G:h.Ns mainGlobals mg) (e:mg "law" = some (.ref a)) :
  ∃fd:Zb,(∀(s:Xx) (u:Xy),BindsTo s fd ⟨[u],[]⟩ [("script",u)])/\∀base:Heap,aB Yj.prog w (hK w.params) mg base CX0 27 a fd ["script"] (yO (hK w.params) 255):=by
 have q:=e.symm.trans (Yt X G (show W.nsIn (hK w.params) mainGlobals "law" = some (some (.ref 534))by kernel_rfl));cases q;exact⟨hFo 68 "law" qU 533,λs v=>.of_eq rfl,λbase=>NA (A:=hA) (Je rfl (by kernel_rfl) (by kernel_rfl)) (hT X G)⟩
abbrev hSp:=yO
end K19
open PySem PySem.W PyProof.Rows
theorem PySem.Challenge.cw_loggather_k19_whole_lines_in_any_order_holds : PySem.Challenge.rw_loggather_k19_whole_lines_in_any_order.Holds := by
 refine holds_law K19.hS λj=>@PySem.W.holds_open (OpenLaw.row Yj) K19.hV K19.hLo K19.hX (XL K19.hV []) _ K19.hH.obs K19.hH.val K19.hH.says ?dr ?kw 7952 K19.hL K19.hH.of K19.hH.keeps
  (λs e=>xl_of s (K19.hX1 e)) XL.keeps ?x1 ?x2 ?x3 (λs e=>recFacts_of (K19.hX2 e)) ?x4 j ?x5 ?x6 ?hw ?hc
 case x1=>exact rfl
 case x2=>exact rfl
 case x3=>exact rfl
 case x4=>rfl
 case x5=>decide +kernel
 case x6=>exact⟨rfl,rfl,rfl,rfl,rfl,by decide +kernel⟩
 case hw=>w_witness2
 exact L2.HH (l:=Yj) (n:=63) (k:=27) (x:= "script") (K:=K19.hK) (c:=257) (T:=255) (sp:=λw=>K19.hSp (K19.hK w.params) 255) rfl (by decide) rfl ⟨rfl,by decide,by decide,rfl⟩ (λw h Y=>⟨PySem.W.km_in_of Y,PySem.W.km_tabs_of Y _ (List.Mem.head _)⟩) (λw h X=>PySem.W.codeHd_of_K X (by kernel_rfl)) (λw=>by kernel_rfl)
  (λw f g h X G e=>let ⟨fd,b,k⟩:=K19.hF w f g h X G e;⟨fd,b,λd=>k d⟩) (λ_ _ a i m hT hS=>⟨a,i,rfl,hS,m,⟨_,hT,trivial,.inl rfl⟩,λ_=>rfl⟩)
