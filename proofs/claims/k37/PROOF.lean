import PyProof.Rows.All
import Wide.All
import OpenK.AllK
import Wide.FinOn
import Lean
import PyProof.EqAt
import PyProof.EqKinds
import PyProof.TupleCall
import PyProof.NeData
import PyProof.StrLawsChain
import KE.KSortTup
import KE.KRevSl
import KE.KMinKey
import PyProof.P3In
import KE.KRevIter
import KE.KDictSum
import PyProof.StrCalls6
import PyProof.ToksMono
import PyProof.ReprRoads
import PyProof.StrOps2
import KE.KDictLaws
import KE.KDictList
import PyProof.DictValues
import PyProof.TupleKey
import PyProof.IsRules
import PyProof.Rows.SetFrom
import PyProof.DictWalks
import PyProof.FactsAll.set_1
import PyProof.ReprText
import KE.KLam
import PyProof.WalkInts
import PyProof.ZipIter
import PyProof.CollectWalk
import PyProof.ListNew
import Wide.Seal
import PyProof.P3Eq
import PyProof.ListStr
import PyProof.Rows.Range3
import PySem.Challenge.RW_loggather_k37_whole_one_line_more
set_option maxHeartbeats 8000000
abbrev Wz:=PySem.W.Frag
abbrev Wy:=PySem.Value
abbrev Wx:=PySem.Shared
abbrev WF:=List PySem.Str
abbrev WE:=List WF
abbrev WG:=Array Wy
abbrev WH:=List PySem.Addr
abbrev WI:=List PySem.PyData
abbrev WJ:=List Wy
def Ww:=@PySem.wpAny_bind
def Wv:=@PySem.wpAny_pure
def Wu:=@PySem.Heap.get?_push_of_some
def Wt:=@PySem.wpAny_mono
def Ws:=@PySem.wpAny_holding
open PySem.Challenge renaming pw_loggather_k37_whole_one_line_more→Y0,rw_loggather_k37_whole_one_line_more→Yl
open PySem.Heap renaming get?_push_size→Y1,lt_size→Y2,get?_update_other→Yn,SameBut→Yw,size_push→YZ
open PySem.PyData renaming depthAll→Y3,canLayAll0→Y4,strOk→Y5,eqv→Y9,depth→Yj,shownAll_cons→YJ,eqvAll→YV,showableAll→Z5
open PySem.Txt renaming split→Y6,join→YH,stripChars→Z0
open List renaming range→Y7,getD→Yx,lookup→YR,toArray→YT
open PySem.Obj renaming mapSeq→Y8
open PySem renaming boot_len→Yb,mem_of_lookup→Yq,Addr→Za,FuncData→Zb,Around→Zc,Program→Zd,World→Ze,PyData→Zf,sizeLine→Zg,wpAny→Zh,starEach→Zi,SetTable→Zj
open PySem.F renaming plainAttrs_list→Yc,plainAttrs_str→Yo,plain_min_loop→Yt,slot_list_append→YA,type_list_append→YB,slot_list_count→Z1
open PySem.W renaming mg_none_of→Yd,boot_heap→Yi,findIn→Ym,mg_of→Ys,kia_one→Yv,emptyDict→Yy,fnOf→YC,topFrame→YF,keepIn→YG,instObj→YK,codeIn→YN,segRun→YX,piecesOf→YY
open PySem.Heap.SameBut renaming update→Ye
open PySem.Around renaming under_plainId→Yg
open PySem.Str renaming empty→Yh,ofString→Yk,join→YI,length→Z2
open PyProof.Rows renaming callWith_type1→Yp
open Option.some renaming inj→Yr
open PySem.Builtin.List renaming listExtendWith→Yu,listSameRef→YW
open PySem.Builtin.SmallTypes renaming ownedTupleIsFree→Yz,nextOf→YP
open PySem.PassesOwn renaming never→YD
open PySem.Calls renaming spliced_cons→YE,callWith_builtin→YM,spliced_nil→YS
open PyProof.Rows.F renaming plain_set_update_loop→YL
open PySem.SetTable renaming grown→YO,below→Z9
open Ne renaming symm→YQ
open PySem.SetTable.below renaming go→YU
open Array renaming getD→Z3
open PySem.W.KasT renaming kasWp→Z4
open Exists renaming choose_spec→Z6
open List.Perm renaming refl→Z8
def Zk:=@decide_eq_true
def Zl:=@decide_eq_false
def Zm:=@of_decide_eq_true
def Zn:=@if_pos
def Zo:=@if_neg
open List renaming length_map→Tt,getElem?_eq_getElem→Tu,mem_map→Tv,mem_singleton→Tz,mem_of_getElem?→TB,mem_cons_of_mem→TC,getElem?_map→TF,mem_cons_self→TH,length_append→TJ,map_append→TK,size_toArray→TL,mem_cons→TM,length_cons→TR,getD_eq_getElem?_getD→TU,mem_append→TV,map_cons→TX,take_of_length_le→TY,length_take→TZ,length_singleton→T1,take_add_one→T4,all_eq_true→T6,map_map→T7,map_congr_left→T8,mem_append_right→Ua,mem_filter→Ud,getElem?_append_left→Ui,getElem_mem→Uj,pairwise_map→Uk,length_zip→Ul,drop_eq_getElem_cons→Um,mem_range→Uo,getElem?_zip_eq_some→Uq,length_nil→Ut,append_nil→Uu,take_length→Uv,sum_cons→Uw,getElem?_eq_none→Ux,getElem?_append_right→Uy,any_cons→UA,lookup_cons→UB,any_eq_true→UC,map_eq_nil_iff→UD,length_filter_le→UG,nodup_cons→UI,filter_append→UJ,mem_flatMap→UK,drop_of_length_le→UL,find?_cons→UO,getElem?_eq_some_iff→UP,exists_mem_of_ne_nil→UQ,not_mem_nil→UR,countP_cons→US,mem_of_mem_take→UT,mem_iff_getElem→UU,eq_nil_of_length_eq_zero→UW,length_range→UX,flatMap_cons→UY,append_assoc→UZ,map_nil→U0,zip_cons_cons→U2,forIn_cons→U3,mem_append_left→U4,mem_map_of_mem→U6,length_eq_zero_iff→U7,filter_cons→U8,cons_append→U9,getElem?_toArray→Vf,nodup_append→Vg,count_append→Vh,nodup_nil→Vj,getElem?_of_mem→Vk,ext_getElem→Vp,getElem?_eq_none_iff→Vq,count_singleton_self→Vr,length_pos_iff→Vs,all_cons→Vt,of_mem_zip→Vu,filter_cons_of_pos→Vw,filter_cons_of_neg→Vx,foldl_append→Vy,filter_eq_nil_iff→Vz,length_drop→VA,drop_eq_nil_iff→VD,dropLast_concat_getLast→VE,count_cons→VF,filterMap_cons→VH,perm_ext_iff_of_nodup→VJ,length_eraseIdx_of_lt→VL,count_eq_zero→VM,pairwise_iff_getElem→VP,getElem_append_left→VU,getElem?_replicate→VV,getElem?_set_self→VY
open Nat renaming le_refl→Tw,le_trans→TN,zero_le→T2,ne_of_lt→T5,lt_of_lt_of_le→T9,lt_or_ge→Ur,lt_irrefl→Uz,le_of_lt→UH,le_succ→UN,add_le_add_right→Vi,ne_of_gt→Vl,min_self→Vm,lt_trans→Vn,lt_succ_self→Vo,lt_of_le_of_lt→VI,lt_succ_of_lt→VQ,zero_add→VW,le_of_eq→VX
open Bool renaming false_ne_true→TQ,and_eq_true→Ub,eq_iff_iff→Ue,false_eq_true→Ug,eq_false_iff→Uh,and_eq_true_iff→U5,true_and→Ve,or_false→VC
open Array renaming length_toList→T3,getElem?_eq_getElem→Uc,getElem?_toList→Up,toList_append→UE,getElem?_eq_none→UM,getD_eq_getD_getElem?→U1,toList_inj→Vb,forIn_toList→Vd,mem_append→VB,size_push→VG,size_extract→VN,perm_iff_toList_perm→VO,toList_push→VS,all_eq_true→VT
open Int renaming toNat_natCast→Us,eq_ofNat_of_zero_le→Va,emod_lt_of_pos→Vc,emod_nonneg→Vv,le_refl→VR,zero_add→VZ
set_option compiler.extract_closed false
set_option Elab.async false
set_option linter.all false
set_option autoImplicit false
set_option maxRecDepth 100000
namespace L2
open PySem PySem.W
section
variable {p:Zd}{q:Zd}{loose:WF}{Xt:Wx->Bool}{α:Type}{Yf:Wx->α}{Ya:Ze->α}{N:Nat}{H₀:Params->Heap}{d₀:Drawn}{k₀ m₀:Nat}{ann:Option Wy}{env:Env}{c:Code}{qp:Pos}
def qZ (p q:Zd) (loose:WF) (Xt:Wx->Bool) {α:Type} (Yf:Wx->α) (Ya:Ze->α) (H₀:Params->Heap) (m₀:Nat) (ann:Option Wy) (env:Env) (c:Code) (qp:Pos) (n:Nat) (l:List Stmt) (pos:Pos) (w:Ze) (s:Wx):Prop:=
 ∃r,topRun treeTable p w m₀ ann n s (restOf l env c pos [topFrame qp])=some r/\(staticsOk (importedModules p.main.body) (H₀ w.params) r.heap && namesBound p r.heap && gensDone r && laidKept (H₀ w.params) r.heap)=true/\openSeen q loose (importedModules p.main.body) Xt true r=openGood q loose/\Yf r=Ya w
theorem GA {n e:Nat}{l:List Stmt}{pos:Pos}{w:Ze}{s:Wx}
  (h:(segRun treeTable p w m₀ ann 1 n s (piecesOf l env c pos [topFrame qp])).bind (λz=>(topRun treeTable p w m₀ ann e z.2.1 ⟨doneF .next,c,z.2.2.2,[topFrame qp]⟩).map λr=>(z.1,z.2.2.1,(staticsOk (importedModules p.main.body) (H₀ w.params) r.heap && namesBound p r.heap && gensDone r && laidKept (H₀ w.params) r.heap),openSeen q loose (importedModules p.main.body) Xt true r,Yf r))=some (.next,c,true,openGood q loose,Ya w)) :
  qZ p q loose Xt Yf Ya H₀ m₀ ann env c qp (n+e) l pos w s:=by
 obtain⟨⟨f,_,t,_⟩,v,m⟩:=Option.bind_eq_some_iff.mp h;obtain⟨r,g,d⟩:=Option.map_eq_some_iff.mp m;simp only[Prod.mk.injEq]at d;obtain⟨o,k,j,i,u⟩:=d;have b:f=Flow.next:=o;have a:t = c:=k;subst b a;have:=piece_app (rest:=[]) v (piece_nil g);rw[Uu]at this;exact⟨r,this,j,i,u⟩
theorem pL {n n':Nat}{l a b:List Stmt}{pos pos':Pos}{w:Ze}{s s':Wx} (h:segRun treeTable p w m₀ ann 1 n s (piecesOf l env c pos [topFrame qp])=some (.next,s',c,pos')) (e:l++a = b) (t:qZ p q loose Xt Yf Ya H₀ m₀ ann env c qp n' a pos' w s'):qZ p q loose Xt Yf Ya H₀ m₀ ann env c qp (n+n') b pos w s:=by
 obtain⟨r,f,d⟩:=t;rw[<-e];exact⟨r,piece_app h f,d⟩
theorem xD (b:List Stmt) (a d:Nat):(b.drop a).take d++b.drop (a+d)=b.drop a:=by
 rw[<-List.drop_drop];exact List.take_append_drop _ _
theorem GF {g i f n2:Nat}{b n B:List Stmt}{v pos:Pos}{m:Params->Heap}{l:Drawn}{o:Nat} (hc:c = .body b env) (W:n++B=b)
  (O:∀w:Ze,(fencedOpening treeTable p w N).map (λs=>(s.heap,s.gens,s.drawn,s.toks))=some (H₀ w.params,Array.mk [],d₀,k₀))
  (a:∀w:Ze,((H₀ w.params).isNs mainGlobals,(H₀ w.params).objs.size,(H₀ w.params).nsMap mainGlobals "__annotations__")=(true,m₀,ann))
  (h1:∀(w:Ze) (os:OsState),(topGo treeTable p w m₀ ann g ⟨H₀ w.params,Array.mk [],d₀,k₀,os⟩ (topStub p)).bind (λx=>(segRun treeTable p w m₀ ann 1 i x.1 (blockOf b env c v [topFrame qp])).bind λy=>(segRun treeTable p w m₀ ann 1 f y.2.1 (piecesOf n env c y.2.2.2 [topFrame qp])).map λz=>(x.2,y.1,y.2.2.1,z))=some (⟨denote treeTable c,c,v,[topFrame qp]⟩,.next,c,(.next,⟨m w.params,Array.mk [],l,o,os⟩,c,pos)))
  (h2:∀(w:Ze) (os:OsState),qZ p q loose Xt Yf Ya H₀ m₀ ann env c qp n2 B pos w ⟨m w.params,Array.mk [],l,o,os⟩) (le:Nat.ble (g+(i+(f+n2))) N=true):LeftO p q loose Xt Yf Ya N true:=λw=>by
 obtain⟨⟨h,P,d,k,os⟩,e,L⟩:=Option.map_eq_some_iff.mp (O w);obtain⟨rfl,rfl,rfl,rfl⟩:h=H₀ w.params/\P=Array.mk []/\d=d₀/\k=k₀:=by simpa using L
 obtain⟨S,D,G⟩:_/\_/\_:=by simpa only[Prod.mk.injEq]using a w
 obtain⟨⟨_,_⟩,R,Y⟩:=Option.bind_eq_some_iff.mp (h1 w os);obtain⟨⟨_,_,_,_⟩,b1,b2⟩:=Option.bind_eq_some_iff.mp Y;obtain⟨⟨_,_,_,_⟩,Z,A⟩:=Option.map_eq_some_iff.mp b2;simp only[Prod.mk.injEq]at A;obtain⟨T,U,Q,I,V,C,F⟩:=A;subst T U Q I V C F;obtain⟨r,X,H,K,E⟩:=h2 w os;have u:=piece_app Z X;rw[W]at u;subst hc;have J:=piece_block b1 u;have M:=go_top R J;have j:=topRun_mono (N - (g+(i+(f+n2)))) _ _ _ _ M;rw[show g+(i+(f+n2))+(N - (g+(i+(f+n2))))=N by have:=Nat.le_of_ble_eq_true le;lia]at j;have t:topFrom treeTable p w N ⟨H₀ w.params,Array.mk [],d,k,os⟩=some r:=by
  unfold topFrom;dsimp only;rw[S,D,G,j];show(match staticsOk (importedModules p.main.body) (H₀ w.params) r.heap && namesBound p r.heap && gensDone r && laidKept (H₀ w.params) r.heap with | true=>some r | false=>none)=some r
  rw[H]
 unfold openEnds;rw[e];show((topFrom treeTable p w N ⟨H₀ w.params,Array.mk [],d,k,os⟩).map λs=>(openSeen q loose (importedModules p.main.body) Xt true s,Yf s))=_;rw[t];show some (openSeen q loose (importedModules p.main.body) Xt true r,Yf r)=_;rw[K,E]
end
end L2
namespace L2
open PySem
def cA (s:Stmt):Arguments:=match s with
 | .FunctionDef _ a _ _ _ _ _ _ _ _=>a
 | _=>{ posonlyargs:=[],args:=[],vararg:=none,kwonlyargs:=[],kw_defaults:=[],kwarg:=none,defaults:=[] }
def bS (s:Stmt):List Stmt:=match s with
 | .FunctionDef _ _ b _ _ _ _ _ _ _=>b
 | _=>[]
def ag (s:Stmt):Scope:=match s with
 | .FunctionDef _ _ _ _ _ _ sc _ _ _=>sc
 | _=>{ kind:=.function,names:=[],isGenerator:=false,isCoroutine:=false }
end L2
namespace K37
open PySem L2
def top (i:Nat):Stmt:=Y0.main.body.getD i (.Pass ⟨0,0,0,0⟩)
def mIn (i j:Nat):Stmt:=match top i with
 | .ClassDef _ _ _ b _ _ _ _ _ _ _=>b.getD j (.Pass ⟨0,0,0,0⟩)
 | x=>x
def hqC (x:Str) (a:Nat) (L n:Int) (r:Nat) (d:Nat):Obj:=⟨.type "code",none,.fields #[.str x a,.str x (a+1),.str "/claim/cut.py" (a+2),.int L 0,.int n 0,.int 0 0,.int 0 0,.int 3 0,.ref r,.bool true,.int 181 0,.ref (r+1),.none,.ref (r+2),.ref (r+3),.ref (r+4),.int (Int.ofNat d) 0,.int L 0,.str "/claim/cut.py" (d+1)],#[]⟩
def hqD (x:Str) (a:Nat) (L n:Int) (r:Nat):Obj:=⟨.type "code",none,.fields #[.str x a,.str x (a+1),.str "/claim/cut.py" (a+2),.int L 0,.int n 0,.int 0 0,.int 0 0,.int 3 0,.ref r,.bool true,.int 181 0,.ref (r+1),.none,.none,.none,.ref (r+2),.int (Int.ofNat (a+3)) 0,.int L 0,.str "/claim/cut.py" (a+4)],#[]⟩
def hqU (l:WJ):Obj:=⟨.type "tuple",none,.seq l.toArray 0,#[]⟩
def hqN:Obj:=⟨.none,none,.fields #[],#[]⟩
def hFz (i:Nat) (x:Str):Obj:=⟨.none,none,.func { name:=x,qualname:=x,params:=cA (top i),body:=.stmts (bS (top i)),scope:=ag (top i),globals:=0,closure:=[],defaults:=.none,kwdefaults:=.none },#[]⟩
def hFd (i:Nat) (x:Str) (m:Wy) (c D:Nat):Obj:=⟨.type "function",none,.func { name:=x,qualname:=x,params:=cA (top i),body:=.stmts (bS (top i)),scope:=ag (top i),globals:=3,closure:=[],defaults:=.ref D,kwdefaults:=.none,pyModule:=m,code:=.ref c },#[]⟩
def mFd (i j:Nat) (x q:Str) (g:Za) (m c:Wy):Zb:={ name:=x,qualname:=q,params:=cA (mIn i j),body:=.stmts (bS (mIn i j)),scope:=ag (mIn i j),globals:=g,closure:=[],defaults:=.none,kwdefaults:=.none,pyModule:=m,code:=c }
def L3 (i j:Nat) (x q:Str) (g:Za) (m c:Wy) (D:Nat):Zb:={ name:=x,qualname:=q,params:=cA (mIn i j),body:=.stmts (bS (mIn i j)),scope:=ag (mIn i j),globals:=g,closure:=[],defaults:=.ref D,kwdefaults:=.none,pyModule:=m,code:=c }
def hEn (P:Params) (x:Str) (t:Nat) (v:Wy):DictEntry:=⟨PyData.keyHash P x,.str x t,v⟩
def hqR (P:Params) (x:Str) (n k:Nat):=hEn P x n (.ref k)
def hqM (x y:Str) (a:Nat) (L n:Int) (r d:Nat):Obj:=⟨.type "code",none,.fields #[.str x a,.str y (a+1),.str "/claim/cut.py" (a+2),.int L 0,.int n 0,.int 0 0,.int 0 0,.int 3 0,.ref r,.bool true,.int 181 0,.ref (r+1),.none,.ref (r+2),.ref (r+3),.ref (r+4),.int (Int.ofNat d) 0,.int L 0,.str "/claim/cut.py" (d+1)],#[]⟩
def hqO (x y:Str) (a:Nat) (L n:Int) (r:Nat):Obj:=⟨.type "code",none,.fields #[.str x a,.str y (a+1),.str "/claim/cut.py" (a+2),.int L 0,.int n 0,.int 0 0,.int 0 0,.int 3 0,.ref r,.bool true,.int 181 0,.ref (r+1),.none,.none,.none,.ref (r+2),.int (Int.ofNat (a+3)) 0,.int L 0,.str "/claim/cut.py" (a+4)],#[]⟩
def hqB (x:Str) (a:Nat) (L:Int) (r:Nat):Obj:=⟨.type "code",none,.fields #[.str x a,.str x (a+1),.str "/claim/cut.py" (a+2),.int L 0,.int 0 0,.int 0 0,.int 0 0,.int 0 0,.ref r,.bool false,.int 181 0,.ref (r+1),.none,.none,.none,.none,.int (Int.ofNat (a+3)) 0,.int L 0,.str "/claim/cut.py" (a+4)],#[]⟩
def bM:Wy:=.str "loggather.logs" 552
def ip:Wy:=.str "loggather.errors" 194
def iA:Wy:=.str "loggather.patterns" 371
def m8:Wy:=.str "loggather.gathering" 466
def rE:Wy:=.str "loggather.words" 319
def vd:Wy:=.str "law_loggather_k37_whole_one_line_more" 788
def Eo:Wy:=.str "loggather.falling" 531
def hqF (i j:Nat) (x q:Str) (m:Wy) (c:Nat):Obj:=⟨.type "function",none,.func (mFd i j x q 3 m (.ref c)),#[]⟩
def hqG (i j:Nat) (x q:Str):Obj:=⟨.none,none,.func (mFd i j x q 0 .none .none),#[]⟩
def hqW (a b:Nat) (m:Wy):Obj:=⟨.type "frame",none,.plain,#[some (.ref a),some (.ref 3),some (.ref b),none,some m,none,some (.ref 0)]⟩
def hqI (x:String) (a:Nat):Obj:=⟨.type "builtin_function_or_method",none,.fields #[.builtin x,.ref a],#[]⟩
def hqS (a:Nat):Obj:=⟨.type "super",none,.fields #[.ref a,.ref a,.ref a],#[]⟩
def hqE (x:Str) (b s n a c d:Nat):Obj:=⟨.type "type",none,.cls { name:=x,bases:=[.ref b],mro:=[.ref s,.ref b,.type "ValueError",.type "Exception",.type "BaseException",.type "object"],ns:=n,qualname:=x,hasDict:=true,slotNames:=[],subclasses:=[],abstract:=false,collection:=none,hasDel:=false },#[some (.ref a),none,some (.str x c),some (.str x d),some (.builtin "ValueError.__new__"),some (.bool true)]⟩
def Pq (P:Params):List DictEntry:=[hEn P "__doc__" 166 (.none),hEn P "__package__" 167 (.none),hEn P "__loader__" 168 (.builtin "__main__.__loader__#opaque"),hEn P "__spec__" 169 (.none),hqR P "__annotations__" 170 6,hqR P "__builtins__" 171 4,hEn P "__file__" 173 (.str "/claim/cut.py" 172),hEn P "__cached__" 174 (.none),hqR P "_wall" 193 21,hqR P "GatherError" 213 31,hqR P "NoJoin" 229 44,hqR P "NoLine" 245 56,hqR P "NoMoment" 270 75]
def OB (P:Params):List DictEntry:=Pq P++[hqR P "NoPattern" 286 87,hqR P "TooMany" 302 99,hqR P "NothingLeft" 318 111,hEn P "MOST_WORDS" 322 (.int 12 321),hEn P "FIGURES" 324 (.str "0123456789" 323),hEn P "SMALL_LETTERS" 326 (.str "abcdefghijklmnopqrstuvwxyz" 325),hEn P "WORD_SIGNS" 328 (.str "!\"#$&'()*+,-./0123456789:;<=>?@ABCDEFGHIJKLMNOPQRSTUVWXYZ[\\]^_`abcdefghijklmnopqrstuvwxyz{|}~" 327),hqR P "has_only" 336 120,hqR P "is_word" 343 127,hqR P "kind_of" 350 134,hqR P "words_of" 357 141,hqR P "is_line" 363 146,hqR P "word_key" 370 153,hEn P "MOST_PARTS" 374 (.int 12 373),hqR P "HOLE_KINDS" 378 154,hqR P "is_part" 385 161,hqR P "is_pattern" 391 166,hqR P "is_hole" 398 173,hqR P "part_takes" 406 180,hqR P "all_taken" 416 187,hqR P "fits" 424 194,hqR P "kind_of_hole_around" 432 201]
def O5 (P:Params):List DictEntry:=OB P++[hqR P "joined_part" 438 206,hqR P "joined" 444 211,hqR P "part_key" 453 218,hqR P "pattern_key" 459 223,hqR P "ordered" 465 228,hqR P "PLAIN_SIEVE" 470 229,hqR P "grouped" 481 236,hqR P "words_at" 487 241,hqR P "many_unlike_at" 495 248,hqR P "is_fit_to_part_at" 501 253,hqR P "place_to_part_at" 507 258,hqR P "parted" 518 265,hqR P "pattern_of_group" 524 270,hqR P "gathered" 530 276,hqR P "looseness_of_part" 539 283,hqR P "looseness" 545 288,hqR P "falls_under" 551 293,hEn P "MOST_LINES" 555 (.int 120 554),hEn P "MOST_BY_HAND" 557 (.int 12 556),hqR P "how_often" 566 300,hqR P "words_in_order" 572 305,hqR P "pair_key" 581 312,hqR P "moved" 587 317]
def Oz (P:Params):List DictEntry:=O5 P++[hqR P "State" 625 339]
def NK (P:Params):List DictEntry:=Oz P++[hqR P "Log" 787 472]
def Qg (P:Params):List DictEntry:=NK P++[hqR P "_law_deck" 797 483,hqR P "_law_pick" 807 490,hqR P "_law_kind" 813 495,hqR P "_law_word" 819 500,hqR P "_law_line" 825 505,hqR P "_law_lines" 831 510,hqR P "_law_pattern" 843 517,hqR P "_law_sieve" 850 524,hqR P "_law_told" 856 529,hqR P "_law_more_right" 862 534,hqR P "law" 876 541]
def Pp:WJ:=[.int 1 0,.int 0 0,.ref 20,.int 5 0,.int 0 0,.ref 27,.int 7 0,.int 0 0,.ref 40,.int 9 0,.int 0 0,.ref 52,.int 11 0,.int 0 0,.ref 64]
def Np:WJ:=Pp++[.int 16 0,.int 0 0,.ref 83,.int 18 0,.int 0 0,.ref 95,.int 20 0,.int 0 0,.ref 107,.int 27 0,.int 0 0,.ref 119,.int 29 0,.int 0 0,.ref 126,.int 31 0,.int 0 0,.ref 133,.int 37 0,.int 0 0,.ref 140,.int 39 0,.int 0 0,.ref 145,.int 44 0,.int 0 0,.ref 152,.int 49 0,.int 0 0,.ref 160,.int 55 0,.int 0 0,.ref 165,.int 59 0,.int 0 0,.ref 172,.int 61 0,.int 0 0,.ref 179,.int 67 0,.int 0 0,.ref 186,.int 74 0,.int 0 0,.ref 193,.int 76 0,.int 0 0,.ref 200]
def PH:WJ:=Np++[.int 81 0,.int 0 0,.ref 205,.int 88 0,.int 0 0,.ref 210,.int 95 0,.int 0 0,.ref 217,.int 100 0,.int 0 0,.ref 222,.int 102 0,.int 0 0,.ref 227,.int 106 0,.int 0 0,.ref 235,.int 111 0,.int 0 0,.ref 240,.int 113 0,.int 0 0,.ref 247,.int 115 0,.int 0 0,.ref 252,.int 120 0,.int 0 0,.ref 257,.int 123 0,.int 0 0,.ref 264,.int 131 0,.int 0 0,.ref 269,.int 133 0,.int 0 0,.ref 275,.int 140 0,.int 0 0,.ref 282,.int 144 0,.int 0 0,.ref 287,.int 146 0,.int 0 0,.ref 292,.int 152 0,.int 0 0,.ref 299,.int 157 0,.int 0 0,.ref 304,.int 160 0,.int 0 0,.ref 311,.int 163 0,.int 0 0,.ref 316]
def OA:WJ:=PH++[.int 166 0,.int 0 0,.ref 323]
def QI:WJ:=OA++[.int 178 0,.int 0 0,.ref 349]
def hFn (i:Nat) (x:Str) (m:Wy) (c:Nat):Obj:=⟨.type "function",none,.func { name:=x,qualname:=x,params:=cA (top i),body:=.stmts (bS (top i)),scope:=ag (top i),globals:=3,closure:=[],defaults:=.none,kwdefaults:=.none,pyModule:=m,code:=.ref c },#[]⟩
def hV:Zd:={ Y0 with main:={ Y0.main with body:=[0,2,3,4,5,6,7,8,10,11,12,13,14,15,16,17,18,19,21,22,23,24,25,26,27,28,29,30,31,32,33,34,36,37,38,39,40,41,42,43,46,47,48,50,51,52,53,54,55,56,57,59,60,61,62,63,64,65,66,67,68,69].map top } }
def hK (P:Params):Wz:=[(4,⟨.type "module",some 0,.plain,#[]⟩),
 (3,⟨.type "dict",none,.dict (hEn P "__name__" 165 vd::Qg P).toArray 72,#[]⟩),
 (119,hqC "has_only" 329 27 2 114 334),
 (120,hFn 14 "has_only" rE 119),
 (126,hqC "is_word" 337 29 1 121 341),
 (127,hFn 15 "is_word" rE 126),
 (133,hqC "kind_of" 344 31 1 128 348),
 (134,hFn 16 "kind_of" rE 133),
 (140,hqC "words_of" 351 37 1 135 355),
 (141,hFn 17 "words_of" rE 140),
 (145,hqD "is_line" 358 39 1 142),
 (146,hFn 18 "is_line" rE 145),
 (152,hqC "word_key" 364 44 1 147 368),
 (153,hFn 19 "word_key" rE 152),
 (154,hqU [.str "number" 375,.str "name" 376,.str "any" 377]),
 (172,hqC "is_hole" 392 59 1 167 396),
 (173,hFn 25 "is_hole" iA 172),
 (179,hqC "part_takes" 399 61 2 174 404),
 (180,hFn 26 "part_takes" iA 179),
 (186,hqC "all_taken" 407 67 2 181 414),
 (187,hFn 27 "all_taken" iA 186),
 (193,hqC "fits" 417 74 2 188 422),
 (194,hFn 28 "fits" iA 193),
 (200,hqC "kind_of_hole_around" 425 76 1 195 430),
 (201,hFn 29 "kind_of_hole_around" iA 200),
 (205,hqD "joined_part" 433 81 1 202),
 (206,hFn 30 "joined_part" iA 205),
 (210,hqD "joined" 439 88 1 207),
 (211,hFn 31 "joined" iA 210),
 (217,hqC "part_key" 445 95 1 212 451),
 (218,hFn 32 "part_key" iA 217),
 (222,hqD "pattern_key" 454 100 1 219),
 (223,hFn 33 "pattern_key" iA 222),
 (227,hqD "ordered" 460 102 1 224),
 (228,hFn 34 "ordered" iA 227),
 (229,hqU [.int 3 468,.int 2 469]),
 (235,hqC "grouped" 471 106 2 230 479),
 (236,hFn 37 "grouped" m8 235),
 (240,hqD "words_at" 482 111 2 237),
 (241,hFn 38 "words_at" m8 240),
 (247,hqC "many_unlike_at" 488 113 2 242 493),
 (248,hFn 39 "many_unlike_at" m8 247),
 (252,hqD "is_fit_to_part_at" 496 115 3 249),
 (253,hFn 40 "is_fit_to_part_at" m8 252),
 (257,hqD "place_to_part_at" 502 120 2 254),
 (258,hFn 41 "place_to_part_at" m8 257),
 (264,hqC "parted" 508 123 2 259 516),
 (265,hFn 42 "parted" m8 264),
 (269,hqD "pattern_of_group" 519 131 1 266),
 (270,hFn 43 "pattern_of_group" m8 269),
 (271,hqU [.ref 229]),
 (275,hqD "gathered" 525 133 2 272),
 (276,hFd 44 "gathered" m8 275 271),
 (282,hqC "looseness_of_part" 533 140 1 277 537),
 (283,hFn 46 "looseness_of_part" Eo 282),
 (287,hqD "looseness" 540 144 1 284),
 (288,hFn 47 "looseness" Eo 287),
 (292,hqD "falls_under" 546 146 2 289),
 (293,hFn 48 "falls_under" Eo 292),
 (299,hqC "how_often" 558 152 1 294 564),
 (300,hFn 52 "how_often" bM 299),
 (311,hqC "pair_key" 573 160 1 306 579),
 (312,hFn 54 "pair_key" bM 311),
 (316,hqD "moved" 582 163 2 313),
 (317,hFn 55 "moved" bM 316),
 (328,hqO "__init__" "State.__init__" 600 168 4 325),
 (329,hqF 56 0 "__init__" "State.__init__" bM 328),
 (338,⟨.type "dict",none,.dict #[hEn P "__module__" 595 bM,hEn P "__firstlineno__" 599 (.int 166 598),hqR P "__init__" 605 329,hqR P "fall_of" 613 336,hqR P "__static_attributes__" 618 337,hqR P "__dict__" 620 340,hqR P "__weakref__" 622 341,hEn P "__doc__" 623 (.none)] 4,#[]⟩),
 (339,⟨.type "type",none,.cls { name:= "State",bases:=[.type "object"],mro:=[.ref 339,.type "object"],ns:=338,qualname:= "State",hasDict:=true,slotNames:=[],subclasses:=[],abstract:=false,collection:=none,hasDel:=false },#[none,none,some (.str "State" 588),some (.str "State" 596),some (.builtin "object.__new__"),some (.bool true)]⟩),
 (351,hqU [.ref 229]),
 (357,hqM "__init__" "Log.__init__" 638 180 2 352 643),
 (358,⟨.type "function",none,.func (L3 57 0 "__init__" "Log.__init__" 3 bM (.ref 357) 351),#[]⟩),
 (364,hqM "__len__" "Log.__len__" 646 187 1 359 650),
 (365,hqF 57 1 "__len__" "Log.__len__" bM 364),
 (378,hqM "held" "Log.held" 661 195 1 373 665),
 (379,hqF 57 3 "held" "Log.held" bM 378),
 (385,hqM "rows_with_falls" "Log.rows_with_falls" 668 198 1 380 672),
 (386,hqF 57 4 "rows_with_falls" "Log.rows_with_falls" bM 385),
 (392,hqM "turn_to" "Log.turn_to" 675 201 2 387 682),
 (393,hqF 57 5 "turn_to" "Log.turn_to" bM 392),
 (399,hqM "do_deed" "Log.do_deed" 685 206 3 394 691),
 (400,hqF 57 6 "do_deed" "Log.do_deed" bM 399),
 (406,hqM "come" "Log.come" 694 211 3 401 701),
 (407,hqF 57 7 "come" "Log.come" bM 406),
 (425,hqM "back" "Log.back" 719 236 1 420 723),
 (426,hqF 57 10 "back" "Log.back" bM 425),
 (432,hqM "again" "Log.again" 726 242 1 427 730),
 (433,hqF 57 11 "again" "Log.again" bM 432),
 (439,hqM "moves" "Log.moves" 733 248 1 434 737),
 (440,hqF 57 12 "moves" "Log.moves" bM 439),
 (444,hqO "patterns" "Log.patterns" 740 251 1 441),
 (445,hqF 57 13 "patterns" "Log.patterns" bM 444),
 (451,hqM "under" "Log.under" 746 254 2 446 751),
 (452,hqF 57 14 "under" "Log.under" bM 451),
 (463,hqO "counts" "Log.counts" 762 260 3 460),
 (464,hqF 57 16 "counts" "Log.counts" bM 463),
 (471,⟨.type "dict",none,.dict #[hEn P "__module__" 633 bM,hEn P "__firstlineno__" 637 (.int 178 636),hqR P "__init__" 645 358,hqR P "__len__" 652 365,hqR P "__eq__" 660 372,hqR P "held" 667 379,hqR P "rows_with_falls" 674 386,hqR P "turn_to" 684 393,hqR P "do_deed" 693 400,hqR P "come" 703 407,hqR P "put" 712 414,hqR P "take" 718 419,hqR P "back" 725 426,hqR P "again" 732 433,hqR P "moves" 739 440,hqR P "patterns" 745 445,hqR P "under" 753 452,hqR P "would_fall" 761 459,hqR P "counts" 767 464,hqR P "holes" 773 469,hqR P "__static_attributes__" 779 470,hqR P "__dict__" 781 473,hqR P "__weakref__" 783 474,hEn P "__doc__" 784 (.none),hEn P "__hash__" 785 (.none)] 5,#[]⟩),
 (472,⟨.type "type",none,.cls { name:= "Log",bases:=[.type "object"],mro:=[.ref 472,.type "object"],ns:=471,qualname:= "Log",hasDict:=true,slotNames:=[],subclasses:=[],abstract:=false,collection:=none,hasDel:=false },#[none,none,some (.str "Log" 626),some (.str "Log" 634),some (.builtin "object.__new__"),some (.bool true)]⟩),
 (482,hqC "_law_deck" 790 271 2 477 795),
 (483,hFn 59 "_law_deck" vd 482),
 (489,hqC "_law_pick" 798 275 2 484 805),
 (490,hFn 60 "_law_pick" vd 489),
 (499,hqD "_law_word" 814 291 1 496),
 (500,hFn 62 "_law_word" vd 499),
 (504,hqD "_law_line" 820 301 2 501),
 (505,hFn 63 "_law_line" vd 504),
 (509,hqD "_law_lines" 826 303 2 506),
 (510,hFn 64 "_law_lines" vd 509),
 (523,hqC "_law_sieve" 844 326 1 518 848),
 (524,hFn 66 "_law_sieve" vd 523),
 (528,hqD "_law_told" 851 328 1 525),
 (529,hFn 67 "_law_told" vd 528),
 (533,hqD "_law_more_right" 857 330 4 530),
 (534,hFn 68 "_law_more_right" vd 533),
 (540,hqC "law" 863 353 1 535 874),
 (541,hFn 69 "law" vd 540)]
def hLo:WF:=[("gathered" : Str),("Log" : Str)]
def hH:PySem.W.Hook:=PySem.W.kmHook hK [4,3,119,120,126,127,133,134,140,141,145,146,152,153,154,172,173,179,180,186,187,193,194,200,201,205,206,210,211,217,218,222,223,227,228,229,235,236,240,241,247,248,252,253,257,258,264,265,269,270,271,275,276,282,283,287,288,292,293,299,300,311,312,316,317,328,329,338,339,351,357,358,364,365,378,379,385,386,392,393,399,400,406,407,425,426,432,433,439,440,444,445,451,452,463,464,471,472,482,483,489,490,499,500,504,505,509,510,523,524,528,529,533,534,540,541] (λ_=>by kernel_rfl) [255]
def hX (s:Wx):Bool:=PySem.W.xlAt hV [] s && PySem.W.recOk (PySem.W.RowW.records (PySem.W.OpenRow.toRowW (PySem.W.OpenLaw.row Yl))) s
noncomputable def mS0 (P:Params):List Obj:=[PySem.W.boot_o_0 P,PySem.W.boot_o_1 P,PySem.W.boot_o_2 P]
noncomputable def mS4 (P:Params):List Obj:=[PySem.W.boot_o_4 P,PySem.W.boot_o_5 P,PySem.W.boot_o_6 P,PySem.W.boot_o_7 P,PySem.W.boot_o_8 P,PySem.W.boot_o_9 P,PySem.W.boot_o_10 P,hqU []]
noncomputable def HU (P:Params):List Obj:=[hqB "<module>" 182 1 11,⟨.type "frame",none,.plain,#[some (.ref 13),some (.ref 3),some (.ref 3),none,some (.str "__main__" 164),none,some (.ref 0)]⟩,hqU [],hqN,hqU [.str "k" 190],hqU [],hFz 0 "_wall",hqC "_wall" 187 1 1 15 191,hFn 0 "_wall" (.str "__main__" 164) 20,hqU [.type "ValueError"],⟨.type "builtin_function_or_method",none,.fields #[.builtin "type.__prepare__",.type "type"],#[]⟩,⟨.type "dict",none,.dict #[hEn P "__module__" 203 ip,hEn P "__qualname__" 205 (.str "GatherError" 204),hEn P "__firstlineno__" 207 (.int 5 206),hqR P "__static_attributes__" 208 29] 4,#[]⟩,hqU [],hqN,hqB "GatherError" 198 5 25,hqW 27 24 ip,hqU [],⟨.type "dict",none,.dict #[hEn P "__module__" 203 ip,hEn P "__firstlineno__" 207 (.int 5 206),hqR P "__static_attributes__" 208 29,hqR P "__weakref__" 210 32,hEn P "__doc__" 211 (.none)] 3,#[]⟩]
noncomputable def F1 (P:Params):List Obj:=[⟨.type "getset_descriptor",none,.fields #[.str "__weakref__" 209,.ref 31,.builtin "ExceptionGroup.__weakref__",.none],#[]⟩,hqS 31,hqI "object.__init_subclass__" 31,hqU [.ref 31],⟨.type "builtin_function_or_method",none,.fields #[.builtin "type.__prepare__",.type "type"],#[]⟩,⟨.type "dict",none,.dict #[hEn P "__module__" 221 ip,hEn P "__qualname__" 223 (.str "NoJoin" 222),hEn P "__firstlineno__" 225 (.int 7 224),hqR P "__static_attributes__" 226 42] 4,#[]⟩,hqU [],hqN,hqB "NoJoin" 216 7 38,hqW 40 37 ip,hqU [],⟨.type "dict",none,.dict #[hEn P "__module__" 221 ip,hEn P "__firstlineno__" 225 (.int 7 224),hqR P "__static_attributes__" 226 42,hEn P "__doc__" 227 (.none)] 2,#[]⟩,hqE "NoJoin" 31 44 43 35 214 222,hqS 44,hqI "object.__init_subclass__" 44,hqU [.ref 31],⟨.type "builtin_function_or_method",none,.fields #[.builtin "type.__prepare__",.type "type"],#[]⟩,⟨.type "dict",none,.dict #[hEn P "__module__" 237 ip,hEn P "__qualname__" 239 (.str "NoLine" 238),hEn P "__firstlineno__" 241 (.int 9 240),hqR P "__static_attributes__" 242 54] 4,#[]⟩,hqU [],hqN,hqB "NoLine" 232 9 50,hqW 52 49 ip,hqU [],⟨.type "dict",none,.dict #[hEn P "__module__" 237 ip,hEn P "__firstlineno__" 241 (.int 9 240),hqR P "__static_attributes__" 242 54,hEn P "__doc__" 243 (.none)] 2,#[]⟩,hqE "NoLine" 31 56 55 47 230 238,hqS 56,hqI "object.__init_subclass__" 56,hqU [.ref 31],⟨.type "builtin_function_or_method",none,.fields #[.builtin "type.__prepare__",.type "type"],#[]⟩,⟨.type "dict",none,.dict #[hEn P "__module__" 253 ip,hEn P "__qualname__" 255 (.str "NoMoment" 254),hEn P "__firstlineno__" 257 (.int 11 256),hqR P "__init__" 265 72,hqR P "__static_attributes__" 267 73] 5,#[]⟩,hqU [],⟨.none,none,.fields #[.int 13 0,.int 4 0,.ref 71],#[]⟩,hqB "NoMoment" 248 11 62,hqW 64 61 ip,hqU [],hqN,hqU [.str "self" 261,.str "last" 262],hqU [],hqG 5 0 "__init__" "NoMoment.__init__",hqM "__init__" "NoMoment.__init__" 258 13 2 66 263,hqF 5 0 "__init__" "NoMoment.__init__" ip 71,hqU [.str "last" 266],⟨.type "dict",none,.dict #[hEn P "__module__" 253 ip,hEn P "__firstlineno__" 257 (.int 11 256),hqR P "__init__" 265 72,hqR P "__static_attributes__" 267 73,hEn P "__doc__" 268 (.none)] 2,#[]⟩,hqE "NoMoment" 31 75 74 59 246 254,hqS 75,hqI "object.__init_subclass__" 75]
noncomputable def Jj (P:Params):List Obj:=[hqU [.ref 31],⟨.type "builtin_function_or_method",none,.fields #[.builtin "type.__prepare__",.type "type"],#[]⟩,⟨.type "dict",none,.dict #[hEn P "__module__" 278 ip,hEn P "__qualname__" 280 (.str "NoPattern" 279),hEn P "__firstlineno__" 282 (.int 16 281),hqR P "__static_attributes__" 283 85] 4,#[]⟩,hqU [],hqN,hqB "NoPattern" 273 16 81,hqW 83 80 ip,hqU [],⟨.type "dict",none,.dict #[hEn P "__module__" 278 ip,hEn P "__firstlineno__" 282 (.int 16 281),hqR P "__static_attributes__" 283 85,hEn P "__doc__" 284 (.none)] 2,#[]⟩,hqE "NoPattern" 31 87 86 78 271 279,hqS 87,hqI "object.__init_subclass__" 87,hqU [.ref 31],⟨.type "builtin_function_or_method",none,.fields #[.builtin "type.__prepare__",.type "type"],#[]⟩,⟨.type "dict",none,.dict #[hEn P "__module__" 294 ip,hEn P "__qualname__" 296 (.str "TooMany" 295),hEn P "__firstlineno__" 298 (.int 18 297),hqR P "__static_attributes__" 299 97] 4,#[]⟩,hqU [],hqN,hqB "TooMany" 289 18 93,hqW 95 92 ip,hqU [],⟨.type "dict",none,.dict #[hEn P "__module__" 294 ip,hEn P "__firstlineno__" 298 (.int 18 297),hqR P "__static_attributes__" 299 97,hEn P "__doc__" 300 (.none)] 2,#[]⟩,hqE "TooMany" 31 99 98 90 287 295,hqS 99,hqI "object.__init_subclass__" 99,hqU [.ref 31],⟨.type "builtin_function_or_method",none,.fields #[.builtin "type.__prepare__",.type "type"],#[]⟩,⟨.type "dict",none,.dict #[hEn P "__module__" 310 ip,hEn P "__qualname__" 312 (.str "NothingLeft" 311),hEn P "__firstlineno__" 314 (.int 20 313),hqR P "__static_attributes__" 315 109] 4,#[]⟩,hqU [],hqN,hqB "NothingLeft" 305 20 105,hqW 107 104 ip,hqU [],⟨.type "dict",none,.dict #[hEn P "__module__" 310 ip,hEn P "__firstlineno__" 314 (.int 20 313),hqR P "__static_attributes__" 315 109,hEn P "__doc__" 316 (.none)] 2,#[]⟩,hqE "NothingLeft" 31 111 110 102 303 311,hqS 111,hqI "object.__init_subclass__" 111,hqU [],hqN,hqU [.str "text" 332,.str "signs" 333],hqU [],hFz 14 "has_only",hqC "has_only" 329 27 2 114 334,hFn 14 "has_only" rE 119,hqU [],hqN,hqU [.str "thing" 340],hqU [],hFz 15 "is_word",hqC "is_word" 337 29 1 121 341,hFn 15 "is_word" rE 126,hqU [],hqN,hqU [.str "word" 347],hqU [],hFz 16 "kind_of",hqC "kind_of" 344 31 1 128 348,hFn 16 "kind_of" rE 133,hqU [],hqN,hqU [.str "line" 354],hqU [],hFz 17 "words_of",hqC "words_of" 351 37 1 135 355,hFn 17 "words_of" rE 140,hqU [],hqN,hFz 18 "is_line",hqD "is_line" 358 39 1 142,hFn 18 "is_line" rE 145,hqU [],hqN,hqU [.str "word" 367],hqU [],hFz 19 "word_key",hqC "word_key" 364 44 1 147 368,hFn 19 "word_key" rE 152,hqU [.str "number" 375,.str "name" 376,.str "any" 377],hqU [],hqN,hqU [.str "thing" 382],hqU [],hFz 23 "is_part",hqC "is_part" 379 49 1 155 383,hFn 23 "is_part" iA 160,hqU [],hqN,hFz 24 "is_pattern",hqD "is_pattern" 386 55 1 162,hFn 24 "is_pattern" iA 165,hqU [],hqN,hqU [.str "part" 395],hqU [],hFz 25 "is_hole",hqC "is_hole" 392 59 1 167 396,hFn 25 "is_hole" iA 172,hqU [],hqN,hqU [.str "part" 402,.str "word" 403],hqU [],hFz 26 "part_takes",hqC "part_takes" 399 61 2 174 404,hFn 26 "part_takes" iA 179,hqU [],hqN,hqU [.str "parts" 410,.str "words" 411,.str "part" 412,.str "word" 413],hqU [],hFz 27 "all_taken",hqC "all_taken" 407 67 2 181 414,hFn 27 "all_taken" iA 186,hqU [],hqN,hqU [.str "pattern" 420,.str "line" 421],hqU [],hFz 28 "fits",hqC "fits" 417 74 2 188 422,hFn 28 "fits" iA 193,hqU [],hqN,hqU [.str "part" 428,.str "kind" 429],hqU [],hFz 29 "kind_of_hole_around",hqC "kind_of_hole_around" 425 76 1 195 430,hFn 29 "kind_of_hole_around" iA 200]
noncomputable def Gk (P:Params):List Obj:=[hqU [],hqN,hFz 30 "joined_part",hqD "joined_part" 433 81 1 202,hFn 30 "joined_part" iA 205,hqU [],hqN,hFz 31 "joined",hqD "joined" 439 88 1 207,hFn 31 "joined" iA 210,hqU [],hqN,hqU [.str "part" 448,.str "length" 449,.str "text" 450],hqU [],hFz 32 "part_key",hqC "part_key" 445 95 1 212 451,hFn 32 "part_key" iA 217,hqU [],hqN,hFz 33 "pattern_key",hqD "pattern_key" 454 100 1 219,hFn 33 "pattern_key" iA 222,hqU [],hqN,hFz 34 "ordered",hqD "ordered" 460 102 1 224,hFn 34 "ordered" iA 227,hqU [.int 3 468,.int 2 469],hqU [],hqN,hqU [.str "rows" 474,.str "keys" 475,.str "groups" 476,.str "row" 477,.str "key" 478],hqU [],hFz 37 "grouped",hqC "grouped" 471 106 2 230 479,hFn 37 "grouped" m8 235,hqU [],hqN,hFz 38 "words_at",hqD "words_at" 482 111 2 237,hFn 38 "words_at" m8 240,hqU [],hqN,hqU [.str "group" 491,.str "place" 492],hqU [],hFz 39 "many_unlike_at",hqC "many_unlike_at" 488 113 2 242 493,hFn 39 "many_unlike_at" m8 247,hqU [],hqN,hFz 40 "is_fit_to_part_at",hqD "is_fit_to_part_at" 496 115 3 249,hFn 40 "is_fit_to_part_at" m8 252,hqU [],hqN,hFz 41 "place_to_part_at",hqD "place_to_part_at" 502 120 2 254,hFn 41 "place_to_part_at" m8 257,hqU [],hqN,hqU [.str "group" 511,.str "sieve" 512,.str "place" 513,.str "groups" 514,.str "smaller" 515],hqU [],hFz 42 "parted",hqC "parted" 508 123 2 259 516,hFn 42 "parted" m8 264,hqU [],hqN,hFz 43 "pattern_of_group",hqD "pattern_of_group" 519 131 1 266,hFn 43 "pattern_of_group" m8 269,hqU [.ref 229],hqU [],hqN,hFz 44 "gathered",hqD "gathered" 525 133 2 272,hFd 44 "gathered" m8 275 271,hqU [],hqN,hqU [.str "part" 536],hqU [],hFz 46 "looseness_of_part",hqC "looseness_of_part" 533 140 1 277 537,hFn 46 "looseness_of_part" Eo 282,hqU [],hqN,hFz 47 "looseness",hqD "looseness" 540 144 1 284,hFn 47 "looseness" Eo 287,hqU [],hqN,hFz 48 "falls_under",hqD "falls_under" 546 146 2 289,hFn 48 "falls_under" Eo 292,hqU [],hqN,hqU [.str "things" 561,.str "many" 562,.str "thing" 563],hqU [],hFz 52 "how_often",hqC "how_often" 558 152 1 294 564,hFn 52 "how_often" bM 299,hqU [],hqN,hFz 53 "words_in_order",hqD "words_in_order" 567 157 1 301,hFn 53 "words_in_order" bM 304,hqU [],hqN,hqU [.str "pair" 576,.str "old" 577,.str "new" 578],hqU [],hFz 54 "pair_key",hqC "pair_key" 573 160 1 306 579,hFn 54 "pair_key" bM 311,hqU [],hqN,hFz 55 "moved",hqD "moved" 582 163 2 313,hFn 55 "moved" bM 316]
noncomputable def KU (P:Params):List Obj:=[hqU [],⟨.type "builtin_function_or_method",none,.fields #[.builtin "type.__prepare__",.type "type"],#[]⟩,⟨.type "dict",none,.dict #[hEn P "__module__" 595 bM,hEn P "__qualname__" 597 (.str "State" 596),hEn P "__firstlineno__" 599 (.int 166 598),hqR P "__init__" 605 329,hqR P "fall_of" 613 336,hqR P "__static_attributes__" 618 337] 6,#[]⟩,hqU [],⟨.none,none,.fields #[.int 168 0,.int 4 0,.ref 328,.int 176 0,.int 4 0,.ref 335],#[]⟩,hqB "State" 590 166 321,hqW 323 320 bM,hqU [],hqN,hqG 56 0 "__init__" "State.__init__",hqO "__init__" "State.__init__" 600 168 4 325,hqF 56 0 "__init__" "State.__init__" bM 328,hqU [],hqN,hqU [.str "self" 609,.str "line" 610],hqU [],hqG 56 1 "fall_of" "State.fall_of",hqM "fall_of" "State.fall_of" 606 176 2 330 611,hqF 56 1 "fall_of" "State.fall_of" bM 335,hqU [.str "by_hand" 614,.str "falls" 615,.str "found" 616,.str "rows" 617],⟨.type "dict",none,.dict #[hEn P "__module__" 595 bM,hEn P "__firstlineno__" 599 (.int 166 598),hqR P "__init__" 605 329,hqR P "fall_of" 613 336,hqR P "__static_attributes__" 618 337,hqR P "__dict__" 620 340,hqR P "__weakref__" 622 341,hEn P "__doc__" 623 (.none)] 4,#[]⟩,⟨.type "type",none,.cls { name:= "State",bases:=[.type "object"],mro:=[.ref 339,.type "object"],ns:=338,qualname:= "State",hasDict:=true,slotNames:=[],subclasses:=[],abstract:=false,collection:=none,hasDel:=false },#[none,none,some (.str "State" 588),some (.str "State" 596),some (.builtin "object.__new__"),some (.bool true)]⟩,⟨.type "getset_descriptor",none,.fields #[.str "__dict__" 619,.ref 339,.builtin "function.__dict__",.builtin "function.__dict__#set"],#[]⟩,⟨.type "getset_descriptor",none,.fields #[.str "__weakref__" 621,.ref 339,.builtin "ExceptionGroup.__weakref__",.none],#[]⟩,hqS 339,hqI "object.__init_subclass__" 339]
noncomputable def OK (P:Params):List Obj:=[hqU [],⟨.type "builtin_function_or_method",none,.fields #[.builtin "type.__prepare__",.type "type"],#[]⟩,⟨.type "dict",none,.dict #[hEn P "__module__" 633 bM,hEn P "__qualname__" 635 (.str "Log" 634),hEn P "__firstlineno__" 637 (.int 178 636),hqR P "__init__" 645 358,hqR P "__len__" 652 365,hqR P "__eq__" 660 372,hqR P "held" 667 379,hqR P "rows_with_falls" 674 386,hqR P "turn_to" 684 393,hqR P "do_deed" 693 400,hqR P "come" 703 407,hqR P "put" 712 414,hqR P "take" 718 419,hqR P "back" 725 426,hqR P "again" 732 433,hqR P "moves" 739 440,hqR P "patterns" 745 445,hqR P "under" 753 452,hqR P "would_fall" 761 459,hqR P "counts" 767 464,hqR P "holes" 773 469,hqR P "__static_attributes__" 779 470] 22,#[]⟩,hqU [],⟨.none,none,.fields #[.int 180 0,.int 4 0,.ref 357,.int 187 0,.int 4 0,.ref 364,.int 190 0,.int 4 0,.ref 371,.int 195 0,.int 4 0,.ref 378,.int 198 0,.int 4 0,.ref 385,.int 201 0,.int 4 0,.ref 392,.int 206 0,.int 4 0,.ref 399,.int 211 0,.int 4 0,.ref 406,.int 222 0,.int 4 0,.ref 413,.int 230 0,.int 4 0,.ref 418,.int 236 0,.int 4 0,.ref 425,.int 242 0,.int 4 0,.ref 432,.int 248 0,.int 4 0,.ref 439,.int 251 0,.int 4 0,.ref 444,.int 254 0,.int 4 0,.ref 451,.int 257 0,.int 4 0,.ref 458,.int 260 0,.int 4 0,.ref 463,.int 264 0,.int 4 0,.ref 468],#[]⟩,hqB "Log" 628 178 347,hqW 349 346 bM,hqU [.ref 229],hqU [],hqN,hqU [.str "self" 641,.str "sieve" 642],hqU [],hqG 57 0 "__init__" "Log.__init__",hqM "__init__" "Log.__init__" 638 180 2 352 643,⟨.type "function",none,.func (L3 57 0 "__init__" "Log.__init__" 3 bM (.ref 357) 351),#[]⟩,hqU [],hqN,hqU [.str "self" 649],hqU [],hqG 57 1 "__len__" "Log.__len__",hqM "__len__" "Log.__len__" 646 187 1 359 650,hqF 57 1 "__len__" "Log.__len__" bM 364,hqU [],hqN,hqU [.str "self" 656,.str "other" 657],hqU [],hqG 57 2 "__eq__" "Log.__eq__",hqM "__eq__" "Log.__eq__" 653 190 2 366 658,hqF 57 2 "__eq__" "Log.__eq__" bM 371,hqU [],hqN,hqU [.str "self" 664],hqU [],hqG 57 3 "held" "Log.held",hqM "held" "Log.held" 661 195 1 373 665,hqF 57 3 "held" "Log.held" bM 378,hqU [],hqN,hqU [.str "self" 671],hqU [],hqG 57 4 "rows_with_falls" "Log.rows_with_falls",hqM "rows_with_falls" "Log.rows_with_falls" 668 198 1 380 672,hqF 57 4 "rows_with_falls" "Log.rows_with_falls" bM 385,hqU [],hqN,hqU [.str "self" 678,.str "held" 679,.str "rows" 680,.str "by_hand" 681],hqU [],hqG 57 5 "turn_to" "Log.turn_to",hqM "turn_to" "Log.turn_to" 675 201 2 387 682,hqF 57 5 "turn_to" "Log.turn_to" bM 392,hqU [],hqN,hqU [.str "self" 688,.str "rows" 689,.str "by_hand" 690],hqU [],hqG 57 6 "do_deed" "Log.do_deed",hqM "do_deed" "Log.do_deed" 685 206 3 394 691,hqF 57 6 "do_deed" "Log.do_deed" bM 399,hqU [],hqN,hqU [.str "self" 697,.str "moment" 698,.str "line" 699,.str "rows" 700],hqU [],hqG 57 7 "come" "Log.come",hqM "come" "Log.come" 694 211 3 401 701,hqF 57 7 "come" "Log.come" bM 406,hqU [],hqN,hqU [.str "self" 707,.str "pattern" 708,.str "by_hand" 709],hqU [],hqG 57 8 "put" "Log.put",hqM "put" "Log.put" 704 222 2 408 710,hqF 57 8 "put" "Log.put" bM 413,hqU [],hqN,hqG 57 9 "take" "Log.take",hqO "take" "Log.take" 713 230 2 415,hqF 57 9 "take" "Log.take" bM 418,hqU [],hqN,hqU [.str "self" 722],hqU [],hqG 57 10 "back" "Log.back",hqM "back" "Log.back" 719 236 1 420 723,hqF 57 10 "back" "Log.back" bM 425,hqU [],hqN,hqU [.str "self" 729],hqU [],hqG 57 11 "again" "Log.again",hqM "again" "Log.again" 726 242 1 427 730,hqF 57 11 "again" "Log.again" bM 432,hqU [],hqN,hqU [.str "self" 736],hqU [],hqG 57 12 "moves" "Log.moves",hqM "moves" "Log.moves" 733 248 1 434 737,hqF 57 12 "moves" "Log.moves" bM 439,hqU [],hqN,hqG 57 13 "patterns" "Log.patterns",hqO "patterns" "Log.patterns" 740 251 1 441,hqF 57 13 "patterns" "Log.patterns" bM 444,hqU [],hqN,hqU [.str "self" 749,.str "number" 750],hqU [],hqG 57 14 "under" "Log.under",hqM "under" "Log.under" 746 254 2 446 751,hqF 57 14 "under" "Log.under" bM 451,hqU [],hqN,hqU [.str "self" 757,.str "line" 758],hqU [],hqG 57 15 "would_fall" "Log.would_fall",hqM "would_fall" "Log.would_fall" 754 257 2 453 759,hqF 57 15 "would_fall" "Log.would_fall" bM 458,hqU [],hqN,hqG 57 16 "counts" "Log.counts",hqO "counts" "Log.counts" 762 260 3 460,hqF 57 16 "counts" "Log.counts" bM 463,hqU [],hqN,hqG 57 17 "holes" "Log.holes",hqO "holes" "Log.holes" 768 264 2 465,hqF 57 17 "holes" "Log.holes" bM 468,hqU [.str "ahead" 774,.str "past" 775,.str "sieve" 776,.str "state" 777,.str "taken_back" 778],⟨.type "dict",none,.dict #[hEn P "__module__" 633 bM,hEn P "__firstlineno__" 637 (.int 178 636),hqR P "__init__" 645 358,hqR P "__len__" 652 365,hqR P "__eq__" 660 372,hqR P "held" 667 379,hqR P "rows_with_falls" 674 386,hqR P "turn_to" 684 393,hqR P "do_deed" 693 400,hqR P "come" 703 407,hqR P "put" 712 414,hqR P "take" 718 419,hqR P "back" 725 426,hqR P "again" 732 433,hqR P "moves" 739 440,hqR P "patterns" 745 445,hqR P "under" 753 452,hqR P "would_fall" 761 459,hqR P "counts" 767 464,hqR P "holes" 773 469,hqR P "__static_attributes__" 779 470,hqR P "__dict__" 781 473,hqR P "__weakref__" 783 474,hEn P "__doc__" 784 (.none),hEn P "__hash__" 785 (.none)] 5,#[]⟩,⟨.type "type",none,.cls { name:= "Log",bases:=[.type "object"],mro:=[.ref 472,.type "object"],ns:=471,qualname:= "Log",hasDict:=true,slotNames:=[],subclasses:=[],abstract:=false,collection:=none,hasDel:=false },#[none,none,some (.str "Log" 626),some (.str "Log" 634),some (.builtin "object.__new__"),some (.bool true)]⟩,⟨.type "getset_descriptor",none,.fields #[.str "__dict__" 780,.ref 472,.builtin "function.__dict__",.builtin "function.__dict__#set"],#[]⟩,⟨.type "getset_descriptor",none,.fields #[.str "__weakref__" 782,.ref 472,.builtin "ExceptionGroup.__weakref__",.none],#[]⟩,hqS 472,hqI "object.__init_subclass__" 472]
noncomputable def mH0 (P:Params):Heap:=⟨(mS0 P++(([⟨.type "dict",none,.dict (hEn P "__name__" 165 ip::Pq P).toArray 14,#[]⟩]:List Obj)++(mS4 P++(([⟨.none,none,.fields Pp.toArray,#[]⟩]:List Obj)++(HU P++(([⟨.type "type",none,.cls { name:= "GatherError",bases:=[.type "ValueError"],mro:=[.ref 31,.type "ValueError",.type "Exception",.type "BaseException",.type "object"],ns:=30,qualname:= "GatherError",hasDict:=true,slotNames:=[],subclasses:=[.ref 44,.ref 56,.ref 75],abstract:=false,collection:=none,hasDel:=false },#[some (.ref 22),none,some (.str "GatherError" 196),some (.str "GatherError" 204),some (.builtin "ValueError.__new__"),some (.bool true)]⟩]:List Obj)++(F1 P))))))).toArray,(Yi P).life⟩
noncomputable def mH1 (P:Params):Heap:=⟨(mS0 P++(([⟨.type "dict",none,.dict (hEn P "__name__" 165 iA::OB P).toArray 36,#[]⟩]:List Obj)++(mS4 P++(([⟨.none,none,.fields Np.toArray,#[]⟩]:List Obj)++(HU P++(([⟨.type "type",none,.cls { name:= "GatherError",bases:=[.type "ValueError"],mro:=[.ref 31,.type "ValueError",.type "Exception",.type "BaseException",.type "object"],ns:=30,qualname:= "GatherError",hasDict:=true,slotNames:=[],subclasses:=[.ref 44,.ref 56,.ref 75,.ref 87,.ref 99,.ref 111],abstract:=false,collection:=none,hasDel:=false },#[some (.ref 22),none,some (.str "GatherError" 196),some (.str "GatherError" 204),some (.builtin "ValueError.__new__"),some (.bool true)]⟩]:List Obj)++(F1 P++(Jj P)))))))).toArray,(Yi P).life⟩
noncomputable def mH2 (P:Params):Heap:=⟨(mS0 P++(([⟨.type "dict",none,.dict (hEn P "__name__" 165 bM::O5 P).toArray 59,#[]⟩]:List Obj)++(mS4 P++(([⟨.none,none,.fields PH.toArray,#[]⟩]:List Obj)++(HU P++(([⟨.type "type",none,.cls { name:= "GatherError",bases:=[.type "ValueError"],mro:=[.ref 31,.type "ValueError",.type "Exception",.type "BaseException",.type "object"],ns:=30,qualname:= "GatherError",hasDict:=true,slotNames:=[],subclasses:=[.ref 44,.ref 56,.ref 75,.ref 87,.ref 99,.ref 111],abstract:=false,collection:=none,hasDel:=false },#[some (.ref 22),none,some (.str "GatherError" 196),some (.str "GatherError" 204),some (.builtin "ValueError.__new__"),some (.bool true)]⟩]:List Obj)++(F1 P++(Jj P++(Gk P))))))))).toArray,(Yi P).life⟩
noncomputable def mH3 (P:Params):Heap:=⟨(mS0 P++(([⟨.type "dict",none,.dict (hEn P "__name__" 165 bM::Oz P).toArray 60,#[]⟩]:List Obj)++(mS4 P++(([⟨.none,none,.fields OA.toArray,#[]⟩]:List Obj)++(HU P++(([⟨.type "type",none,.cls { name:= "GatherError",bases:=[.type "ValueError"],mro:=[.ref 31,.type "ValueError",.type "Exception",.type "BaseException",.type "object"],ns:=30,qualname:= "GatherError",hasDict:=true,slotNames:=[],subclasses:=[.ref 44,.ref 56,.ref 75,.ref 87,.ref 99,.ref 111],abstract:=false,collection:=none,hasDel:=false },#[some (.ref 22),none,some (.str "GatherError" 196),some (.str "GatherError" 204),some (.builtin "ValueError.__new__"),some (.bool true)]⟩]:List Obj)++(F1 P++(Jj P++(Gk P++(KU P)))))))))).toArray,(Yi P).life⟩
noncomputable def mH4 (P:Params):Heap:=⟨(mS0 P++(([⟨.type "dict",none,.dict (hEn P "__name__" 165 bM::NK P).toArray 61,#[]⟩]:List Obj)++(mS4 P++(([⟨.none,none,.fields QI.toArray,#[]⟩]:List Obj)++(HU P++(([⟨.type "type",none,.cls { name:= "GatherError",bases:=[.type "ValueError"],mro:=[.ref 31,.type "ValueError",.type "Exception",.type "BaseException",.type "object"],ns:=30,qualname:= "GatherError",hasDict:=true,slotNames:=[],subclasses:=[.ref 44,.ref 56,.ref 75,.ref 87,.ref 99,.ref 111],abstract:=false,collection:=none,hasDel:=false },#[some (.ref 22),none,some (.str "GatherError" 196),some (.str "GatherError" 204),some (.builtin "ValueError.__new__"),some (.bool true)]⟩]:List Obj)++(F1 P++(Jj P++(Gk P++(KU P++(OK P))))))))))).toArray,(Yi P).life⟩
def mB:List Stmt:=PySem.W.behindTheImports Y0
def qu:Env:={ scope:=Y0.main.scope,locals:=mainNs,globals:=mainNs,cells:=[],code:=.ref 13,frame:=some 14 }
def mC:Code:=.body mB qu
theorem mSz (w:Ze):((Yi w.params).isNs mainGlobals,(Yi w.params).objs.size,(Yi w.params).nsMap mainGlobals "__annotations__")=(true,11,some (.ref 6)):=by kernel_rfl
theorem mR0 (w:Ze) (a:OsState):(PySem.W.topGo treeTable Y0 w 11 (some (.ref 6)) 12 ⟨Yi w.params,Array.mk [],PySem.W.boot_drawn,PySem.W.boot_toks,a⟩ (PySem.W.topStub Y0)).bind (λx=>(YX treeTable Y0 w 11 (some (.ref 6)) 1 1 x.1 (PySem.W.blockOf mB qu mC ⟨0,0,0,0⟩ [YF ⟨0,0,0,0⟩])).bind λy=>(YX treeTable Y0 w 11 (some (.ref 6)) 1 896 y.2.1 (YY (mB.take 6) qu mC y.2.2.2 [YF ⟨0,0,0,0⟩])).map λz=>(x.2,y.1,y.2.2.1,z))=some (⟨denote treeTable mC,mC,⟨0,0,0,0⟩,[YF ⟨0,0,0,0⟩]⟩,.next,mC,(.next,⟨mH0 w.params,Array.mk [],⟨0,0,0,0⟩,271,a⟩,mC,⟨11,0,15,24⟩)):=by kernel_rfl
theorem mR1 (w:Ze) (a:OsState):YX treeTable Y0 w 11 (some (.ref 6)) 1 1094 ⟨mH0 w.params,Array.mk [],⟨0,0,0,0⟩,271,a⟩ (YY ((mB.drop 6).take 24) qu mC ⟨11,0,15,24⟩ [YF ⟨0,0,0,0⟩])=some (.next,⟨mH1 w.params,Array.mk [],⟨0,0,0,0⟩,433,a⟩,mC,⟨76,0,80,48⟩):=by kernel_rfl
theorem mR2 (w:Ze) (a:OsState):YX treeTable Y0 w 11 (some (.ref 6)) 1 617 ⟨mH1 w.params,Array.mk [],⟨0,0,0,0⟩,433,a⟩ (YY ((mB.drop 30).take 26) qu mC ⟨76,0,80,48⟩ [YF ⟨0,0,0,0⟩])=some (.next,⟨mH2 w.params,Array.mk [],⟨0,0,0,0⟩,588,a⟩,mC,⟨163,0,165,94⟩):=by kernel_rfl
theorem mR3 (w:Ze) (a:OsState):YX treeTable Y0 w 11 (some (.ref 6)) 1 254 ⟨mH2 w.params,Array.mk [],⟨0,0,0,0⟩,588,a⟩ (YY ((mB.drop 56).take 1) qu mC ⟨163,0,165,94⟩ [YF ⟨0,0,0,0⟩])=some (.next,⟨mH3 w.params,Array.mk [],⟨0,0,0,0⟩,626,a⟩,mC,⟨166,0,177,16⟩):=by kernel_rfl
theorem mR4 (w:Ze) (a:OsState):YX treeTable Y0 w 11 (some (.ref 6)) 1 766 ⟨mH3 w.params,Array.mk [],⟨0,0,0,0⟩,626,a⟩ (YY ((mB.drop 57).take 1) qu mC ⟨166,0,177,16⟩ [YF ⟨0,0,0,0⟩])=some (.next,⟨mH4 w.params,Array.mk [],⟨0,0,0,0⟩,788,a⟩,mC,⟨178,0,269,85⟩):=by kernel_rfl
theorem mZ (w:Ze) (a:OsState):(YX treeTable Y0 w 11 (some (.ref 6)) 1 327 ⟨mH4 w.params,Array.mk [],⟨0,0,0,0⟩,788,a⟩ (YY (mB.drop 58) qu mC ⟨178,0,269,85⟩ [YF ⟨0,0,0,0⟩])).bind (λz=>(PySem.W.topRun treeTable Y0 w 11 (some (.ref 6)) 2 z.2.1 ⟨PySem.W.doneF .next,mC,z.2.2.2,[YF ⟨0,0,0,0⟩]⟩).map λr=>(z.1,z.2.2.1,(PySem.W.staticsOk (importedModules Y0.main.body) (Yi w.params) r.heap && PySem.W.namesBound Y0 r.heap && PySem.W.gensDone r && PySem.W.laidKept (Yi w.params) r.heap),PySem.W.openSeen hV hLo (importedModules Y0.main.body) hX true r,hH.obs r))=some (.next,mC,true,PySem.W.openGood hV hLo,hH.val w):=by kernel_rfl
theorem mT4 (w:Ze) (a:OsState):L2.qZ Y0 hV hLo hX hH.obs hH.val Yi 11 (some (.ref 6)) qu mC ⟨0,0,0,0⟩ (766+(327+2)) (mB.drop 57) ⟨166,0,177,16⟩ w ⟨mH3 w.params,Array.mk [],⟨0,0,0,0⟩,626,a⟩:=L2.pL (mR4 w a) (L2.xD mB 57 1) (L2.GA (mZ w a))
theorem mT3 (w:Ze) (a:OsState):L2.qZ Y0 hV hLo hX hH.obs hH.val Yi 11 (some (.ref 6)) qu mC ⟨0,0,0,0⟩ (254+(766+(327+2))) (mB.drop 56) ⟨163,0,165,94⟩ w ⟨mH2 w.params,Array.mk [],⟨0,0,0,0⟩,588,a⟩:=L2.pL (mR3 w a) (L2.xD mB 56 1) (mT4 w a)
theorem mT2 (w:Ze) (a:OsState):L2.qZ Y0 hV hLo hX hH.obs hH.val Yi 11 (some (.ref 6)) qu mC ⟨0,0,0,0⟩ (617+(254+(766+(327+2)))) (mB.drop 30) ⟨76,0,80,48⟩ w ⟨mH1 w.params,Array.mk [],⟨0,0,0,0⟩,433,a⟩:=L2.pL (mR2 w a) (L2.xD mB 30 26) (mT3 w a)
theorem mT1 (w:Ze) (a:OsState):L2.qZ Y0 hV hLo hX hH.obs hH.val Yi 11 (some (.ref 6)) qu mC ⟨0,0,0,0⟩ (1094+(617+(254+(766+(327+2))))) (mB.drop 6) ⟨11,0,15,24⟩ w ⟨mH0 w.params,Array.mk [],⟨0,0,0,0⟩,271,a⟩:=L2.pL (mR1 w a) (L2.xD mB 6 24) (mT2 w a)
theorem hL:PySem.W.LeftO Y0 hV hLo hX hH.obs hH.val 8022:=L2.GF (c:=mC) (env:=qu) (b:=mB) (n2:=1094+(617+(254+(766+(327+2))))) rfl (List.take_append_drop 6 mB) (PySem.W.boot_open (by kernel_rfl) (by decide) (λs=>by kernel_rfl)) mSz mR0 (λw a=>mT1 w a) (by decide)
end K37
namespace L2
open PySem PySem.Spec PyProof.Rows
abbrev Key:=Sum Int Str
def sO:Key->Wy->Bool
 | .inl k,v=>Value.isInt k v
 | .inr x,v=>Value.isStrOf x v
def Rt (w:Ze):Key->Int
 | .inl k=>hashInt k
 | .inr x=>hashStr w x
theorem bV:∀{k:Key}{v:Wy},sO k v=true->(∃i t,k=Sum.inl i/\v=Value.int i t)\/(∃x t,k=Sum.inr x/\v=Value.str x t)
 | .inl i,v,h=>by
  obtain⟨t,e⟩:=Value.isInt_shape (k:=i) (v:=v) h;exact .inl ⟨i,t,rfl,e⟩
 | .inr x,v,h=>by
  obtain⟨t,e⟩:=Value.isStrOf_shape (x:=x) (v:=v) h;exact .inr ⟨x,t,rfl,e⟩
theorem EG (i:Int) (t:Tok):sO (.inl i) (.int i t)=true:=by simp[sO,Value.isInt]
theorem Ez (x:Str) (t:Tok):sO (.inr x) (.str x t)=true:=by simp[sO,Value.isStrOf]
theorem L6 (a b:Int):decide ((Sum.inl a:Key)=Sum.inl b)=(a == b):=by
 by_cases e:a=b
 ·subst e;simp
 ·have h:¬ (Sum.inl a:Key)=Sum.inl b:=λq=>e (Sum.inl.inj q);rw[Zl h];exact(beq_eq_false_iff_ne.mpr e).symm
theorem LD (a b:Str):decide ((Sum.inr a:Key)=Sum.inr b)=decide (a=b):=by
 by_cases e:a=b
 ·subst e;simp
 ·have h:¬ (Sum.inr a:Key)=Sum.inr b:=λq=>e (Sum.inr.inj q);rw[Zl h,Zl e]
theorem LB (a:Int) (b:Str):decide ((Sum.inl a:Key)=Sum.inr b)=false:=Zl (λq=>nomatch q)
theorem Mj (a:Str) (b:Int):decide ((Sum.inr a:Key)=Sum.inl b)=false:=Zl (λq=>nomatch q)
def bh (prog:Zd) (w:Ze):PySem.KeyKind prog w Key where
 is:=sO
 hash:=Rt w
 inj:=λv a b ha hb=>by
  rcases bV ha with⟨i,t,rfl,rfl⟩ | ⟨x,t,rfl,rfl⟩
  ·rcases bV hb with⟨j,u,rfl,e⟩ | ⟨y,u,rfl,e⟩
   ·injection e with e1 _;rw[e1]
   ·exact nomatch e
  ·rcases bV hb with⟨j,u,rfl,e⟩ | ⟨y,u,rfl,e⟩
   ·exact nomatch e
   ·injection e with e1 _;rw[e1]
 byValue:=λk v h=>by
  rcases bV h with⟨i,t,rfl,rfl⟩ | ⟨x,t,rfl,rfl⟩ <;> rfl
 pyHash:=λhv h=>by
  rcases bV hv with⟨i,t,rfl,rfl⟩ | ⟨x,t,rfl,rfl⟩
  ·exact wpAny_pyHash_int h
  ·exact wpAny_pyHash_str h
 eqBool:=λhu hv h=>by
  rcases bV hu with⟨i,t,rfl,rfl⟩ | ⟨x,t,rfl,rfl⟩
  ·rcases bV hv with⟨j,u,rfl,rfl⟩ | ⟨y,u,rfl,rfl⟩
   ·rw[L6]at h;exact wpAny_eqBool_int h
   ·rw[LB]at h;exact SeqAt.EqAt.int_str i t y u _ _ _ _ h
  ·rcases bV hv with⟨j,u,rfl,rfl⟩ | ⟨y,u,rfl,rfl⟩
   ·rw[Mj]at h;exact SeqAt.EqAt.str_int x t j u _ _ _ _ h
   ·rw[LD]at h;exact wpAny_eqBool_str h
 «strs»:=λk x t v h=>by
  rcases bV h with⟨i,u,rfl,e⟩ | ⟨y,u,rfl,e⟩
  ·exact nomatch e
  ·injection e with e1 _;subst e1;cases v <;> rfl
theorem zB (prog:Zd) (w:Ze) (i:Int) (t:Tok):(bh prog w).is (.inl i) (.int i t)=true:=EG i t
theorem iN (prog:Zd) (w:Ze) (x:Str) (t:Tok):(bh prog w).is (.inr x) (.str x t)=true:=Ez x t
inductive V where
 | non | bl (b:Bool) | int (i:Int) | str (x:Str) | byt (b:Array UInt8) | flt (b:UInt64) | ref (a:Za) | ty (n:String)
 deriving DecidableEq
abbrev WD:=List V
def RelV:V->Wy->Prop
 | .non,u=>u=Value.none
 | .bl b,u=>u=Value.bool b
 | .int i,u=>∃t,u=Value.int i t
 | .str x,u=>∃t,u=Value.str x t
 | .byt b,u=>∃t,u=Value.bytes b t
 | .flt b,u=>∃t,u=Value.float b t
 | .ref a,u=>u=Value.ref a
 | .ty n,u=>u=Value.type n
abbrev aO:WD->WJ->Prop:=Paired RelV
theorem aO.length {xs:WD}{us:WJ} (r:aO xs us):xs.length=us.length:=Paired.length r
theorem aO.get:∀{xs:WD}{us:WJ}{i:Nat}{x:V},aO xs us->xs[i]? = some x->∃u,us[i]? = some u/\RelV x u
 | _,_,_,_,.nil,e=>by simp at e
 | _,_,0,_,.cons r _,e=>by simp at e;subst e;exact⟨_,rfl,r⟩
 | _,_,i+1,x,.cons _ t,e=>by
  obtain⟨u,b,a⟩:=aO.get (i:=i) (x:=x) t (by simpa using e);exact⟨u,by simpa using b,a⟩
theorem aO.set {x:V}{u:Wy} (r:RelV x u):∀{xs:WD}{us:WJ} (i:Nat),aO xs us->aO (xs.set i x) (us.set i u)
 | _,_,_,.nil=>.nil
 | _,_,0,.cons _ t=>.cons r t
 | _,_,i+1,.cons q t=>.cons q (aO.set r i t)
theorem aO.append:∀{xs ys:WD}{us ws:WJ},aO xs us->aO ys ws->aO (xs++ys) (us++ws)
 | _,_,_,_,.nil,s=>s
 | _,_,_,_,.cons r t,s=>.cons r (aO.append t s)
theorem aO.take:∀{xs:WD}{us:WJ} (n:Nat),aO xs us->aO (xs.take n) (us.take n)
 | _,_,0,_=>.nil
 | _,_,_+1,.nil=>.nil
 | _,_,n+1,.cons r t=>.cons r (aO.take n t)
theorem aO.drop:∀{xs:WD}{us:WJ} (n:Nat),aO xs us->aO (xs.drop n) (us.drop n)
 | _,_,0,r=>r
 | _,_,_+1,.nil=>.nil
 | _,_,n+1,.cons _ t=>aO.drop n t
theorem aO.none_of:∀{xs:WD}{us:WJ}{i:Nat},aO xs us->xs[i]? = none->us[i]? = none:=λ{xs us i} r e=>by
 have h1:=r.length;have h2:xs.length<=i:=Vq.mp e;exact Vq.mpr (by lia)
def kB:Option V->Option Wy->Prop
 | some v,some u=>RelV v u
 | none,none=>True
 | _,_=>False
def KV {κ:Type}:List (κ×V)->List (κ×Wy)->Prop:=Paired λ(p:κ×V) (q:κ×Wy)=>p.1=q.1/\RelV p.2 q.2
def kV:Key->V
 | .inl i=>.int i
 | .inr x=>.str x
inductive HO where
 | lst (xs:WD)
 | tup (xs:WD)
 | dK (kvs:List (Key×V)) | dT (kvs:List (List Key×V))
 | set (S:Int->Bool) (n:Nat)
 | ins (C dx:Za) (fs:List (Str×V))
 | own (x:Za)
 | xd (fs:List (Str×V))
 | met (f x:Za)
 | rng (lo hi:Int)
 | frz (o:Obj) (u:HO)
 | tbl (ps:WG)
 | ext (φ:Heap->Prop)
abbrev Hp:=Za->Option HO
def upd (H:Hp) (a:Za) (o:HO):Hp:=λb=>if b=a then some o else H b
theorem nn {α β:Type}{f:α->β}{a b:α}{p q:β} (e:f a=p) (h:f b=q) (n:p≠q:=by nofun):a≠b:=λz=>by rw[z,h]at e;exact n e.symm
theorem nT (x:Str):[x].Nodup:=by simp
theorem ab {H:Hp}{a:Za}{o:HO}:upd H a o a=some o:=by unfold upd;rw[Zn rfl]
theorem ao {H:Hp}{a b:Za}{o:HO} (h:b≠a):upd H a o b=H b:=by unfold upd;rw[Zo h]
theorem aw {H:Hp}{a b:Za}{o:HO} (h:H a=some o) (h':H b=none):a≠b:=by
 intro e;subst e;rw[h]at h';cases h'
section
variable (P:Zd) (w:Ze)
def bO (H:Hp) (h:Heap) (a:Za):HO->Prop
 | .lst xs=>xs.length<=Zg/\∃(its:WJ) (n:Nat),aO xs its/\h.get? a=some { cls:=.type "list",data:=.seq its.toArray n }
 | .tup xs=>xs.length<=Zg/\∃its:WJ,aO xs its/\IsTup h a its.toArray
 | .dK kvs=>kvs.length<=Zg/\(a == sysModules)=false/\∃vs,KV kvs vs/\h.DictOf (bh P w) a vs
 | .dT kvs=>kvs.length<=Zg/\(a == sysModules)=false/\∃xs:List (List Key×Za×Wy),
   Paired (λ(p:List Key×V) (q:List Key×Za×Wy)=>p.1=q.1/\H q.2.1=some (.tup (p.1.map kV))/\RelV p.2 q.2.2) kvs xs /\
   ∃o es ep,h.get? a=some o/\o.ExactDict/\o.data = .dict es ep/\es.toList=xs.map (entryOfKey (tupleKind (bh P w)))/\(xs.map (·.1)).Nodup
 | .set S n=>h.SetOf (intKind P w) a S n
 | .ins C dx fs=>H dx=some (.own a)/\fs.length<=1000/\dx≠a/\h.get? a=some (YK C dx) /\
   ∃mA,h.Ns1 dx mA/\(∀f,kB (fs.lookup f) (mA f))/\PySem.Within mA (fs.map (·.1))
 | .own _=>∃o,h.get? a=some o
 | .xd fs=>∃mA,h.Ns1 a mA/\∀f,kB (fs.lookup f) (mA f)
 | .rng lo hi=>∃t u v,h.get? a=some { cls:=.type "range",data:=.fields #[.int lo t,.int hi u,.int 1 v] }
 | .frz o u=>h.get? a=some o/\bO H h a u
 | .tbl ps=>h.get? a=some { cls:=.none,data:=.fields ps }
 | .met f x=>h.get? a=some (PySem.W.methodObj (.ref f) (.ref x))
 | .ext φ=>φ h/\(∃o,h.get? a=some o)/\∀h1 h2:Heap,φ h1->(∀o,h1.get? a=some o->h2.get? a=some o)->φ h2
def HOk (H:Hp) (h:Heap):Prop:=∀a o,H a=some o->bO P w H h a o
end
section
variable {P:Zd}{w:Ze}{H H':Hp}{h h':Heap}{a:Za}{o:HO}
theorem bO.lt (x:bO P w H h a o):a<h.objs.size:=by
 cases o with
 | lst d=>obtain⟨_,_,_,_,e⟩:=x;exact Y2 e
 | tup d=>obtain⟨_,_,_,p⟩:=x;exact p.lt
 | dK b=>obtain⟨_,_,_,_,o,_,_,e,_⟩:=x;exact Y2 e
 | dT b=>obtain⟨_,_,_,_,o,_,_,e,_⟩:=x;exact Y2 e
 | set S n=>obtain⟨o,_,_,_,e,_⟩:=x;exact Y2 e
 | ins C _ c=>obtain⟨_,_,_,e,_⟩:=x;exact Y2 e
 | own y=>obtain⟨_,e⟩:=x;exact Y2 e
 | xd c=>obtain⟨_,⟨_,_,_,e,_⟩,_⟩:=x;exact Y2 e
 | rng _ _=>obtain⟨_,_,_,e⟩:=x;exact Y2 e
 | frz _ u=>obtain⟨e,_⟩:=x;exact Y2 e
 | tbl _=>exact Y2 (show h.get? a=some _ from x)
 | met f y=>exact Y2 (show h.get? a=some _ from x)
 | ext _=>obtain⟨_,⟨_,e⟩,_⟩:=x;exact Y2 e
theorem Paired.PB {α β:Type}{F G:α->β->Prop}:∀{l₁:List α}{l₂:List β},Paired F l₁ l₂->(∀a b,F a b->G a b)->Paired G l₁ l₂
 | _,_,.nil,_=>.nil
 | _,_,.cons r t,f=>.cons (f _ _ r) (Paired.PB t f)
theorem bO.gv (x:bO P w H h a o) (k:∀b u,(b=a\/H b=some (.own a))->h.get? b=some u->h'.get? b=some u)
  (I:∀b,H b=some (.own a)->H' b=some (.own a)) (E:∀b xs,H b=some (.tup xs)->H' b=some (.tup xs)):bO P w H' h' a o:=by
 induction o with
 | lst xs=>obtain⟨z,l,n,r,e⟩:=x;exact⟨z,l,n,r,k _ _ (.inl rfl) e⟩
 | tup xs=>obtain⟨z,l,r,g,e,c⟩:=x;exact⟨z,l,r,g,k _ _ (.inl rfl) e,c⟩
 | dK m=>obtain⟨z,y,L,r,g,i,j,e,c⟩:=x;exact⟨z,y,L,r,g,i,j,k _ _ (.inl rfl) e,c⟩
 | dT m=>
  obtain⟨z,y,xs,r,g,i,j,e,c⟩:=x;exact⟨z,y,xs,Paired.PB r λp q z=>⟨z.1,E _ _ z.2.1,z.2.2⟩,g,i,j,k _ _ (.inl rfl) e,c⟩
 | set S n=>obtain⟨g,i,j,t,e,c⟩:=x;exact⟨g,i,j,t,k _ _ (.inl rfl) e,c⟩
 | ins C _ G=>
  obtain⟨d,z,F,e,s,⟨A,i,j,K,c⟩,r⟩:=x;exact⟨I _ d,z,F,k _ _ (.inl rfl) e,s,⟨A,i,j,k _ _ (.inr d) K,c⟩,r⟩
 | own y=>obtain⟨g,e⟩:=x;exact⟨g,k _ _ (.inl rfl) e⟩
 | xd G=>obtain⟨s,⟨A,i,j,e,c⟩,r⟩:=x;exact⟨s,⟨A,i,j,k _ _ (.inl rfl) e,c⟩,r⟩
 | rng _ _=>obtain⟨t,u,v,e⟩:=x;exact⟨t,u,v,k _ _ (.inl rfl) e⟩
 | frz g u J=>obtain⟨e,q⟩:=x;exact⟨k _ _ (.inl rfl) e,J q⟩
 | tbl D=>
  have e:h.get? a=some { cls:=.none,data:=.fields D }:=x;show h'.get? a=some { cls:=.none,data:=.fields D };exact k a _ (.inl rfl) e
 | met f y=>
  have e:h.get? a=some (PySem.W.methodObj (.ref f) (.ref y)):=x;show h'.get? a=some (PySem.W.methodObj (.ref f) (.ref y));exact k a _ (.inl rfl) e
 | ext _=>obtain⟨p,⟨o,e⟩,B⟩:=x;exact⟨B _ _ p λo q=>k _ _ (.inl rfl) q,⟨o,k _ _ (.inl rfl) e⟩,B⟩
theorem HOk.lt (x:HOk P w H h) (e:H a=some o):a<h.objs.size:=(x a o e).lt
theorem HOk.fresh (x:HOk P w H h) (e:h.objs.size<=a):H a=none:=by
 cases q:H a with
 | none=>rfl
 | some u=>exact absurd (T9 (x.lt q) e) (Uz _)
theorem HOk.kept (x:HOk P w H h) (k:∀b u,h.get? b=some u->h'.get? b=some u):HOk P w H h':=λa o e=>
 (x a o e).gv (λb u _ q=>k b u q) (λ_ q=>q) λ_ _ q=>q
theorem HOk.laid (x:HOk P w H h) (k:∀b u,h.get? b=some u->h'.get? b=some u) (i:h.objs.size<=a) (d:bO P w (upd H a o) h' a o):HOk P w (upd H a o) h':=λb u e=>by
 have f:=x.fresh i;by_cases g:b=a
 ·subst g;rw[ab]at e;cases e;exact d
 ·rw[ao g]at e;exact(x b u e).gv (λc v _ q=>k c v q) (λc q=>by rw[ao (aw q f)];exact q) λc _ q=>by rw[ao (aw q f)];exact q
end
def Rd (H:Hp) (a:Za) (u:HO):Prop:=H a=some u\/∃o,H a=some (.frz o u)
theorem Rd.of {H:Hp}{a:Za}{u:HO} (h:H a=some u):Rd H a u:=.inl h
theorem Rd.ok {P:Zd}{w:Ze}{H:Hp}{h:Heap}{a:Za}{u:HO} (r:Rd H a u) (x:HOk P w H h):bO P w H h a u:=by
 rcases r with r | ⟨o,r⟩
 ·exact x a u r
 ·obtain⟨_,q⟩:=x a _ r;exact q
def Mut:Option HO->Prop
 | some (.lst _)=>True
 | some (.dK _)=>True
 | some (.dT _)=>True
 | some (.set _ _)=>True
 | some (.ins _ _ _)=>True
 | some (.ext _)=>True
 | _=>False
section
variable {P:Zd}{w:Ze}{H:Hp}{h h':Heap}{x e:Za}{o':HO}
theorem HOk.write (p:HOk P w H h) (mu:Mut (H x)) (n:e=x\/H e=some (.own x)) (k:∀b u,b≠e->h.get? b=some u->h'.get? b=some u) (i:∃u,h'.get? e=some u)
  (j:bO P w (upd H x o') h' x o'):HOk P w (upd H x o') h':=λb u q=>by
 have m:∀c y,H c=some (.own y)->c≠x:=λc y r z=>by subst z;rw[r]at mu;exact mu
 have o:∀c d,H c=some (.tup d)->c≠x:=λc d r z=>by subst z;rw[r]at mu;exact mu
 by_cases f:b=x
 ·subst f;rw[ab]at q;cases q;exact j
 ·rw[ao f]at q;by_cases a:b=e
  ·have l:H b=some (.own x):=by
    rcases n with z | z
    ·exact absurd (a.trans z) f
    ·rw[a];exact z
   rw[q]at l;cases l;obtain⟨v,s⟩:=i;exact⟨v,by rw[a];exact s⟩
  ·refine(p b u q).gv (λc v g r=>k c v ?_ r) (λc r=>by rw[ao (m c b r)];exact r) λc d r=>by rw[ao (o c d r)];exact r
   rcases g with rfl | g
   ·exact a
   ·rintro rfl;rcases n with z | z
    ·exact m c b g z
    ·rw[g]at z;cases z;exact f rfl
end
structure Un (fs ex:WH) (H H':Hp) (h h':Heap):Prop where
 keep:∀b o,h.get? b=some o->H b=none->b∉fs->b∉ex->h'.get? b=some o
 slot:∀b o,h.get? b=some o->H b=none->b∈fs->b∉ex->∃sl,h'.get? b=some { o with slots:=sl }
 free:∀b o,h.get? b=some o->H b=none->b∉ex->H' b=none
 there:∀b o,h.get? b=some o->b∉ex->∃o',h'.get? b=some o'
 uy:∀b xs,H b=some (.tup xs)->H' b=some (.tup xs)
 rQ:∀b o u,H b=some (.frz o u)->H' b=some (.frz o u)
 rF:∀b ps,H b=some (.tbl ps)->∃more,H' b=some (.tbl (ps++more))
section
variable {fs fs' ex ex':WH}{H H1 H2:Hp}{h h1 h2 h':Heap}{a x e:Za}{o:HO}
theorem Un.any (u:Un fs ex H H1 h h1) {b:Za}{a:Obj} (q:h.get? b=some a) (n:H b=none) (hx:b∉ex):∃sl,h1.get? b=some { a with slots:=sl }:=by
 by_cases c:b∈fs
 ·exact u.slot b a q n c hx
 ·exact⟨a.slots,u.keep b a q n c hx⟩
theorem Un.trans (a:Un fs ex H H1 h h1) (b:Un fs ex H1 H2 h1 h2):Un fs ex H H2 h h2 where
 keep:=λc d q n i e=>b.keep c d (a.keep c d q n i e) (a.free c d q n e) i e
 slot:=λc d q n i e=>by
  obtain⟨_,f⟩:=a.slot c d q n i e;obtain⟨l,k⟩:=b.slot c _ f (a.free c d q n e) i e;exact⟨l,k⟩
 free:=λc d q n e=>by
  obtain⟨j,f⟩:=a.there c d q e;exact b.free c j f (a.free c d q n e) e
 there:=λc d q e=>by
  obtain⟨j,f⟩:=a.there c d q e;exact b.there c j f e
 uy:=λc g q=>b.uy c g (a.uy c g q)
 rQ:=λc d g q=>b.rQ c d g (a.rQ c d g q)
 rF:=λc o q=>by
  obtain⟨m,f⟩:=a.rF c o q;obtain⟨p,k⟩:=b.rF c _ f;exact⟨m++p,by rw[k,Array.append_assoc]⟩
theorem Un.kept (k:∀b u,h.get? b=some u->h'.get? b=some u):Un fs ex H H h h':=
 ⟨λb a q _ _ _=>k b a q,λb a q _ _ _=>⟨a.slots,k b a q⟩,λ_ _ _ n _=>n,λb a q _=>⟨a,k b a q⟩,λ_ _ q=>q,λ_ _ _ q=>q,λ_ _ q=>⟨#[],by rw[q];simp⟩⟩
theorem Un.refl:Un fs ex H H h h:=Un.kept λ_ _ q=>q
theorem Un.laid (k:∀b u,h.get? b=some u->h'.get? b=some u) (e:h.objs.size<=a) (c:H a=none):Un fs ex H (upd H a o) h h' where
 keep:=λb u q _ _ _=>k b u q
 slot:=λb u q _ _ _=>⟨u.slots,k b u q⟩
 free:=λb u q n _=>by rw[ao (T5 (T9 (Y2 q) e))];exact n
 there:=λb u q _=>⟨u,k b u q⟩
 uy:=λb d q=>by rw[ao (aw q c)];exact q
 rQ:=λb u d q=>by rw[ao (aw q c)];exact q
 rF:=λb _ q=>⟨#[],by rw[ao (aw q c),q];simp⟩
theorem Un.write (mu:Mut (H x)) (l:e=x\/H e=some (.own x)) (k:∀b u,b≠e->h.get? b=some u->h'.get? b=some u) (c:∃u,h'.get? e=some u):Un fs ex H (upd H x o) h h':=by
 have g:∀b,H b=none->b≠x:=λb n z=>by subst z;rw[n]at mu;exact mu
 have f:∀b,H b=none->b≠e:=λb n z=>by
  subst z;rcases l with r | r
  ·exact g b n r
  ·rw[n]at r;cases r
 have d:∀b u,H b=some u -> ¬ Mut (some u)->b≠x:=λb u q j z=>by subst z;rw[q]at mu;exact j mu
 refine⟨λb u q n _ _=>k b u (f b n) q,λb u q n _ _=>⟨u.slots,k b u (f b n) q⟩,λb u q n _=>by rw[ao (g b n)];exact n,λb u q _=>?_,
  λb i q=>by rw[ao (d b _ q λz=>z)];exact q,λb u i q=>by rw[ao (d b _ q λz=>z)];exact q,λb _ q=>⟨#[],by rw[ao (d b _ q λz=>z),q];simp⟩⟩
 by_cases a:b=e
 ·subst a;exact c
 ·exact⟨u,k b u a q⟩
end
def trk (h:Heap) (H:Hp):WH:=(Y7 h.objs.size).filter λa=>(H a).isSome
def y9 (h:Heap) (H:Hp):Heap:=PySem.W.hideAll h (trk h H)
theorem Er (h:Heap) (H:Hp):(y9 h H).objs.size=h.objs.size:=PySem.W.hideAll_size _ _
theorem yJ {h:Heap}{H:Hp}{b:Za}{o:Obj} (e:h.get? b=some o) (n:H b=none):(y9 h H).get? b=some o:=
 PySem.W.hideAll_get _ e λhm=>by
  have q:(H b).isSome=true:=(Ud.mp hm).2;rw[n]at q;simp at q
theorem IY {h:Heap}{H:Hp}{b:Za}{o:Obj} (e:(y9 h H).get? b=some o):h.get? b=some o/\H b=none:=by
 have a:h.get? b=some o:=PySem.W.of_hideAll (trk h H) e;refine⟨a,?_⟩;cases q:H b with
 | none=>rfl
 | some x=>
  have c:b∈trk h H:=Ud.mpr ⟨Uo.mpr (Y2 a),by simp[q]⟩;have z:(y9 h H).get? b=none:=PySem.W.hideAll_none (trk h H) c;rw[z]at e;cases e
def Jz (g h:Heap) (L:Za):List (Za×Obj):=(Y7 h.objs.size).filterMap λa=>if a=L\/(g.get? a).isSome=true then none else(h.get? a).map λo=>(a,o)
def rest (g h:Heap) (L d:Za):List (Za×Obj):=(Jz g h L).filter λp=>decide (p.1≠d)
structure Mod (K:Wz) (mg:Str->Option Wy) (base:Heap):Prop where
 kin:K.In base
 glob:base.Ns mainGlobals mg
 blt:∃mb,base.Ns builtinsNs mb/\∀x:Str,x ≠ "__name__" -> mb x=bootBuiltins x
 nolimit:base.NoLimit
structure Cx where
 prog:Zd
 w:Ze
 K:Wz
 mg:Str->Option Wy
 base:Heap
 A:Zc
 N:WF
 s₀:Wx
 H₀:Hp
 env:Env
 outer:List Env
 stack:List Env
 ex:WH
 fn:Str->Bool
 calm:Bool
 pn:List (Za×Obj)
 xe:Wy->Wx->Prop
def frs (l:List Env):WH:=l.filterMap (·.frame)
abbrev Cx.fs (X:Cx):WH:=frs X.outer
def Vis (sc:Scope) (x:Str):Prop:=sc.names.lookup x=some .local\/sc.names.lookup x=some .cell\/sc.names.lookup x=some .free
def Loc (sc:Scope) (x:Str):Prop:=sc.names.lookup x=some .local\/sc.names.lookup x=some .cell
def Look (env:Env) (h:Heap) (m:Str->Option Wy) (x:Str) (u:Wy):Prop:=
 (env.kindOf x=some .local/\m x=some u)\/((env.kindOf x=some .cell\/env.kindOf x=some .free)/\∃c,env.cells.lookup x=some c/\h.IsCell c (some u))
structure Cx.Ok (X:Cx):Prop where
 mod:Mod X.K X.mg X.base
 kind:X.env.scope.kind = .function
 glob:X.env.globals=mainGlobals
 blt:X.env.builtins=builtinsNs
 above:X.s₀.heap.objs.size<=X.env.locals
 inj:∀x y c,X.env.cells.lookup x=some c->X.env.cells.lookup y=some c->x=y
 has:∀x,(X.env.kindOf x=some .cell\/X.env.kindOf x=some .free)->∃c,X.env.cells.lookup x=some c
 cab:∀x c,X.fn x=true->X.env.cells.lookup x=some c->X.s₀.heap.objs.size<=c
 hd:X.calm=true->X.A.handled=none
 frames:X.A.frames=some X.stack
 stk:X.stack=X.outer\/(X.stack=X.env::X.outer/\X.env.frame=some X.env.locals)
 exf:∀b∈X.ex,b≠X.env.locals/\∀x c,X.env.cells.lookup x=some c->c≠b
 bs:∀b o,X.base.get? b=some o->X.s₀.heap.get? b=some o/\X.H₀ b=none
 bsz:X.base.objs.size<=X.s₀.heap.objs.size
 G0:∀b o,X.base.get? b=some o->b∉X.ex
 Io:∀b∈X.ex,b∉X.fs
 pe:X.s₀.heap.FunFrames X.base X.outer
 frf:∀b∈X.fs,X.H₀ b=none
structure Inv (X:Cx) (pins:List (Za×Obj)) (σ:List (Option V)) (H:Hp) (s:Wx):Prop where
 ok:X.Ok
 os:s.os=X.s₀.os
 bare:AllBare s.gens
 base:Un X.fs X.ex X.H₀ H X.s₀.heap s.heap
 loc:∃m,s.heap.Ns X.env.locals m/\∀(i:Nat) (x:Str) (v:V),X.N[i]? = some x->σ[i]? = some (some v)->Vis X.env.scope x->∃u,RelV v u/\Look X.env s.heap m x u
 cell:∀x c,X.env.cells.lookup x=some c->∃v,s.heap.IsCell c v
 free:H X.env.locals=none
 kO:∀x c,X.env.cells.lookup x=some c->H c=none
 pin:∀p∈X.pn++pins,s.heap.get? p.1=some p.2/\H p.1=none/\p.1≠X.env.locals/\p.1∉X.fs/\∀v,p.2.data ≠ .cell v
 hok:HOk X.prog X.w H s.heap
 len:σ.length=X.N.length
section
variable {X:Cx}{pins:List (Za×Obj)}{σ:List (Option V)}{H H':Hp}{s:Wx}{h':Heap}
theorem Cx.Ok.RC (ok:X.Ok) {b:Za}{o:Obj} (e:X.base.get? b=some o):b∉X.fs:=λhb=>by
 have:=(ok.pe.mem hb).1;rw[e]at this;cases this
theorem Inv.bs (I:Inv X pins σ H s):∀b o,X.base.get? b=some o->s.heap.get? b=some o/\H b=none:=λb o e=>
 ⟨I.base.keep b o (I.ok.bs b o e).1 (I.ok.bs b o e).2 (I.ok.RC e) (I.ok.G0 b o e),I.base.free b o (I.ok.bs b o e).1 (I.ok.bs b o e).2 (I.ok.G0 b o e)⟩
theorem Inv.bk (I:Inv X pins σ H s):∀b o,X.base.get? b=some o->s.heap.get? b=some o:=λb o e=>(I.bs b o e).1
theorem Inv.mod (I:Inv X pins σ H s):Mod X.K X.mg X.base:=I.ok.mod
theorem Inv.kIn (I:Inv X pins σ H s):X.K.In s.heap:=I.ok.mod.kin.keeps I.bk
theorem Inv.nolimit (I:Inv X pins σ H s):s.heap.NoLimit:=I.ok.mod.nolimit.keeps I.bk
theorem Inv.fr (I:Inv X pins σ H s):∃m,Fr X.base X.env.locals s.heap m:=
 let ⟨m,hn,_⟩:=I.loc
 ⟨m,hn,I.bk,TN I.ok.bsz I.ok.above⟩
theorem Inv.lt (I:Inv X pins σ H s):X.env.locals<s.heap.objs.size:=let ⟨_,hn,_⟩:=I.loc;hn.lt
theorem Inv.sz (I:Inv X pins σ H s):X.s₀.heap.objs.size<=s.heap.objs.size:=TN I.ok.above (UH I.lt)
theorem Inv.OM (I:Inv X pins σ H s) {a:Za} (h:s.heap.objs.size<=a):a∉X.fs:=λhb=>by
 obtain⟨_,o,ho,_⟩:=I.ok.pe.mem hb;exact absurd (T9 (Y2 ho) (TN I.sz h)) (Uz _)
theorem Inv.cne (I:Inv X pins σ H s):∀x c,X.env.cells.lookup x=some c->c≠X.env.locals:=λx c e z=>by
 obtain⟨v,o,f,d⟩:=I.cell x c e;obtain⟨m,⟨_,_,_,b,a,_⟩,_⟩:=I.loc;rw[z,b]at f;cases f;rw[a]at d;cases d
theorem Inv.pe (I:Inv X pins σ H s):s.heap.FunFrames X.base X.outer:=by
 have d:∀(l:List Env),(∀b∈frs l,b∈X.fs)->X.s₀.heap.FunFrames X.base l->s.heap.FunFrames X.base l:=by
  intro l
  induction l with
  | nil=>intro _ _;trivial
  | cons _ r i=>
   intro f j;obtain⟨g,⟨L,o,a,m,h,n⟩,k⟩:=j;have hL:L∈X.fs:=f L (by unfold frs;rw[VH,a];exact TH);obtain⟨_,e⟩:=I.base.slot L o h (I.ok.frf L hL) hL λz=>I.ok.Io L z hL;exact⟨g,⟨L,_,a,m,e,n⟩,i (λb c=>f b (by unfold frs;rw[VH,a];exact TC _ c)) k⟩
 exact d X.outer (λ_ c=>c) I.ok.pe
theorem Inv.stack (I:Inv X pins σ H s):s.heap.FunFrames X.base X.stack:=by
 rcases I.ok.stk with e | ⟨e,b⟩
 ·rw[e];exact I.pe
 ·rw[e];obtain⟨m,a,_⟩:=I.loc;refine .cons (by rw[I.ok.kind];decide) b a ?_ I.pe;exact Heap.get?_none_of_le (TN I.ok.bsz I.ok.above)
theorem Inv.BS (I:Inv X pins σ H s):∀b∈frs X.stack,b∈X.env.locals::X.fs:=λb a=>by
 rcases I.ok.stk with e | ⟨e,c⟩
 ·rw[e]at a;exact TC _ a
 ·rw[e]at a;unfold frs at a;rw[VH,c]at a;exact a
theorem Inv.Ck (I:Inv X pins σ H s):∀b∈frs X.stack,H b=none:=λb a=>by
 rcases TM.mp (I.BS b a)with e | a
 ·rw[e];exact I.free
 ·obtain⟨_,o,c,_⟩:=I.ok.pe.mem a;exact I.base.free b o c (I.ok.frf b a) λz=>I.ok.Io b z a
theorem Inv.step {g':Array GenState}{t':Nat}{d':Drawn}{ch:WH} (I:Inv X pins σ H s)
  (g:∀b∈ch,(b∈X.ex\/X.s₀.heap.objs.size<=b)/\b≠X.env.locals/\(∀x c,X.env.cells.lookup x=some c->c≠b)/\∀p∈X.pn++pins,p.1≠b)
  (j:∀b o,b≠X.env.locals->b∉X.fs->b∉ch->s.heap.get? b=some o->H b=none->h'.get? b=some o)
  (slot:∀b o,b≠X.env.locals->b∈X.fs->b∉ch->s.heap.get? b=some o->H b=none->∃sl,h'.get? b=some { o with slots:=sl }) (f:∀b o,b∉ch->s.heap.get? b=some o->H b=none->H' b=none)
  (A:∀b o,b∉ch->s.heap.get? b=some o->∃o',h'.get? b=some o')
  (Q:∀b xs,H b=some (.tup xs)->H' b=some (.tup xs)) (V:∀b o u,H b=some (.frz o u)->H' b=some (.frz o u)) (S:∀b ps,H b=some (.tbl ps)->∃more,H' b=some (.tbl (ps++more)))
  (ns:∀m,s.heap.Ns X.env.locals m->h'.Ns X.env.locals m) (F:HOk X.prog X.w H' h') (P:AllBare g') :
  Inv X pins σ H' { s with heap:=h',gens:=g',drawn:=d',toks:=t' }:=by
 have E:∀b o,X.s₀.heap.get? b=some o->b≠X.env.locals:=λb o e=>T5 (T9 (Y2 e) I.ok.above);have t:∀b o,X.s₀.heap.get? b=some o->b∉X.ex->b∉ch:=λb o e a B=>by
  rcases(g b B).1 with z | z
  ·exact a z
  ·exact absurd (T9 (Y2 e) z) (Uz _)
 have cellK:∀x c,X.env.cells.lookup x=some c->∀v,s.heap.IsCell c v->h'.IsCell c v:=λx c e v ⟨o,C,J⟩=>by
  have h:c∉ch:=λz=>(g c z).2.2.1 x c e rfl;by_cases N:c∈X.fs
  ·obtain⟨sl,q⟩:=slot c o (I.cne x c e) N h C (I.kO x c e);exact⟨_,q,J⟩
  ·exact⟨o,j c o (I.cne x c e) N h C (I.kO x c e),J⟩
 refine⟨I.ok,I.os,P,⟨λb o e n B a=>?_,λb o e n B a=>?_,λb o e n a=>?_,λb o e a=>?_,λb xs e=>Q b xs (I.base.uy b xs e),λb o xs e=>V b o xs (I.base.rQ b o xs e),λb ps e=>?_⟩,?_,λx c e=>?_,?_,λx c e=>?_,λp M=>?_,F,I.len⟩
 ·exact j b o (E b o e) B (t b o e a) (I.base.keep b o e n B a) (I.base.free b o e n a)
 ·obtain⟨sl,y⟩:=I.base.slot b o e n B a;obtain⟨G,D⟩:=slot b _ (E b o e) B (t b o e a) y (I.base.free b o e n a);exact⟨G,D⟩
 ·obtain⟨o',y⟩:=I.base.there b o e a;exact f b o' (t b o e a) y (I.base.free b o e n a)
 ·obtain⟨o',y⟩:=I.base.there b o e a;exact A b o' (t b o e a) y
 ·obtain⟨O,y⟩:=I.base.rF b ps e;obtain⟨U,D⟩:=S b _ y;exact⟨O++U,by rw[D,Array.append_assoc]⟩
 ·obtain⟨m,W,R⟩:=I.loc;refine⟨m,ns m W,λi x v y D T=>?_⟩;obtain⟨u,r,l⟩:=R i x v y D T;refine⟨u,r,?_⟩;rcases l with l | ⟨k,c,e,z⟩
  ·exact .inl l
  ·exact .inr ⟨k,c,e,cellK x c e _ z⟩
 ·obtain⟨v,z⟩:=I.cell x c e;exact⟨v,cellK x c e v z⟩
 ·obtain⟨m,⟨o,_,_,C,_⟩,_⟩:=I.loc;exact f _ o (λz=>(g _ z).2.1 rfl) C I.free
 ·obtain⟨v,o,C,J⟩:=I.cell x c e;exact f c o (λz=>(g c z).2.2.1 x c e rfl) C (I.kO x c e)
 ·obtain⟨e,n,K,L,d⟩:=I.pin p M;have h:p.1∉ch:=λz=>(g p.1 z).2.2.2 p M rfl;exact⟨j p.1 p.2 K L h e n,f p.1 p.2 h e n,K,L,d⟩
theorem Inv.un {t':Nat} (I:Inv X pins σ H s) (u:Un X.fs [] H H' s.heap h') (f:HOk X.prog X.w H' h'):Inv X pins σ H' { s with heap:=h',toks:=t' }:=by
 obtain⟨m,⟨o,_,_,h,r⟩,_⟩:=id I.loc;obtain⟨_,hL⟩:=u.any h I.free (by simp);exact I.step (g':=s.gens) (d':=s.drawn) (ch:=[]) (λ_ z=>nomatch z) (λb o _ g _ e n=>u.keep b o e n g (by simp)) (λb o _ g _ e n=>u.slot b o e n g (by simp)) (λb o _ e n=>u.free b o e n (by simp)) (λb o _ e=>u.there b o e (by simp)) u.uy u.rQ u.rF (λ_ i=>by
  obtain⟨_,d,c,a,j⟩:=i;rw[h]at a;cases a;exact⟨_,d,c,hL,j⟩) f I.bare
theorem Inv.call {g':Array GenState}{t':Nat}{d':Drawn}{ch:WH} (I:Inv X pins σ H s) (u:Un (frs X.stack) ch H H' s.heap h') (i:HOk X.prog X.w H' h') (l:AllBare g')
  (d:∀b∈ch,(b∈X.ex\/X.s₀.heap.objs.size<=b)/\b≠X.env.locals/\(∀x c,X.env.cells.lookup x=some c->c≠b)/\∀p∈X.pn++pins,p.1≠b) :
  Inv X pins σ H' { s with heap:=h',gens:=g',drawn:=d',toks:=t' }:=by
 obtain⟨m,⟨o,_,_,j,r⟩,_⟩:=id I.loc;obtain⟨_,hL⟩:=u.any j I.free λz=>(d _ z).2.1 rfl;exact I.step (ch:=ch) d (λb o hL t a e n=>u.keep b o e n (λz=>(TM.mp (I.BS b z)).elim hL t) a) (λb o _ _ a e n=>u.any e n a) (λb o a e n=>u.free b o e n a) (λb o a e=>u.there b o e a) u.uy u.rQ u.rF (λ_ k=>by
  obtain⟨_,h,g,f,q⟩:=k;rw[j]at f;cases f;exact⟨_,h,g,hL,q⟩) i l
theorem Inv.turned {t':Nat}{it:Za} (I:Inv X pins σ H s) (k:∀b o,b≠it->s.heap.get? b=some o->h'.get? b=some o) (t:H it=none) (hL:it≠X.env.locals)
  (h1:it∈X.ex\/X.s₀.heap.objs.size<=it) (h2:∀x c,X.env.cells.lookup x=some c->c≠it) (j:∀p∈X.pn++pins,p.1≠it):Inv X pins σ H { s with heap:=h',toks:=t' }:=by
 have d:∀b u,H b=some u->b≠it:=λb u e z=>by rw[z,t]at e;cases e
 refine I.step (g':=s.gens) (d':=s.drawn) (ch:=[it]) (λb l=>?_) (λb o _ _ a e _=>k b o (λz=>a (by simp[z])) e) (λb o _ _ a e _=>⟨o.slots,k b o (λz=>a (by simp[z])) e⟩) (λ_ _ _ _ n=>n)
  (λb o a e=>⟨o,k b o (λz=>a (by simp[z])) e⟩) (λ_ _ e=>e) (λ_ _ _ e=>e) (λb _ e=>⟨#[],by rw[e];simp⟩) (λm f=>?_) (λb u e=>?_) I.bare
 ·have e:b=it:=by simpa using l
  subst e;exact⟨h1,hL,h2,j⟩
 ·obtain⟨o,g,i,h,r⟩:=f;exact⟨o,g,i,k _ o (YQ hL) h,r⟩
 ·refine(I.hok b u e).gv (λc v a q=>k c v ?_ q) (λ_ q=>q) λ_ _ q=>q;rcases a with z | z
  ·rw[z];exact d b u e
  ·exact d c _ z
theorem Inv.tok (I:Inv X pins σ H s) (t:Nat):Inv X pins σ H { s with toks:=t }:=I.un (h':=s.heap) (t':=t) Un.refl I.hok
theorem Inv.kept {t':Nat} (I:Inv X pins σ H s) (k:∀b u,s.heap.get? b=some u->h'.get? b=some u):Inv X pins σ H { s with heap:=h',toks:=t' }:=I.un (Un.kept k) (I.hok.kept k)
theorem Inv.laid {a:Za}{o:HO}{t':Nat} (I:Inv X pins σ H s) (k:∀b u,s.heap.get? b=some u->h'.get? b=some u) (c:s.heap.objs.size<=a) (d:bO X.prog X.w (upd H a o) h' a o) :
  Inv X pins σ (upd H a o) { s with heap:=h',toks:=t' }:=I.un (Un.laid k c (I.hok.fresh c)) (I.hok.laid k c d)
theorem Inv.write {x e:Za}{o:HO}{t':Nat} (I:Inv X pins σ H s) (mu:Mut (H x)) (d:e=x\/H e=some (.own x)) (k:∀b u,b≠e->s.heap.get? b=some u->h'.get? b=some u) (a:∃u,h'.get? e=some u)
  (c:bO X.prog X.w (upd H x o) h' x o):Inv X pins σ (upd H x o) { s with heap:=h',toks:=t' }:=I.un (Un.write mu d k a) (I.hok.write mu d k a c)
theorem Inv.oN {a:List (Za×Obj)} (I:Inv X pins σ H s) (h:∀p∈a,s.heap.get? p.1=some p.2/\H p.1=none/\p.1≠X.env.locals/\p.1∉X.fs/\∀v,p.2.data ≠ .cell v):Inv X a σ H s:=
 ⟨I.ok,I.os,I.bare,I.base,I.loc,I.cell,I.free,I.kO,λp b=>(TV.mp b).elim (λz=>I.pin p (U4 _ z)) (h p),I.hok,I.len⟩
theorem Av {N:WF} (hN:N.Nodup) {i j:Nat}{x:Str} (a:N[i]? = some x) (b:N[j]? = some x):i=j:=by
 obtain⟨h1,e1⟩:=UP.mp a;obtain⟨h2,e2⟩:=UP.mp b;exact(List.getElem_inj hN).mp (e1.trans e2.symm)
theorem wb {M:Model}{A:Zc}{E:Wy->Wx->Prop}{i:Nat}{x:Str}{v:V}{u:Wy}{Q:Unit->Wx->Prop} (I:Inv X pins σ H s) (hN:X.N.Nodup) (hi:X.N[i]? = some x) (hx:Loc X.env.scope x) (r:RelV v u)
  (h:∀s',Inv X pins (σ.set i (some v)) H s'->(∃a,Yw a s.heap s'.heap/\(a=X.env.locals\/X.env.cells.lookup x=some a))->Q () s') (hf:X.fn x=true\/X.env.scope.names.lookup x=some .local:=by first | exact .inl rfl | exact .inr rfl | assumption):Zh M A (storeName X.env x u) Q E s:=by
 obtain⟨m,hn,hl⟩:=id I.loc;have Qq:(X.env.scope.kind == .class || (X.env.scope.kind == .module && X.env.locals != X.env.globals))=false:=by rw[I.ok.kind];rfl
 have C:i<σ.length:=by rw[I.len];exact(UP.mp hi).1
 have D:=I.cne;have g:∀{a:Za}{h':Heap},(∃o,s.heap.get? a=some o/\H a=none)->Yw a s.heap h'->HOk X.prog X.w H h':=λ{a h'} ha f b ob e=>by
  obtain⟨_,_,Lf⟩:=ha;refine(I.hok b ob e).gv (λc S t q=>(f.2 c ?_).trans q) (λ_ q=>q) λ_ _ q=>q;rintro rfl;rcases t with rfl | t
  ·rw[Lf]at e;cases e
  ·rw[Lf]at t;cases t
 rcases hx with hk | hk
 ·refine wpAny_storeName_local hk hn (λh' hn' f=>?_) Qq;obtain⟨oL,_,_,T,_⟩:=id hn;refine h _ ⟨I.ok,I.os,I.bare,⟨λb o e n G hx=>?_,λb o e n G hx=>?_,I.base.free,λb o e hx=>?_,I.base.uy,I.base.rQ,I.base.rF⟩,⟨_,hn',λj y Y l B e3=>?_⟩,λy c e=>?_,I.free,I.kO,λp hp=>?_,g ⟨oL,T,I.free⟩ f,by simpa using I.len⟩ ⟨_,f,.inl rfl⟩
  ·exact(f.2 b (T5 (T9 (Y2 e) I.ok.above))).trans (I.base.keep b o e n G hx)
  ·obtain⟨sl,l⟩:=I.base.slot b o e n G hx;exact⟨sl,(f.2 b (T5 (T9 (Y2 e) I.ok.above))).trans l⟩
  ·obtain⟨W,l⟩:=I.base.there b o e hx;exact⟨W,(f.2 b (T5 (T9 (Y2 e) I.ok.above))).trans l⟩
  ·by_cases J:j=i
   ·subst J;rw[hi]at l;cases l;rw[VY C]at B;cases B;exact⟨u,r,.inl ⟨hk,by simp⟩⟩
   ·rw[List.getElem?_set_ne (YQ J)]at B;obtain⟨U,r',q⟩:=hl j y Y l B e3;refine⟨U,r',?_⟩;rcases q with⟨k,e⟩ | ⟨k,c,e,z⟩
    ·refine .inl ⟨k,?_⟩;have:y≠x:=λe=>J (Av hN l (e ▸ hi));simp[this,e]
    ·exact .inr ⟨k,c,e,z.sameBut f (D y c e)⟩
  ·obtain⟨S,z⟩:=I.cell y c e;exact⟨S,z.sameBut f (D y c e)⟩
  ·obtain⟨e,n,P,Z,d⟩:=I.pin p hp;exact⟨(f.2 p.1 P).trans e,n,P,Z,d⟩
 ·have F:X.fn x=true:=by
   rcases hf with z | z
   ·exact z
   ·rw[z]at hk;cases hk
  obtain⟨c,t⟩:=I.ok.has x (.inl hk);obtain⟨S,z⟩:=I.cell x c t;refine wpAny_storeName_cell I.ok.kind hk t z (λh' O f=>?_);obtain⟨oc,K,Qw⟩:=id z;refine h { s with heap:=h' } ⟨I.ok,I.os,I.bare,⟨λb o e n G hx=>?_,λb o e n G hx=>?_,I.base.free,λb o e hx=>?_,I.base.uy,I.base.rQ,I.base.rF⟩,⟨m,hn.sameBut f (YQ (D x c t)),λj y Y l B e3=>?_⟩,λy R e=>?_,I.free,I.kO,λp hp=>?_,g ⟨oc,K,I.kO x c t⟩ f,by simpa using I.len⟩ ⟨c,f,.inr t⟩
  ·exact(f.2 b (T5 (T9 (Y2 e) (I.ok.cab x c F t)))).trans (I.base.keep b o e n G hx)
  ·obtain⟨sl,l⟩:=I.base.slot b o e n G hx;exact⟨sl,(f.2 b (T5 (T9 (Y2 e) (I.ok.cab x c F t)))).trans l⟩
  ·obtain⟨W,l⟩:=I.base.there b o e hx;exact⟨W,(f.2 b (T5 (T9 (Y2 e) (I.ok.cab x c F t)))).trans l⟩
  ·by_cases J:j=i
   ·subst J;rw[hi]at l;cases l;rw[VY C]at B;cases B;exact⟨u,r,.inr ⟨.inl hk,c,t,O⟩⟩
   ·rw[List.getElem?_set_ne (YQ J)]at B;obtain⟨U,r',q⟩:=hl j y Y l B e3;refine⟨U,r',?_⟩;rcases q with q | ⟨k,R,e,z'⟩
    ·exact .inl q
    ·refine .inr ⟨k,R,e,z'.sameBut f ?_⟩;rintro rfl;exact J (Av hN l (I.ok.inj _ _ _ e t ▸ hi))
  ·by_cases L:R = c
   ·subst L;exact⟨_,O⟩
   ·obtain⟨w2,z2⟩:=I.cell y R e;exact⟨w2,z2.sameBut f L⟩
  ·obtain⟨e,n,P,Z,d⟩:=I.pin p hp;refine⟨(f.2 p.1 ?_).trans e,n,P,Z,d⟩;intro q;rw[q,K]at e;have q':oc=p.2:=Yr e;exact d S (by rw[<-q'];exact Qw)
theorem AD {M:Model}{A:Zc}{E:Wy->Wx->Prop}{i:Nat}{x:Str}{v:V}{u:Wy}{Q:Unit->Wx->Prop} (I:Inv X pins σ H s) (a:X.N.Nodup) (hi:X.N[i]? = some x) (hx:Loc X.env.scope x) (r:RelV v u)
  (h:∀s',Inv X pins (σ.set i (some v)) H s'->Q () s') (b:X.fn x=true\/X.env.scope.names.lookup x=some .local:=by first | exact .inl rfl | exact .inr rfl | assumption):Zh M A (storeName X.env x u) Q E s:=
 wb I a hi hx r (λs' c _=>h s' c) b
theorem Inv.Pw {s':Wx}{ch:WH} (I:Inv X pins σ H s) (h:s'.os=s.os) (u:Un (frs X.stack) ch H H' s.heap s'.heap) (d:HOk X.prog X.w H' s'.heap) (f:AllBare s'.gens)
  (a:∀b∈ch,(b∈X.ex\/X.s₀.heap.objs.size<=b)/\b≠X.env.locals/\(∀x c,X.env.cells.lookup x=some c->c≠b)/\∀p∈X.pn++pins,p.1≠b):Inv X pins σ H' s':=by
 obtain⟨_,g',d',t',g⟩:=s';have e:g = s.os:=h;subst e;exact I.call (g':=g') (t':=t') (d':=d') u d f a
end
abbrev XK:=Wy->Option Za->Hp->Prop
abbrev St:=List (Option V)
abbrev VK:=V->Hp->Prop
abbrev TE:=St->Hp->VK->Prop
abbrev TT:=St->Hp->(Bool->Hp->Prop)->Prop
abbrev TA:=St->Hp->(WD->Hp->Prop)->Prop
structure Ends where
 nx:St->Hp->Prop
 rt:VK
 bk:St->Hp->Prop:=λ_ _=>False
 ct:St->Hp->Prop:=λ_ _=>False
abbrev TS:=Ends->St->Hp->Prop
def EP (X:Cx) (pins:List (Za×Obj)) (σ:St) (Q:VK) (u:Wy) (s':Wx):Prop:=∃v H',Inv X pins σ H' s'/\RelV v u/\Q v H'
def TP (X:Cx) (pins:List (Za×Obj)) (σ:St) (Q:Bool->Hp->Prop) (b:Bool) (s':Wx):Prop:=∃H',Inv X pins σ H' s'/\Q b H'
def AP (X:Cx) (pins:List (Za×Obj)) (σ:St) (Q:WD->Hp->Prop) (us:WJ) (s':Wx):Prop:=∃vs H',Inv X pins σ H' s'/\aO vs us/\Q vs H'
def SP (X:Cx) (pins:List (Za×Obj)) (D:Ends) (f:Flow) (s':Wx):Prop:=
 match f with
 | .next=>∃σ' H',Inv X pins σ' H' s'/\D.nx σ' H'
 | .brk=>∃σ' H',Inv X pins σ' H' s'/\D.bk σ' H'
 | .cont=>∃σ' H',Inv X pins σ' H' s'/\D.ct σ' H'
 | .ret u=>∃v σ' H',Inv X pins σ' H' s'/\RelV v u/\D.rt v H'
def PE (X:Cx) (e:Expr) (t:TE):Prop:=
 ∀(pins:List (Za×Obj)) (s:Wx) (σ:St) (H:Hp) (Q:VK),Inv X pins σ H s->t σ H Q->Zh (model X.prog X.w) X.A (eval e X.env) (EP X pins σ Q) X.xe s
def PT (X:Cx) (e:Expr) (t:TT):Prop:=
 ∀(pins:List (Za×Obj)) (s:Wx) (σ:St) (H:Hp) (Q:Bool->Hp->Prop),Inv X pins σ H s->t σ H Q->Zh (model X.prog X.w) X.A (isTrue e X.env (eval e X.env)) (TP X pins σ Q) X.xe s
def PW (X:Cx) (e:Expr) (t:TT):Prop:=
 ∀(whole:Sem Wy) (pins:List (Za×Obj)) (s:Wx) (σ:St) (H:Hp) (Q:Bool->Hp->Prop),Inv X pins σ H s->t σ H Q->Zh (model X.prog X.w) X.A (isTrue e X.env whole) (TP X pins σ Q) X.xe s
theorem PW.pt {X:Cx}{e:Expr}{t:TT} (h:PW X e t):PT X e t:=h _
def PA (X:Cx) (es:List Expr) (t:TA):Prop:=
 ∀(pos:Pos) (pins:List (Za×Obj)) (s:Wx) (σ:St) (H:Hp) (Q:WD->Hp->Prop),Inv X pins σ H s->t σ H Q->Zh (model X.prog X.w) X.A (spliced (backTo pos (Zi es X.env))) (AP X pins σ Q) X.xe s
def PS (X:Cx) (st:Stmt) (t:TS):Prop:=
 ∀(pins:List (Za×Obj)) (s:Wx) (σ:St) (H:Hp) (D:Ends),Inv X pins σ H s->t D σ H->Zh (model X.prog X.w) X.A (exec st X.env) (SP X pins D) X.xe s
def PSs (X:Cx) (st:List Stmt) (t:TS):Prop:=
 ∀(pins:List (Za×Obj)) (s:Wx) (σ:St) (H:Hp) (D:Ends),Inv X pins σ H s->t D σ H->Zh (model X.prog X.w) X.A (execs st X.env) (SP X pins D) X.xe s
theorem thn {α:Type}{t:Sem α}{Q Q':α->Wx->Prop}{M:Model}{A:Zc}{E:Wy->Wx->Prop}{s:Wx} (h:Zh M A t Q E s) (hQ:∀a s,Q a s->Q' a s):Zh M A t Q' E s:=Wt h hQ λ_ _ x=>x
section
variable {X:Cx}
def Kk (i:Nat):TE:=λσ H Q=>∃v,σ[i]? = some (some v)/\Q v H
def tC (v:V):TE:=λ_ H Q=>Q v H
theorem LK {i:Nat}{x:Str}{pos:Pos} (p:X.N[i]? = some x) (w:Vis X.env.scope x) (g:(x == ("__debug__" : Str))=false:=by decide) (f:(x == ("__classdict__" : Str))=false:=by decide):PE X (.Name x pos) (Kk i):=by
 intro d s t H Q I h;obtain⟨v,e,h⟩:=h;obtain⟨m,q,o⟩:=I.loc;obtain⟨u,r,l⟩:=o i x v p e w;have b:EP X d t Q u s:=⟨v,H,I,r,h⟩;rcases l with⟨a,n⟩ | ⟨a,c,k,j⟩
 ·exact wpAny_Name (wpAny_loadName_local I.ok.kind a q n b) g
 ·rcases a with a | a
  ·exact wpAny_Name (wpAny_loadName_cell I.ok.kind a k j b) g
  ·exact wpAny_Name (wpAny_loadName_free I.ok.kind a k j b f) g
theorem aq {i j pos}:PE X (.Constant (.int i) j pos) (tC (.int i)):=λ_ _ _ H _ I h=>wpAny_Constant_int ⟨.int i,H,I.tok _,⟨_,rfl⟩,h⟩
theorem kN {b j pos}:PE X (.Constant (.bool b) j pos) (tC (.bl b)):=λ_ _ _ H _ I h=>Constant_bool ⟨.bl b,H,I,rfl,h⟩
theorem BJ {j pos}:PE X (.Constant .none j pos) (tC .non):=λ_ _ _ H _ I h=>Constant_none ⟨.non,H,I,rfl,h⟩
theorem aW {x j pos}:PE X (.Constant (.str x) j pos) (tC (.str x)):=λ_ _ _ H _ I h=>Calls.Constant_str ⟨.str x,H,I.tok _,⟨_,rfl⟩,h⟩
def Gl (X:Cx) (x:Str):Prop:=X.env.kindOf x=some .globalImplicit
theorem mN {E:Wy->Wx->Prop}{pins:List (Za×Obj)}{s:Wx}{σ:St}{H:Hp}{x:Str}{u:Wy}{pos:Pos}{Q:Wy->Wx->Prop} (I:Inv X pins σ H s) (c:Gl X x) (a:X.mg x=some u) (h:Q u s)
  (b:(x == ("__debug__" : Str))=false:=by decide):Zh (model X.prog X.w) X.A (eval (.Name x pos) X.env) Q E s:=
 Calls.Name_function_global I.ok.kind c (Calls.loadGlobal_global (by rw[I.ok.glob];exact I.mod.glob.keeps I.bk) a h) b
theorem fm {E:Wy->Wx->Prop}{pins:List (Za×Obj)}{s:Wx}{σ:St}{H:Hp}{x:Str}{u:Wy}{pos:Pos}{Q:Wy->Wx->Prop} (I:Inv X pins σ H s) (a:Gl X x) (f:X.mg x=none) (b:bootBuiltins x=some u) (h:Q u s)
  (c:x ≠ "__name__" :=by decide) (d:(x == ("__debug__" : Str))=false:=by decide):Zh (model X.prog X.w) X.A (eval (.Name x pos) X.env) Q E s:=by
 obtain⟨_,g,e⟩:=I.mod.blt;exact Calls.Name_function_global I.ok.kind a (Calls.loadGlobal_builtin (by rw[I.ok.glob];exact I.mod.glob.keeps I.bk) f (by rw[I.ok.blt];exact g.keeps I.bk) ((e x c).trans b) h) d
theorem jK {x:Str}{v:V}{u:Wy}{pos:Pos} (a:Gl X x) (c:X.mg x=some u) (r:RelV v u) (b:(x == ("__debug__" : Str))=false:=by decide):PE X (.Name x pos) (tC v):=
 λ_ _ _ H _ I h=>mN I a c ⟨v,H,I,r,h⟩ b
theorem CM {x:Str}{v:V}{u:Wy}{pos:Pos} (a:Gl X x) (d:X.mg x=none) (e:bootBuiltins x=some u) (r:RelV v u) (b:x ≠ "__name__" :=by decide) (c:(x == ("__debug__" : Str))=false:=by decide):PE X (.Name x pos) (tC v):=
 λ_ _ _ H _ I h=>fm I a d e ⟨v,H,I,r,h⟩ b c
variable {a b:Expr}{ta tb:TE}{pos:Pos}
def tB (t:TE):TT:=λσ H Q=>t σ H λx H1=>∃c,x = .bl c/\Q c H1
theorem eM {e:Expr}{t:TE} (h:PE X e t) (g:∀whole,isTrue e X.env whole=(do let v <-whole;standAt e.pos;holding [v] (truthy v)):=by intro _;rfl):PT X e (tB t):=by
 intro a s f H Q I j;refine isTrue_plain (thn (h a s f H _ I j) λv _ ⟨x,b,c,i,k⟩=>?_) (g _);obtain⟨d,rfl,q⟩:=k;cases i;exact wpAny_truthy_bool ⟨b,c,q⟩
variable {tA tB':TT}{rest:List Expr}
def QX (t u:TT):TT:=λσ H Q=>t σ H λc H1=>if c=true then u σ H1 Q else Q false H1
def tOr (t u:TT):TT:=λσ H Q=>t σ H λc H1=>if c=true then Q true H1 else u σ H1 Q
def Rz (t:TT):TT:=λσ H Q=>t σ H λc H1=>Q (!c) H1
theorem pw_and1 (d:PT X a tA):PW X (.BoolOp .And [a] pos) tA:=by
 intro _ b s f H Q I h;refine isTrue_and (thn (d b s f H Q I h) λc _ e=>?_);cases c with
 | true=>exact isTrue_and_nil e
 | false=>exact e
theorem pw_or1 (d:PT X a tA):PW X (.BoolOp .Or [a] pos) tA:=by
 intro _ b s f H Q I h;refine isTrue_or (thn (d b s f H Q I h) λc _ e=>?_);cases c with
 | false=>exact isTrue_or_nil e
 | true=>exact e
theorem pw_and (j:PT X a tA) (k:PW X (.BoolOp .And (b::rest) pos) tB'):PW X (.BoolOp .And (a::b::rest) pos) (QX tA tB'):=by
 intro m d s g H Q I h;refine isTrue_and (thn (j d s g H _ I h) λc l ⟨e,f,i⟩=>?_);cases c with
 | true=>exact k m d l g e Q f i
 | false=>exact⟨e,f,i⟩
theorem pw_or (j:PT X a tA) (k:PW X (.BoolOp .Or (b::rest) pos) tB'):PW X (.BoolOp .Or (a::b::rest) pos) (tOr tA tB'):=by
 intro m d s g H Q I h;refine isTrue_or (thn (j d s g H _ I h) λc l ⟨e,f,i⟩=>?_);cases c with
 | true=>exact⟨e,f,i⟩
 | false=>exact k m d l g e Q f i
theorem lu (ha:PT X a tA):PT X (.UnaryOp .Not a pos) (Rz tA):=by
 intro pins s σ H Q I h;exact isTrue_not (ha pins s σ H (λc H1=>Q (!c) H1) I h)
def PM (ta tb:TE):TE:=λσ H Q=>ta σ H λx H1=>∃c,x = .bl c/\if c=true then tb σ H1 Q else Q (.bl false) H1
theorem p7 {op}{t:TE} (h:PE X a t):PE X (.BoolOp op [a] pos) t:=λpins s σ H Q I hw=>BoolOp_one (h pins s σ H Q I hw)
theorem tw (j:PE X a ta) (k:PE X (.BoolOp .And (b::rest) pos) tb):PE X (.BoolOp .And (a::b::rest) pos) (PM ta tb):=by
 intro d s i H Q I h;refine BoolOp_and (thn (j d s i H _ I h) λv l ⟨x,f,g,m,e⟩=>?_);obtain⟨c,rfl,e⟩:=e;cases m;refine wpAny_truthy_bool ?_;cases c with
 | true=>exact k d l i f Q g e
 | false=>exact⟨.bl false,f,g,rfl,e⟩
def tIf (t:TT) (ta tb:TE):TE:=λσ H Q=>t σ H λc H1=>if c=true then ta σ H1 Q else tb σ H1 Q
theorem sI {c:Expr} (n:PT X c tA) (l:PE X a ta) (m:PE X b tb):PE X (.IfExp c a b pos) (tIf tA ta tb):=by
 intro e s f H Q I h;refine wpAny_IfExp (thn (n e s f H _ I h) λd j ⟨g,i,k⟩=>?_);cases d with
 | true=>exact l e j f g Q i k
 | false=>exact m e j f g Q i k
end
def SqL (K:Wz) (H:Hp) (a:Za) (xs:WD):Prop:=
 Rd H a (.lst xs) \/
  ∃(o:Obj) (its:WG) (n:Nat),K.lookup a=some o/\o.cls = .type "list" /\ o.dict=none/\o.data = .seq its n/\its.size<=Zg/\aO xs its.toList
def SqT (K:Wz) (H:Hp) (a:Za) (xs:WD):Prop:=
 Rd H a (.tup xs) \/
  ∃(o:Obj) (its:WG) (n:Nat),K.lookup a=some o/\o.cls = .type "tuple" /\ o.data = .seq its n/\its.size<=Zg/\aO xs its.toList
def Ri:Wy->Option V
 | .none=>some .non
 | .bool b=>some (.bl b)
 | .int i _=>some (.int i)
 | .str x _=>some (.str x)
 | .bytes b _=>some (.byt b)
 | .float b _=>some (.flt b)
 | .ref a=>some (.ref a)
 | .type n=>some (.ty n)
 | _=>none
theorem RelV.abs {x:V}{u:Wy} (r:RelV x u):Ri u=some x:=by
 cases x with
 | non=>cases r;rfl
 | bl _=>cases r;rfl
 | int _=>obtain⟨t,rfl⟩:=r;rfl
 | str _=>obtain⟨t,rfl⟩:=r;rfl
 | byt _=>obtain⟨t,rfl⟩:=r;rfl
 | flt _=>obtain⟨t,rfl⟩:=r;rfl
 | ref _=>cases r;rfl
 | ty _=>cases r;rfl
theorem RelV.inj {x y:V}{u:Wy} (r:RelV x u) (q:RelV y u):x=y:=Yr (r.abs.symm.trans q.abs)
theorem aO.inj:∀{xs ys:WD}{us:WJ},aO xs us->aO ys us->xs=ys
 | _,_,_,.nil,.nil=>rfl
 | _,_,_,.cons r t,.cons r' t'=>by rw[r.inj r',aO.inj t t']
section
variable {X:Cx}{pins:List (Za×Obj)}{σ:St}{H:Hp}{s:Wx}{a:Za}{xs ys:WD}
theorem SqL.of {K:Wz} (h:H a=some (.lst xs)):SqL K H a xs:=.inl (.inl h)
theorem SqT.of {K:Wz} (h:H a=some (.tup xs)):SqT K H a xs:=.inl (.inl h)
theorem Inv.list (I:Inv X pins σ H s) (h:SqL X.K H a xs):∃its:WJ,aO xs its/\PlainL s.heap a its.toArray/\xs.length<=Zg:=by
 rcases h with h | ⟨o,its,n,c,d,b,f,_,r⟩
 ·obtain⟨z,its,n,r,e⟩:=h.ok I.hok;exact⟨its,r,⟨_,n,e,rfl,rfl,rfl⟩,z⟩
 ·refine⟨its.toList,r,⟨o,n,I.kIn a o c,d,b,by simpa using f⟩,?_⟩;have e:=r.length;simp only[T3]at e;lia
theorem Inv.tuple (I:Inv X pins σ H s) (h:SqT X.K H a xs):∃its:WJ,aO xs its/\IsTup s.heap a its.toArray/\xs.length<=Zg:=by
 rcases h with h | ⟨o,its,n,b,c,d,_,r⟩
 ·obtain⟨z,its,r,p⟩:=h.ok I.hok;exact⟨its,r,p,z⟩
 ·refine⟨its.toList,r,⟨o,I.kIn a o b,c,n,by simpa using d⟩,?_⟩;have e:=r.length;simp only[T3]at e;lia
theorem Inv.tu (I:Inv X pins σ H s) (h:SqL X.K H a xs) (h':SqL X.K H a ys):xs=ys:=by
 obtain⟨b,r,⟨o,n,e,_,_,d⟩,_⟩:=I.list h;obtain⟨jV,g,⟨_,_,c,_,_,f⟩,_⟩:=I.list h';rw[e]at c;cases c;rw[d]at f;injection f with d1 _;have:b=jV:=by simpa using congrArg Array.toList d1
 subst this;exact r.inj g
theorem Inv.E6 (I:Inv X pins σ H s) (h:SqT X.K H a xs) (h':SqT X.K H a ys):xs=ys:=by
 obtain⟨b,r,⟨o,e,_,n,d⟩,_⟩:=I.tuple h;obtain⟨jV,g,⟨_,c,_,_,f⟩,_⟩:=I.tuple h';rw[e]at c;cases c;rw[d]at f;injection f with d1 _;have:b=jV:=by simpa using congrArg Array.toList d1
 subst this;exact r.inj g
end
abbrev Cx.vg (X:Cx) (E:Wy->Wx->Prop):Cx:={ X with xe:=E }
abbrev Cx.nox (X:Cx):Cx:=X.vg λ_ _=>False
theorem Cx.Ok.vg {X:Cx} (ok:X.Ok) (E:Wy->Wx->Prop):(X.vg E).Ok:=
 ⟨ok.mod,ok.kind,ok.glob,ok.blt,ok.above,ok.inj,ok.has,ok.cab,ok.hd,ok.frames,ok.stk,ok.exf,ok.bs,ok.bsz,ok.G0,ok.Io,ok.pe,ok.frf⟩
theorem Cx.Ok.l9 {X:Cx}{E:Wy->Wx->Prop} (ok:(X.vg E).Ok):X.Ok:=
 ⟨ok.mod,ok.kind,ok.glob,ok.blt,ok.above,ok.inj,ok.has,ok.cab,ok.hd,ok.frames,ok.stk,ok.exf,ok.bs,ok.bsz,ok.G0,ok.Io,ok.pe,ok.frf⟩
section
variable {X:Cx}{pins:List (Za×Obj)}{σ:St}{H:Hp}{s:Wx}{E:Wy->Wx->Prop}
theorem Inv.vg (I:Inv X pins σ H s) (E:Wy->Wx->Prop):Inv (X.vg E) pins σ H s:=⟨I.ok.vg E,I.os,I.bare,I.base,I.loc,I.cell,I.free,I.kO,I.pin,I.hok,I.len⟩
theorem Inv.l9 (I:Inv (X.vg E) pins σ H s):Inv X pins σ H s:=⟨I.ok.l9,I.os,I.bare,I.base,I.loc,I.cell,I.free,I.kO,I.pin,I.hok,I.len⟩
theorem SP.l9 {D:Ends}{f:Flow}{s':Wx} (h:SP (X.vg E) pins D f s'):SP X pins D f s':=by
 cases f with
 | next=>obtain⟨a,b,I,q⟩:=h;exact⟨a,b,I.l9,q⟩
 | brk=>obtain⟨a,b,I,q⟩:=h;exact⟨a,b,I.l9,q⟩
 | cont=>obtain⟨a,b,I,q⟩:=h;exact⟨a,b,I.l9,q⟩
 | ret u=>obtain⟨v,a,b,I,r,q⟩:=h;exact⟨v,a,b,I.l9,r,q⟩
theorem PSs.nox {st:List Stmt}{t:TS} (h:PSs X.nox st t):PSs X st t:=λpins s σ H D I hw=>
 Wt (h pins s σ H D (I.vg _) hw) (λ_ _ q=>q.l9) λ_ _ z=>False.elim z
end
section
variable {X:Cx}{st:Stmt}{rest:List Stmt}{t u:TS}{e:Expr}{te:TE}{pos:Pos}
def OQ:TS:=λD σ H=>D.nx σ H
def QY (t u:TS):TS:=λD σ H=>t { D with nx:=u D } σ H
theorem aT:PSs X [] OQ:=λ_ _ σ H _ I h=>wpAny_execs_nil ⟨σ,H,I,h⟩
theorem aj (h1:PS X st t) (h2:PSs X rest u):PSs X (st::rest) (QY t u):=by
 intro a s d H D I h;refine wpAny_execs_cons (thn (h1 a s d H { D with nx:=u D } I h) λf e q=>?_);cases f with
 | next=>
  obtain⟨b,c,g,q⟩:=q;exact h2 a e b c D g q
 | ret v=>exact q
 | brk=>exact q
 | cont=>exact q
theorem ak (h1:PS X st t):PSs X [st] t:=by
 intro a s b H D I h;refine wpAny_execs_cons (thn (h1 a s b H D I h) λf _ q=>?_);cases f with
 | next=>exact wpAny_execs_nil q
 | ret v=>exact q
 | brk=>exact q
 | cont=>exact q
theorem Inv.quiet {pins:List (Za×Obj)}{σ:St}{H:Hp}{s:Wx} (I:Inv X pins σ H s):interactive X.env=false:=by simp[interactive,I.ok.kind]
def Ov (te:TE):TS:=λD σ H=>te σ H λ_ H1=>D.nx σ H1
theorem cN (f:PE X e te) (g:swapsWith e none pos.line X.env=pure false:=by rfl):PS X (.Expr e pos) (Ov te):=by
 intro a s b H D I h;exact wpAny_Expr_any (thn (f a s b H _ I h) λv _ ⟨x,c,d,_,i⟩=>⟨b,c,d,i⟩) I.quiet g
def QC (te:TE):TS:=λD σ H=>te σ H D.rt
theorem aD (he:PE X e te):PS X (.Return (some e) pos) (QC te):=by
 intro pins s σ H D I h;exact wpAny_Return_some (thn (he pins s σ H _ I h) λv s1 ⟨x,H1,I1,r1,q1⟩=>⟨x,σ,H1,I1,r1,q1⟩)
def Sk (c:TT) (t u:TS):TS:=λD σ H=>c σ H λb H1=>if b=true then t D σ H1 else u D σ H1
theorem bF {c:Expr}{a b:List Stmt}{tc:TT} (n:PT X c tc) (l:PSs X a t) (m:PSs X b u):PS X (.If c a b pos) (Sk tc t u):=by
 intro e s f H D I h;refine wpAny_If (thn (n e s f H _ I h) λd j ⟨g,i,k⟩=>?_);cases d with
 | true=>exact l e j f g D i k
 | false=>exact m e j f g D i k
def Ln:TS:=λ_ _ _=>False
theorem gf:PS X st Ln:=λ_ _ _ _ _ _ h=>h.elim
end
abbrev TG:=V->St->Hp->(St->Hp->Prop)->Prop
abbrev TGs:=WD->St->Hp->(St->Hp->Prop)->Prop
def PG (X:Cx) (target:Expr) (t:TG):Prop:=
 ∀(pins:List (Za×Obj)) (s:Wx) (σ:St) (H:Hp) (v:V) (u:Wy) (Q:St->Hp->Prop),Inv X pins σ H s->RelV v u->t v σ H Q ->
  Zh (model X.prog X.w) X.A (assign target X.env u) (λ_ s'=>∃σ' H',Inv X pins σ' H' s'/\Q σ' H') X.xe s
def PGs (X:Cx) (ts:List Expr) (t:TGs):Prop:=
 ∀(pins:List (Za×Obj)) (s:Wx) (σ:St) (H:Hp) (vs:WD) (us:WJ) (Q:St->Hp->Prop),Inv X pins σ H s->aO vs us->t vs σ H Q ->
  Zh (model X.prog X.w) X.A (assignInOrder ((assignEach ts X.env).map (·.2)) us) (λ_ s'=>∃σ' H',Inv X pins σ' H' s'/\Q σ' H') X.xe s
abbrev Mi:=V->V->V->Hp->(Hp->Prop)->Prop
def NM (X:Cx) (t:Mi):Prop:=
 ∀(pins:List (Za×Obj)) (s:Wx) (σ:St) (H:Hp) (o i v:V) (ov iv u:Wy) (Q:Hp->Prop),Inv X pins σ H s->RelV o ov->RelV i iv->RelV v u->t o i v H Q ->
  Zh (model X.prog X.w) X.A (setItem ov iv u) (λ_ s'=>∃H',Inv X pins σ H' s'/\Q H') X.xe s
section
variable {X:Cx}{pos:Pos}
def aX (i:Nat):TG:=λv σ H Q=>Q (σ.set i (some v)) H
theorem ax {i:Nat}{x:Str} (a:X.N.Nodup) (hi:X.N[i]? = some x) (hx:Loc X.env.scope x) (b:X.fn x=true\/X.env.scope.names.lookup x=some .local:=by first | exact .inl rfl | exact .inr rfl | assumption):PG X (.Name x pos) (aX i):=by
 intro _ s _ H v u Q I r h;exact wpAny_assign_Name (AD I a hi hx r (λ_ c=>⟨_,H,c,h⟩) b)
def sY:TGs:=λvs σ H Q=>vs=[]/\Q σ H
def dh (t:TG) (u:TGs):TGs:=λvs σ H Q=>∃v r,vs=v::r/\t v σ H λσ' H'=>u r σ' H' Q
theorem cL:PGs X [] sY:=by
 intro pins s σ H vs us Q I r h;obtain⟨e,h⟩:=h;subst e;cases r;exact assignInOrder_nil ⟨σ,H,I,h⟩
theorem aL {e:Expr}{es:List Expr}{t:TG}{u:TGs} (h1:PG X e t) (h2:PGs X es u)
  (c:(assignEach (e::es) X.env).map (·.2)=assign e X.env::(assignEach es X.env).map (·.2):=by rfl):PGs X (e::es) (dh t u):=by
 intro a s k H _ _ Q I r h;obtain⟨v,_,f,h⟩:=h;subst f;cases r with
 | cons r g=>
  rw[c];refine assignInOrder_cons (thn (h1 a s k H _ _ _ I r h) λ_ l ⟨b,i,j,d⟩=>?_);exact h2 a l b i _ _ Q j g d
def uP (K:Wz) (n:Nat) (t:TGs):TG:=λv σ H Q=>∃a xs,v = .ref a/\SqT K H a xs/\xs.length=n/\t xs σ H Q
theorem eN {es:List Expr}{k:Nat}{t:TGs}{n:Nat} (A:X.calm=true) (h:PGs X es t)
  (z:(assignEach es X.env).length=n:=by rfl) (f:(assignEach es X.env).findIdx? (·.1)=none:=by rfl):PG X (.Tuple es k pos) (uP X.K n t):=by
 intro c s i H v u Q I r d;obtain⟨a,q,m,x,p,d⟩:=d;subst m;cases r;obtain⟨_,g,j,_⟩:=I.tuple x;refine assign_Tuple_tuple (I.ok.hd A) j (by simp[z,<-p,g.length]) f λw l=>?_;have y:Inv X c i H { s with heap:=w }:=I.kept (t':=s.toks) λb o e=>l b o (T5 (Y2 e)) e;exact h c _ i H q _ Q y (by simpa using g) d
def Qz (to ti:TE) (t:Mi):TG:=λv σ H Q=>to σ H λo H1=>ti σ H1 λi H2=>t o i v H2 λH3=>Q σ H3
theorem xm {o i:Expr}{to c:TE}{t:Mi} (j:PE X o to) (hi:PE X i c) (e:NM X t)
  (q:∀v,assign (.Subscript o i pos) X.env v=(do
   let ov <-holding [v] (eval o X.env)
   let iv <-holding [v,ov] (eval i X.env)
   standAt pos
   holding [v,ov,iv] (setItem ov iv v)
   release [v,ov,iv] []):=by intro _;rfl):PG X (.Subscript o i pos) (Qz to c t):=by
 intro a s b H v u Q I r h;rw[q];refine Ww (Ws (thn (j a s b H _ I h) λov B ⟨x,w,z,n,f⟩=>?_));refine Ww (Ws (thn (hi a B b w _ z f) λiv k ⟨y,d,p,m,A⟩=>?_));refine Ww (wpAny_standAt (Ww (Ws (thn (e a k b d x y v ov iv u _ p n m r A) λ_ _ ⟨l,g,q3⟩=>?_))));exact wpAny_release ⟨b,l,g,q3⟩
def LI (te:TE) (g:TG):TS:=λD σ H=>te σ H λx H1=>g x σ H1 D.nx
theorem lM {tg e:Expr}{te:TE}{g:TG} (k:PE X e te) (i:PG X tg g) (c:swapsWithSole [tg] e pos.line X.env=pure false:=by rfl) (d:swappedStores [tg] e X.env=pure none:=by rfl)
  (h1:(assignEach [tg] X.env).map (·.2)=[assign tg X.env]:=by rfl):PS X (.Assign [tg] e pos) (LI te g):=by
 intro a s b H D I h;refine wpAny_Assign_stores (thn (k a s b H _ I h) λv n ⟨x,l,m,j,f⟩=>?_) c d;rw[h1];exact thn (i a n b l x v _ m j f) λ_ _ q=>q
theorem bq {i:Nat}{x:Str}{e:Expr}{te:TE}{pos':Pos} (g:X.N.Nodup) (hi:X.N[i]? = some x) (hx:Loc X.env.scope x) (j:PE X e te) (b:swapsWith e (some (.Name x pos')) pos.line X.env=pure false:=by rfl) (d:X.fn x=true\/X.env.scope.names.lookup x=some .local:=by first | exact .inl rfl | exact .inr rfl | assumption) :
  PS X (.Assign [.Name x pos'] e pos) (LI te (aX i)):=by
 intro a s n H D I h;refine wpAny_Assign_Name (thn (j a s n H _ I h) λv _ ⟨y,l,m,f,c⟩=>?_) b;exact AD m g hi hx f (λ_ k=>⟨_,l,k,c⟩) d
end
section
variable {X:Cx}{pos:Pos}
end
structure It where
 go:Nat->Hp->Prop
 yld:Nat->Hp->V->Hp->Prop
 stop:Nat->Hp->Prop
def cg (X:Cx) (pins:List (Za×Obj)) (H:Hp) (b:Za):Prop:=
 H b=none/\b≠X.env.locals/\b∉X.fs/\(b∈X.ex\/X.s₀.heap.objs.size<=b)/\(∀x c,X.env.cells.lookup x=some c->c≠b)/\∀p∈X.pn++pins,p.1≠b
theorem Inv.rJ {X:Cx}{pins:List (Za×Obj)}{σ:St}{H H':Hp}{s:Wx}{b:Za} (I:Inv X pins σ H s) (a:s.heap.objs.size<=b) (f:H' b=none):cg X pins H' b:=by
 refine⟨f,Vl (T9 I.lt a),I.OM a,.inr (TN I.sz a),λx c e z=>?_,λp d z=>?_⟩
 ·obtain⟨v,q⟩:=I.cell x c e;exact absurd (T9 q.lt (by rw[z];exact a)) (Uz _)
 ·exact absurd (T9 (Y2 (I.pin p d).1) (by rw[z];exact a)) (Uz _)
structure Turn (P:Zd) (w:Ze) (K:Wz) (tg:Expr) (J:It) (fp:WH) (it:Za) (tn:Nat->Heap->Prop):Prop where
 mem:it∈fp
 obj:∀i h,tn i h->∀b∈fp,∃o,h.get? b=some o/\∀v,o.data ≠ .cell v
 keep:∀i h h',tn i h->(∀b∈fp,∀o,h.get? b=some o->h'.get? b=some o)->tn i h'
 item:∀(X:Cx),X.prog=P->X.w=w->X.K=K->X.calm=true->∀(i:Nat) (pins:List (Za×Obj)) (s:Wx) (σ:St) (H:Hp) (E:Wy->Wx->Prop),Inv X pins σ H s->(∀b∈fp,cg X pins H b)->tn i s.heap->J.go i H ->
  Zh (model P w) X.A (pyNext (.ref it)) (λr s1=>∃u,r=some u /\
   Zh (model P w) X.A (letOwnedTupleGo tg (.ref it) u) (λ_ s2=>∃x H',Inv X pins σ H' s2/\RelV x u/\J.yld i H x H'/\tn (i+1) s2.heap/\∀b∈fp,H' b=none) E s1) E s
 done:∀(X:Cx),X.prog=P->X.w=w->X.K=K->X.calm=true->∀(i:Nat) (pins:List (Za×Obj)) (s:Wx) (σ:St) (H:Hp) (E:Wy->Wx->Prop),Inv X pins σ H s->(∀b∈fp,cg X pins H b)->tn i s.heap->J.stop i H ->
  Zh (model P w) X.A (pyNext (.ref it)) (λr s1=>r=none/\Inv X pins σ H s1) E s
 self:∀(A:Zc) (i:Nat) (s:Wx) (Q:Wy->Wx->Prop) (E:Wy->Wx->Prop),tn i s.heap->Q (.ref it) s->Zh (model P w) A (pyIter (.ref it)) Q E s
abbrev TI:=St->Hp->(It->Hp->Prop)->Prop
def PIE (X:Cx) (pins:List (Za×Obj)) (σ:St) (tg:Expr) (R:It->Hp->Prop) (itv:Wy) (s2:Wx):Prop:=
 ∃(it:Za) (fp:WH) (tn:Nat->Heap->Prop) (J:It) (H':Hp),itv = .ref it/\Inv X pins σ H' s2/\Turn X.prog X.w X.K tg J fp it tn/\tn 0 s2.heap/\(∀b∈fp,cg X pins H' b)/\R J H'
def PI (X:Cx) (tg iter:Expr) (wi:TI):Prop:=
 ∀(pins:List (Za×Obj)) (s:Wx) (σ:St) (H:Hp) (R:It->Hp->Prop),Inv X pins σ H s->wi σ H R ->
  Zh (model X.prog X.w) X.A (eval iter X.env) (λv s1=>Zh (model X.prog X.w) X.A (pyIter v) (PIE X pins σ tg R) X.xe s1) X.xe s
theorem Ft {M:Model}{A:Zc}{E:Wy->Wx->Prop}{s:Wx}{tg:Expr}{it:Za}{u:Wy}{o:Obj}{n:String}{vs:WG}{Q:Unit->Wx->Prop} (e:s.heap.get? it=some o) (d:o.cls = .type n) (c:o.data = .fields vs)
  (b:["enumerate","zip","dict_itemiterator","dict_reverseitemiterator","odict_iterator","itertools.zip_longest","itertools.pairwise"].contains n=false) (a:Q () s):Zh M A (letOwnedTupleGo tg (.ref it) u) Q E s:=by
 unfold letOwnedTupleGo;cases tg <;> first
  | exact Wv a
  | (cases u <;> first
    | exact Wv a
    | (refine Ww (wpAny_load e ?_)
       rw[d,c];show Zh M A (if (["enumerate","zip","dict_itemiterator","dict_reverseitemiterator","odict_iterator","itertools.zip_longest","itertools.pairwise"].contains n && vs[0]? == some (rawInt _))=true then _ else _) Q E s;rw[Zo (by intro h;rw[b,Bool.false_and]at h;cases h)];exact Wv a))
def Itl (K:Wz) (a:Za):It:=
 ⟨λi H=>∃xs x,SqL K H a xs/\xs[i]? = some x,λi H x H'=>H' = H/\∀xs,SqL K H a xs->xs[i]? = some x,λi H=>∃xs,SqL K H a xs/\xs.length<=i⟩
def Itt (K:Wz) (a:Za):It:=
 ⟨λi H=>∃xs x,SqT K H a xs/\xs[i]? = some x,λi H x H'=>H' = H/\∀xs,SqT K H a xs->xs[i]? = some x,λi H=>∃xs,SqT K H a xs/\xs.length<=i⟩
def Itr (lo:Int) (n:Nat):It:=⟨λi _=>i<n,λi H x H'=>H' = H/\x = .int (lo+i),λi _=>n<=i⟩
theorem DK {P:Zd}{w:Ze}{K:Wz}{tg:Expr} (a it:Za):Turn P w K tg (Itl K a) [it] it (λi h=>h.IsListIter it a i) where
 mem:=by simp
 obj:=λi h f b j=>by
  have e:b=it:=by simpa using j
  subst e;obtain⟨o,e,c,d⟩:=f;exact⟨o,e,λv z=>by rw[d]at z;cases z⟩
 keep:=λi h n f k=>f.at λo e=>k it (by simp) o e
 item:=by
  intro X D y hK N i g s M H E I m f A;subst D y hK;obtain⟨S,x,q,B⟩:=A;obtain⟨r,G,p,T⟩:=I.list q;obtain⟨u,U,W⟩:=G.get B;obtain⟨t,F,R,C,J,L⟩:=m it (by simp);refine wpAny_pyNext_list_item f p.isList (x:=u) (by simpa using U) λn l V=>?_;have Y:Inv X g M H { s with heap:=n }:=I.turned (t':=s.toks) (λb o j e=>(V.2 b j).trans e) t F C J L;obtain⟨o,e,c,d⟩:=id l;exact⟨u,rfl,Ft (s:={ s with heap:=n }) e c d (by decide) ⟨x,H,Y,W,⟨rfl,λ_ Q=>by rw[I.tu Q q];exact B⟩,l,λb j=>(m b j).1⟩⟩
 done:=by
  intro X D y hK N i g s M H E I m f A;subst D y hK;obtain⟨S,q,B⟩:=A;obtain⟨r,G,p,T⟩:=I.list q;obtain⟨t,F,R,C,J,L⟩:=m it (by simp);have Z:=G.length;exact wpAny_pyNext_list_end (I.ok.hd N) f p.isList (by simp;lia) λn O=>⟨rfl,I.turned (t':=s.toks) (λb o j e=>O b o j e) t F C J L⟩
 self:=λ_ _ _ _ _ f h=>wpAny_pyIter_listiter f h
theorem BA {P:Zd}{w:Ze}{K:Wz}{tg:Expr} (a it:Za):Turn P w K tg (Itt K a) [it] it (λi h=>h.IsTupleIter it a i) where
 mem:=by simp
 obj:=λi h f b l=>by
  have e:b=it:=by simpa using l
  subst e;obtain⟨o,e,c,d⟩:=f;exact⟨o,e,λv z=>by rw[d]at z;cases z⟩
 keep:=λi h q f k=>f.at λo e=>k it (by simp) o e
 item:=by
  intro X D y hK N i g s M H E I n f A;subst D y hK;obtain⟨S,x,r,B⟩:=A;obtain⟨j,G,p,T⟩:=I.tuple r;obtain⟨u,U,W⟩:=G.get B;obtain⟨t,F,R,C,J,L⟩:=n it (by simp);refine wpAny_pyNext_tuple_item f (show s.heap.IsTuple a j.toArray from p) (x:=u) (by simpa using U) λq m V=>?_;have Y:Inv X g M H { s with heap:=q }:=I.turned (t':=s.toks) (λb o l e=>(V.2 b l).trans e) t F C J L;obtain⟨o,e,c,d⟩:=id m;exact⟨u,rfl,Ft (s:={ s with heap:=q }) e c d (by decide) ⟨x,H,Y,W,⟨rfl,λ_ Q=>by rw[I.E6 Q r];exact B⟩,m,λb l=>(n b l).1⟩⟩
 done:=by
  intro X D y hK N i g s M H E I n f A;subst D y hK;obtain⟨S,r,B⟩:=A;obtain⟨j,G,p,T⟩:=I.tuple r;obtain⟨t,F,R,C,J,L⟩:=n it (by simp);have Z:=G.length;exact wpAny_pyNext_tuple_end (I.ok.hd N) f (show s.heap.IsTuple a j.toArray from p) (by simp;lia) λq O=>⟨rfl,I.turned (t':=s.toks) (λb o l e=>O b o l e) t F C J L⟩
 self:=λ_ _ _ _ _ f h=>wpAny_pyIter_tupleiter f h
theorem Bv {P:Zd}{w:Ze}{K:Wz}{tg:Expr} (it:Za) (lo:Int) (n:Nat):Turn P w K tg (Itr lo n) [it] it (λi h=>IsRangeIter h it (lo+(i:Nat) * 1) ((n:Int) - (i:Nat)) 1) where
 mem:=by simp
 obj:=λi h a b d=>by
  have e:b=it:=by simpa using d
  subst e;exact⟨_,a,λv z=>by
   have J:Data.fields _=Data.cell v:=z;cases J⟩
 keep:=λi h j a k=>k it (by simp) _ a
 item:=by
  intro X r m hK A i c s C H E I g a p;subst r m hK;obtain⟨l,u,F,q,x,y⟩:=g it (by simp);have W:=Walks.range (prog:=X.prog) (w:=X.w) (I.ok.hd A) it lo 1 n;refine W.item i s _ _ p a λv j B M f G=>?_;obtain⟨t,rfl⟩:=M;have L:Inv X c C H { s with heap:=j,toks:=B }:=I.turned (λb o d e=>G b o (by simpa using d) e) l u q x y;refine⟨_,rfl,Ft (s:={ s with heap:=j,toks:=B }) (n:= "range_iterator") f rfl rfl (by decide) ⟨.int (lo+i),H,L,⟨t,?_⟩,⟨rfl,rfl⟩,f,λb d=>(g b d).1⟩⟩;rw[Int.mul_one]
 done:=by
  intro X r m hK A i c s C H E I g a p;subst r m hK;obtain⟨l,u,F,q,x,y⟩:=g it (by simp);exact wpAny_pyNext_range_end (I.ok.hd A) a (by have:n<=i:=p;lia) λj D=>⟨rfl,I.turned (t':=s.toks) (λb o d e=>D b o d e) l u q x y⟩
 self:=λ_ _ _ _ _ a h=>wpAny_pyIter_rangeiter a h
section
variable {X:Cx}{tg:Expr}
def Fp (K:Wz) (tl:TE):TI:=λσ H R=>tl σ H λx H1=>∃a,x = .ref a/\(∃xs,SqL K H1 a xs)/\R (Itl K a) H1
def RX (K:Wz) (tl:TE):TI:=λσ H R=>tl σ H λx H1=>∃a,x = .ref a/\(∃xs,SqT K H1 a xs)/\R (Itt K a) H1
theorem aY {l:Expr}{tl:TE} (i:PE X l tl):PI X tg l (Fp X.K tl):=by
 intro c s n H R I h;refine thn (i c s n H _ I h) λv s1 ⟨x,m,d,g,f⟩=>?_;obtain⟨a,e,⟨_,j⟩,q⟩:=f;subst e;cases g;obtain⟨_,_,p,_⟩:=d.list j;refine wpAny_pyIter_list p.isList ?_;refine⟨s1.heap.objs.size,[s1.heap.objs.size],_,_,m,rfl,d.kept (t':=s1.toks) λb o e=>Wu _ e,DK a _,⟨_,Y1 _ rfl,rfl,rfl⟩,λb k=>?_,q⟩;have e:b=s1.heap.objs.size:=by simpa using k
 subst e;exact d.rJ (Tw _) (d.hok.fresh (Tw _))
theorem LQ {l:Expr}{tl:TE} (j:PE X l tl):PI X tg l (RX X.K tl):=by
 intro c s r H R I h;refine thn (j c s r H _ I h) λv s1 ⟨x,n,d,i,g⟩=>?_;obtain⟨a,e,⟨_,k⟩,q⟩:=g;subst e;cases i;obtain⟨f,_,p,_⟩:=d.tuple k;refine wpAny_pyIter_tuple (show s1.heap.IsTuple a f.toArray from p) ?_;refine⟨s1.heap.objs.size,[s1.heap.objs.size],_,_,n,rfl,d.kept (t':=s1.toks) λb o e=>Wu _ e,BA a _,⟨_,Y1 _ rfl,rfl,rfl⟩,λb m=>?_,q⟩;have e:b=s1.heap.objs.size:=by simpa using m
 subst e;exact d.rJ (Tw _) (d.hok.fresh (Tw _))
theorem FT {pins:List (Za×Obj)}{σ:St}{H:Hp}{s:Wx}{R:It->Hp->Prop}{E:Wy->Wx->Prop}{lo hi:Int}{t u v:Tok}{tk:Nat} (I:Inv X pins σ H s) (h1 : -(2 ^ 62)<=lo) (h2:lo<2 ^ 62) (c : -(2 ^ 62)<=hi) (h:hi<2 ^ 62)
  (q:R (Itr lo (hi - lo).toNat) H):Zh (model X.prog X.w) X.A (pyIter (.ref s.heap.objs.size)) (PIE X pins σ tg R) E { s with heap:=s.heap.push { cls:=.type "range",data:=.fields #[.int lo t,.int hi u,.int 1 v] },toks:=tk }:=by
 refine wpAny_pyIter_range (IsRange.new ..) (small_one h1 h2 c h) ?_;have a:Inv X pins σ H { s with heap:=s.heap.push { cls:=.type "range",data:=.fields #[.int lo t,.int hi u,.int 1 v] },toks:=tk }:=I.kept λb o e=>Wu _ e;refine⟨(s.heap.push { cls:=.type "range",data:=.fields #[.int lo t,.int hi u,.int 1 v] }).objs.size,[(s.heap.push { cls:=.type "range",data:=.fields #[.int lo t,.int hi u,.int 1 v] }).objs.size],_,_,H,rfl,
  a.kept (t':=tk) λb o e=>Wu _ e,Bv _ lo (hi - lo).toNat,?_,λb f=>?_,q⟩
 ·have g:lo+((0:Nat):Int) * 1=lo:=by simp
  have d:(((hi - lo).toNat:Nat):Int) - ((0:Nat):Int)=Builtin.Range.rangeSize lo hi 1:=by rw[rangeSize_one];split <;> lia
  show IsRangeIter _ _ (lo+((0:Nat):Int) * 1) ((((hi - lo).toNat:Nat):Int) - ((0:Nat):Int)) 1;rw[g,d];exact Y1 _ rfl
 ·have e:b=(s.heap.push { cls:=.type "range",data:=.fields #[.int lo t,.int hi u,.int 1 v] }).objs.size:=by simpa using f
  subst e;exact a.rJ (Tw _) (a.hok.fresh (Tw _))
def NU (ta:TA):TI:=λσ H R=>ta σ H λvs H1=>∃j:Int,vs=[.int j] /\ -(2 ^ 62)<=j/\j<2 ^ 62/\R (Itr 0 j.toNat) H1
theorem dW {a:Expr}{ta:TA}{p pos:Pos} (g:Gl X "range") (f:X.mg "range" = none) (l:PA X [a] ta) (d:Zi [a] X.env=[(false,eval a X.env)]:=by rfl):PI X tg (.Call (.Name "range" p) [a] [] pos) (NU ta):=by
 intro b s o H R I h;refine Call_ (fm I g f boot_range (Yp (thn (l pos b s o H _ I h) λ_ _ ⟨_,_,m,i,c⟩=>?_) d rfl));obtain⟨j,e,c,n,q⟩:=c;subst e;cases i with
 | cons r k=>
  cases k;obtain⟨t,rfl⟩:=r;exact call_range_1 (FT m (by lia) (by lia) c n (by simpa using q))
def Ry (wi:TI) (g:TG) (tb:TS):TS:=λD σ H=>wi σ H λJ H1=>∃W:Nat->Nat->St->Hp->Prop,(∃m,W 0 m σ H1)/\∀i m σ H,W i m σ H ->
 (J.stop i H/\D.nx σ H)\/(J.go i H/\∃N:St->Hp->Prop,(∀σ' H',N σ' H'->∃m',m' < m/\W (i+1) m' σ' H')/\∀x H',J.yld i H x H'->g x σ H' λσ2 H2=>tb { D with nx:=N,ct:=N,bk:=D.nx } σ2 H2)
def tM (fp:WH) (h:Heap):List (Za×Obj):=fp.filterMap λb=>(h.get? b).map λo=>(b,o)
theorem jT {fp:WH}{h:Heap}{b:Za}{o:Obj} (hb:b∈fp) (e:h.get? b=some o):(b,o)∈tM fp h:=List.mem_filterMap.mpr ⟨b,hb,by rw[e];rfl⟩
theorem D6 {fp:WH}{h:Heap}{p:Za×Obj} (a:p∈tM fp h):p.1∈fp/\h.get? p.1=some p.2:=by
 obtain⟨b,d,e⟩:=List.mem_filterMap.mp a;cases q:h.get? b with
 | none=>rw[q]at e;cases e
 | some o=>
  rw[q]at e;have c:(b,o)=p:=Yr e;subst c;exact⟨d,q⟩
theorem Inv.pinned {pins:List (Za×Obj)}{σ:St}{H:Hp}{s:Wx}{fp:WH} (I:Inv X pins σ H s) (g:∀b∈fp,cg X pins H b) (k:∀b∈fp,∃o,s.heap.get? b=some o/\∀v,o.data ≠ .cell v):Inv X (pins++tM fp s.heap) σ H s:=
 I.oN λp f=>(TV.mp f).elim (λz=>I.pin p (Ua _ z)) λz=>by
  obtain⟨a,e⟩:=D6 z;obtain⟨h,i,j,_⟩:=g p.1 a;obtain⟨o,c,d⟩:=k p.1 a;rw[e]at c;cases c;exact⟨e,h,i,j,d⟩
theorem Inv.iB {pins pl:List (Za×Obj)}{σ:St}{H:Hp}{s:Wx} (I:Inv X (pins++pl) σ H s):Inv X pins σ H s:=I.oN λp hp=>I.pin p (Ua _ (U4 _ hp))
theorem ji {iter:Expr}{t:List Stmt}{wi:TI}{g:TG}{tb:TS}{pos:Pos} (B:PassesOwn (model X.prog X.w) X.A X.env X.xe) (hc:X.calm=true) (hi:PI X tg iter wi) (hg:PG X tg g) (q:PSs X t tb)
  (hs:∀x,foldedSetIterable iter X.env x=pure x:=by intro _;rfl):PS X (.For tg iter t [] pos) (Ry wi g tb):=by
 intro a s σ H D I h;refine wpAny_For (thn (hi a s σ H _ I h) λv _ h1=>thn h1 λ_ _ h2=>?_) hs;obtain⟨_,C,tn,J,H2,e,I2,T,Y,f2,W,⟨m0,w0⟩,E⟩:=h2;subst e;have R:∀{H':Hp},(∀b∈C,H' b=none)->∀b∈C,cg X a H' b:=λhn b q=>⟨hn b q,(f2 b q).2⟩;refine codeAny_forLoop_any (λn s'=>∃i σ' H',Inv X a σ' H' s'/\tn i s'.heap/\(∀b∈C,H' b=none)/\W i n σ' H') ?_ m0 ⟨0,σ,H2,I2,Y,λb q=>(f2 b q).1,w0⟩;rintro n s3 ⟨i,p,O,I3,K,L,w3⟩;rcases E i n p O w3 with⟨G,qn⟩ | ⟨go,N,hN,M⟩
 ·refine wpAny_passesOwn B (thn (T.done X rfl rfl rfl hc i a s3 p O X.xe I3 (R L) K G) λr s4 ⟨V,I4⟩=>?_);subst V;exact wpAny_execs_nil ⟨p,O,I4,qn⟩
 ·refine wpAny_passesOwn B (thn (T.item X rfl rfl rfl hc i a s3 p O X.xe I3 (R L) K go) λr s4 ⟨u,V,h4⟩=>?_);subst V;refine wpAny_passesOwn B (thn h4 λ_ Z ⟨x,H5,I5,r5,y5,z,P⟩=>?_);have Q:=I5.pinned (R P) (T.obj _ _ z);refine wpAny_passesOwn B (thn (hg _ Z p H5 x u _ Q r5 (M x H5 y5)) λ_ s6 ⟨U,H6,I6,q6⟩=>?_);refine wpAny_passesOwn B (thn (q _ s6 U H6 _ I6 q6) λf S y=>?_);have j:∀{c:St}{k:Hp},Inv X (a++tM C Z.heap) c k S->N c k->∃m,m<n/\∃i σ' H',Inv X a σ' H' S/\tn i S.heap/\(∀b∈C,H' b=none)/\W i m σ' H':=λ{c k} l F=>by
   obtain⟨m',hm,w7⟩:=hN c k F;refine⟨m',hm,i+1,c,k,l.iB,T.keep _ _ _ z λb q o e=>(l.pin (b,o) (Ua _ (Ua _ (jT q e)))).1,λb q=>?_,w7⟩;obtain⟨o,e,d⟩:=T.obj _ _ z b q;exact(l.pin (b,o) (Ua _ (Ua _ (jT q e)))).2.1
  cases f with
  | next=>obtain⟨c,k,l,F⟩:=y;exact j l F
  | cont=>obtain⟨c,k,l,F⟩:=y;exact j l F
  | brk=>obtain⟨c,k,l,y⟩:=y;exact⟨c,k,l.iB,y⟩
  | ret v=>obtain⟨x7,c,k,l,r7,y⟩:=y;exact⟨x7,c,k,l.iB,r7,y⟩
end
theorem k8 {K:Wz}{a:Za}{xs:WD}{g:TG}{tb:TS}{D:Ends}{σ:St}{H:Hp} (b:Nat->St->Hp->Prop) (h:b 0 σ H) (f:∀i σ H,i<=xs.length->b i σ H->SqL K H a xs)
  (d:∀i x σ H,xs[i]? = some x->b i σ H->g x σ H λσ2 H2=>tb { D with nx:=b (i+1),ct:=b (i+1),bk:=D.nx } σ2 H2) (k:∀σ H,b xs.length σ H->D.nx σ H) :
  ∃W:Nat->Nat->St->Hp->Prop,(∃m,W 0 m σ H)/\∀i m σ H,W i m σ H ->
   ((Itl K a).stop i H/\D.nx σ H)\/((Itl K a).go i H/\∃N:St->Hp->Prop,(∀σ' H',N σ' H'->∃m',m' < m/\W (i+1) m' σ' H')/\∀x H',(Itl K a).yld i H x H'->g x σ H' λσ2 H2=>tb { D with nx:=N,ct:=N,bk:=D.nx } σ2 H2):=by
 refine⟨λi m σ H=>m=xs.length - i/\i<=xs.length/\b i σ H,⟨xs.length,by simp,T2 _,h⟩,?_⟩;rintro i m σ H ⟨rfl,j,p⟩;have q:=f i σ H j p;by_cases c:i<xs.length
 ·refine .inr ⟨⟨xs,xs[i],q,by simp[c]⟩,b (i+1),λσ' H' p'=>⟨xs.length - (i+1),by lia,rfl,c,p'⟩,λx H' y=>?_⟩;obtain⟨e,y⟩:=y;subst e;exact d i x σ _ (y xs q) p
 ·have e:i=xs.length:=by lia
  subst e;exact .inl ⟨⟨xs,q,Tw _⟩,k σ H p⟩
theorem qa {lo:Int}{n:Nat}{g:TG}{tb:TS}{D:Ends}{σ:St}{H:Hp} (b:Nat->St->Hp->Prop) (d:b 0 σ H)
  (f:∀i σ H,i<n->b i σ H->g (.int (lo+i)) σ H λσ2 H2=>tb { D with nx:=b (i+1),ct:=b (i+1),bk:=D.nx } σ2 H2) (c:∀σ H,b n σ H->D.nx σ H) :
  ∃W:Nat->Nat->St->Hp->Prop,(∃m,W 0 m σ H)/\∀i m σ H,W i m σ H ->
   ((Itr lo n).stop i H/\D.nx σ H)\/((Itr lo n).go i H/\∃N:St->Hp->Prop,(∀σ' H',N σ' H'->∃m',m' < m/\W (i+1) m' σ' H')/\∀x H',(Itr lo n).yld i H x H'->g x σ H' λσ2 H2=>tb { D with nx:=N,ct:=N,bk:=D.nx } σ2 H2):=by
 refine⟨λi m σ H=>m=n - i/\i<=n/\b i σ H,⟨n,by simp,T2 _,d⟩,?_⟩;rintro i m σ H ⟨rfl,_,p⟩;by_cases a:i<n
 ·refine .inr ⟨a,b (i+1),λσ' H' p'=>⟨n - (i+1),by lia,rfl,a,p'⟩,λx H' y=>?_⟩;obtain⟨e,y⟩:=y;subst e y;exact f i σ _ a p
 ·have e:i=n:=by lia
  subst e;exact .inl ⟨Tw _,c σ H p⟩
abbrev R2:=V->V->Hp->VK->Prop
def OpR (X:Cx) (f:Wy->Wy->Sem Wy) (r:R2):Prop:=
 ∀(pins:List (Za×Obj)) (s:Wx) (σ:St) (H:Hp) (x y:V) (v u:Wy) (Q:VK),Inv X pins σ H s->RelV x v->RelV y u->r x y H Q ->
  Zh (model X.prog X.w) X.A (f v u) (EP X pins σ Q) X.xe s
def UnR (X:Cx) (f:Wy->Sem Wy) (r:V->Hp->VK->Prop):Prop:=
 ∀(pins:List (Za×Obj)) (s:Wx) (σ:St) (H:Hp) (x:V) (v:Wy) (Q:VK),Inv X pins σ H s->RelV x v->r x H Q ->
  Zh (model X.prog X.w) X.A (f v) (EP X pins σ Q) X.xe s
def ia (X:Cx) (f:Wy) (r:WD->Hp->VK->Prop):Prop:=
 ∀(pins:List (Za×Obj)) (s:Wx) (σ:St) (H:Hp) (xs:WD) (us:WJ) (Q:VK),Inv X pins σ H s->aO xs us->r xs H Q ->
  Zh (model X.prog X.w) X.A (call f us) (EP X pins σ Q) X.xe s
def Qh (X:Cx) (r:V->Hp->(Bool->Hp->Prop)->Prop):Prop:=
 ∀(pins:List (Za×Obj)) (s:Wx) (σ:St) (H:Hp) (x:V) (v:Wy) (Q:Bool->Hp->Prop),Inv X pins σ H s->RelV x v->r x H Q ->
  Zh (model X.prog X.w) X.A (truthy v) (TP X pins σ Q) X.xe s
def tOp (r:R2) (ta tb:TE):TE:=λσ H Q=>ta σ H λx H1=>tb σ H1 λy H2=>r x y H2 Q
def tUn (r:V->Hp->VK->Prop) (ta:TE):TE:=λσ H Q=>ta σ H λx H1=>r x H1 Q
def rI (C:Int->Int->Prop) (g:Int->Int->V):R2:=λx y H Q=>∃i j,x = .int i/\y = .int j/\C i j/\Q (g i j) H
def rI0 (g:Int->Int->V):R2:=λx y H Q=>∃i j,x = .int i/\y = .int j/\Q (g i j) H
def rU (g:Int->V):V->Hp->VK->Prop:=λx H Q=>∃i,x = .int i/\Q (g i) H
section
variable {X:Cx}{a b c:Expr}{ta tb tc:TE}{pos:Pos}
theorem Mr (c:PE X a ta) (j:PE X b tb) {pins:List (Za×Obj)}{s:Wx}{σ:St}{H:Hp}{R:V->V->Hp->Prop} (I:Inv X pins σ H s)
  (h:ta σ H λx H1=>tb σ H1 λy H2=>R x y H2) {Q:Wy->Wx->Prop}{f:Wy->Wy->Sem Wy}
  (g:∀v u s2 x y H2,Inv X pins σ H2 s2->RelV x v->RelV y u->R x y H2->Zh (model X.prog X.w) X.A (f v u) Q X.xe s2) :
  Zh (model X.prog X.w) X.A (eval a X.env) (λv s₁=>Zh (model X.prog X.w) X.A (eval b X.env) (λu s₂=>Zh (model X.prog X.w) X.A (f v u) Q X.xe s₂) X.xe s₁) X.xe s:=by
 refine thn (c pins s σ H _ I h) λv k ⟨x,H1,d,l,n⟩=>?_;refine thn (j pins k σ H1 _ d n) λu s2 ⟨y,H2,m,i,e⟩=>?_;exact g v u s2 x y H2 m l i e
theorem bN {op:Operator}{r:R2} (e:OpR X (binaryOp op) r) (k:PE X a ta) (i:PE X b tb):PE X (.BinOp a op b pos) (tOp r ta tb):=by
 intro c s l H Q I h;exact wpAny_BinOp (Mr k i I h λv u f x y d j g m q=>e c f l d x y v u Q j g m q)
theorem NA {op:UnaryOp}{r:V->Hp->VK->Prop} (k:UnR X (unaryOp op) r) (d:PE X a ta):PE X (.UnaryOp op a pos) (tUn r ta):=by
 intro b s c H Q I h;exact UnaryOp_ (thn (d b s c H _ I h) λv g ⟨x,e,f,i,j⟩=>k b g c e x v Q f i j)
theorem opI {f:Wy->Wy->Sem Wy}{C:Int->Int->Prop}{g:Int->Int->Int}
  (a:∀(i j:Int) (t u:Tok) (s:Wx) (Q:Wy->Wx->Prop) (E:Wy->Wx->Prop),C i j->Q (.int (g i j) s.toks) { s with toks:=s.toks+1 }->Zh (model X.prog X.w) X.A (f (.int i t) (.int j u)) Q E s) :
  OpR X f (rI C λi j=>.int (g i j)):=by
 intro _ s _ H x y v u Q I c e h;obtain⟨i,j,rfl,rfl,d,q⟩:=h;obtain⟨t,rfl⟩:=c;obtain⟨b,rfl⟩:=e;exact a i j t b s _ _ d ⟨.int (g i j),H,I.tok _,⟨_,rfl⟩,q⟩
theorem Oj {f:Wy->Wy->Sem Wy}{g:Int->Int->Int}
  (a:∀(i j:Int) (t u:Tok) (s:Wx) (Q:Wy->Wx->Prop) (E:Wy->Wx->Prop),Q (.int (g i j) s.toks) { s with toks:=s.toks+1 }->Zh (model X.prog X.w) X.A (f (.int i t) (.int j u)) Q E s) :
  OpR X f (rI0 λi j=>.int (g i j)):=by
 intro _ s _ H x y v u Q I c d h;obtain⟨i,j,rfl,rfl,q⟩:=h;obtain⟨t,rfl⟩:=c;obtain⟨b,rfl⟩:=d;exact a i j t b s _ _ ⟨.int (g i j),H,I.tok _,⟨_,rfl⟩,q⟩
theorem IX {f:Wy->Wy->Sem Wy}{g:Int->Int->Bool}
  (a:∀(i j:Int) (t u:Tok) (s:Wx) (Q:Wy->Wx->Prop) (E:Wy->Wx->Prop),Q (.bool (g i j)) s->Zh (model X.prog X.w) X.A (f (.int i t) (.int j u)) Q E s) :
  OpR X f (rI0 λi j=>.bl (g i j)):=by
 intro _ s _ H x y v u Q I c d h;obtain⟨i,j,rfl,rfl,q⟩:=h;obtain⟨t,rfl⟩:=c;obtain⟨b,rfl⟩:=d;exact a i j t b s _ _ ⟨.bl (g i j),H,I,rfl,q⟩
def Rk (i j:Int):Prop:=0<j/\j<1073741824
def Qf (i j:Int):Prop:=0<=j/\j<=1000000/\i.natAbs<2 ^ 64
def Mw (i j:Int):Prop:=(-(2 ^ 64)<i/\i<2 ^ 64)\/(-(2 ^ 64)<j/\j<2 ^ 64)
theorem Mw.ok {i j:Int} (h:Mw i j):IntMulOk i j:=by
 rcases h with⟨h1,h2⟩ | ⟨h1,h2⟩
 ·exact .of_left (intBits_le_64 h1 h2)
 ·exact .of_right (intBits_le_64 h1 h2)
theorem ib:OpR X (binaryOp .Add) (rI0 λi j=>.int (i+j)):=Oj λ_ _ _ _ _ _ _ q=>add_int q
theorem Gs:OpR X (binaryOp .Sub) (rI0 λi j=>.int (i - j)):=Oj λ_ _ _ _ _ _ _ q=>sub_int q
theorem Gx:OpR X (binaryOp .Mult) (rI Mw λi j=>.int (i * j)):=opI λ_ _ _ _ _ _ _ hc q=>mul_int q hc.ok
theorem CH:OpR X (binaryOp .FloorDiv) (rI Rk λi j=>.int (i / j)):=opI λi j _ _ _ _ _ a q=>by
 have c:(0:Int)<j:=a.1;have b:j<1073741824:=a.2;exact floordiv_int (by lia) (by rw[Int.fdiv_eq_ediv_of_nonneg i (by lia)];exact q) (.inl (PyProof.noPylong_small (by lia)))
theorem pY:OpR X (binaryOp .Mod) (rI (λ_ j=>0<j) λi j=>.int (i % j)):=opI λi j _ _ _ _ _ a q=>by
 have b:(0:Int)<j:=a;exact mod_int' (by lia) (by rw[Int.fmod_eq_emod_of_nonneg i (by lia)];exact q)
theorem yh:OpR X (binaryOp .Pow) (rI Qf λi j=>.int (i ^ j.toNat)):=opI λ_ _ _ _ _ _ _ hc q=>pow_int_small hc.1 hc.2.1 hc.2.2 q
theorem unI {f:Wy->Sem Wy}{g:Int->Int}
  (a:∀(i:Int) (t:Tok) (s:Wx) (Q:Wy->Wx->Prop) (E:Wy->Wx->Prop),Q (.int (g i) s.toks) { s with toks:=s.toks+1 }->Zh (model X.prog X.w) X.A (f (.int i t)) Q E s) :
  UnR X f (rU λi=>.int (g i)):=by
 intro _ s _ H x v Q I b h;obtain⟨i,rfl,q⟩:=h;obtain⟨t,rfl⟩:=b;exact a i t s _ _ ⟨.int (g i),H,I.tok _,⟨_,rfl⟩,q⟩
theorem Ma:UnR X (unaryOp .USub) (rU λi=>.int (-i)):=unI λ_ _ _ _ _ q=>neg_int q
end
def P6:V->V->Bool
 | .non,.non=>true | .non,.int _=>true | .int _,.non=>true | .non,.bl _=>true | .bl _,.non=>true | .non,.str _=>true | .str _,.non=>true
 | .int _,.int _=>true | .bl _,.bl _=>true | .str _,.str _=>true | .byt _,.byt _=>true
 | .int _,.str _=>true | .str _,.int _=>true | .bl _,.str _=>true | .str _,.bl _=>true
 | _,_=>false
def rEq:R2:=λx y H Q=>P6 x y=true/\Q (.bl (decide (x=y))) H
def rNe:R2:=λx y H Q=>P6 x y=true/\Q (.bl (!decide (x=y))) H
theorem CA {i j:Int}:decide (V.int i=V.int j)=(i == j):=by
 rw[Ue];simp
theorem GC {i j:Bool}:decide (V.bl i=V.bl j)=(i == j):=by
 rw[Ue];simp
theorem CC {i j:Str}:decide (V.str i=V.str j)=(i == j):=by
 rw[Ue];simp
theorem DD {i j:Array UInt8}:decide (V.byt i=V.byt j)=(i.toList == j.toList):=by
 rw[Ue];cases i;cases j;simp
section
variable {X:Cx}{a b c:Expr}{ta tb tc:TE}{pos:Pos}
theorem bz {pins:List (Za×Obj)}{σ:St}{H:Hp}{s:Wx}{Q:VK}{k k':Bool} (I:Inv X pins σ H s) (q:Q (.bl k) H) (e:k=k'):EP X pins σ Q (.bool k') s:=by
 subst e;exact⟨.bl k,H,I,rfl,q⟩
theorem nv:OpR X (compareOp .Eq) rEq:=by
 intro _ s _ H x y v u Q I d a h;obtain⟨c,q⟩:=h;cases x with
 | non=>
  cases d;cases y with
  | non=>cases a;exact PySem.EqNone.eq_none_none (bz I q (by simp))
  | bl j=>cases a;exact PySem.EqNone.eq_none_bool (bz I q (by simp))
  | int j=>obtain⟨b,rfl⟩:=a;exact PySem.EqNone.eq_none_int (bz I q (by simp))
  | str j=>obtain⟨b,rfl⟩:=a;exact PySem.EqNone.eq_none_str (bz I q (by simp))
  | _=>exact absurd (show false=true from c) TQ
 | bl i=>
  cases d;cases y with
  | non=>cases a;exact PySem.EqNone.eq_bool_none (bz I q (by simp))
  | bl j=>cases a;exact eq_bool (bz I q GC)
  | str j=>obtain⟨b,rfl⟩:=a;exact PySem.EqMixed.eq_bool_str (bz I q (by simp))
  | _=>exact absurd (show false=true from c) TQ
 | int i=>
  obtain⟨t,rfl⟩:=d;cases y with
  | non=>cases a;exact PySem.EqNone.eq_int_none (bz I q (by simp))
  | int j=>obtain⟨b,rfl⟩:=a;exact eq_int (bz I q CA)
  | str j=>obtain⟨b,rfl⟩:=a;exact PySem.EqMixed.eq_int_str (bz I q (by simp))
  | _=>exact absurd (show false=true from c) TQ
 | str i=>
  obtain⟨t,rfl⟩:=d;cases y with
  | non=>cases a;exact PySem.EqNone.eq_str_none (bz I q (by simp))
  | bl j=>cases a;exact PySem.EqMixed.eq_str_bool (bz I q (by simp))
  | int j=>obtain⟨b,rfl⟩:=a;exact PySem.EqMixed.eq_str_int (bz I q (by simp))
  | str j=>obtain⟨b,rfl⟩:=a;exact eq_str (bz I q CC)
  | _=>exact absurd (show false=true from c) TQ
 | byt i=>
  obtain⟨t,rfl⟩:=d;cases y with
  | byt j=>obtain⟨b,rfl⟩:=a;exact PySem.W.eq_bytes (bz I q DD)
  | _=>exact absurd (show false=true from c) TQ
 | _=>cases y <;> exact absurd (show false=true from c) TQ
theorem yW:OpR X (compareOp .NotEq) rNe:=by
 intro _ s _ H x y v u Q I d a h;obtain⟨c,q⟩:=h;cases x with
 | non=>
  cases d;cases y with
  | non=>cases a;exact PySem.EqNone.ne_none_none (bz I q (by simp))
  | bl j=>cases a;exact PySem.EqNone.ne_none_bool (bz I q (by simp))
  | int j=>obtain⟨b,rfl⟩:=a;exact PySem.EqNone.ne_none_int (bz I q (by simp))
  | str j=>obtain⟨b,rfl⟩:=a;exact PySem.EqNone.ne_none_str (bz I q (by simp))
  | _=>exact absurd (show false=true from c) TQ
 | bl i=>
  cases d;cases y with
  | non=>cases a;exact PySem.EqNone.ne_bool_none (bz I q (by simp))
  | bl j=>cases a;exact ne_bool (bz I q (congrArg not GC))
  | str j=>obtain⟨b,rfl⟩:=a;exact PySem.EqMixed.ne_bool_str (bz I q (by simp))
  | _=>exact absurd (show false=true from c) TQ
 | int i=>
  obtain⟨t,rfl⟩:=d;cases y with
  | non=>cases a;exact PySem.EqNone.ne_int_none (bz I q (by simp))
  | int j=>obtain⟨b,rfl⟩:=a;exact ne_int (bz I q (congrArg not CA))
  | str j=>obtain⟨b,rfl⟩:=a;exact PySem.EqMixed.ne_int_str (bz I q (by simp))
  | _=>exact absurd (show false=true from c) TQ
 | str i=>
  obtain⟨t,rfl⟩:=d;cases y with
  | non=>cases a;exact PySem.EqNone.ne_str_none (bz I q (by simp))
  | bl j=>cases a;exact PySem.EqMixed.ne_str_bool (bz I q (by simp))
  | int j=>obtain⟨b,rfl⟩:=a;exact PySem.EqMixed.ne_str_int (bz I q (by simp))
  | str j=>obtain⟨b,rfl⟩:=a;exact ne_str (bz I q (congrArg not CC))
  | _=>exact absurd (show false=true from c) TQ
 | byt i=>
  obtain⟨t,rfl⟩:=d;cases y with
  | byt j=>obtain⟨b,rfl⟩:=a;exact PySem.W.ne_bytes (bz I q (congrArg not DD))
  | _=>exact absurd (show false=true from c) TQ
 | _=>cases y <;> exact absurd (show false=true from c) TQ
theorem yO:OpR X (compareOp .Lt) (rI0 λi j=>.bl (decide (i<j))):=IX λ_ _ _ _ _ _ _ q=>lt_int q
theorem Dw:OpR X (compareOp .LtE) (rI0 λi j=>.bl (decide (i<=j))):=IX λ_ _ _ _ _ _ _ q=>le_int q
theorem K8:OpR X (compareOp .Gt) (rI0 λi j=>.bl (decide (j<i))):=IX λ_ _ _ _ _ _ _ q=>gt_int q
theorem F9:OpR X (compareOp .GtE) (rI0 λi j=>.bl (decide (j<=i))):=IX λ_ _ _ _ _ _ _ q=>ge_int q
theorem BN:OpR X (compareOp .Is) (λx y H Q=>y = .non/\Q (.bl (decide (x = .non))) H):=by
 intro _ s _ H x y v u Q I a b h;obtain⟨rfl,q⟩:=h;cases b;refine is_none_gen (bz I q ?_);cases x <;> first
  | (cases a;rfl)
  | (obtain⟨t,rfl⟩:=a;rfl)
theorem bg (b:Expr) {op:CmpOp} (h:op ≠ .In:=by decide) (h2:op ≠ .NotIn:=by decide):behindInMarks op b=false:=by
 have a:(op == CmpOp.In)=false:=by cases op <;> first | rfl | exact absurd rfl h
 have e2:(op == CmpOp.NotIn)=false:=by cases op <;> first | rfl | exact absurd rfl h2
 cases b <;> simp[behindInMarks,a,e2]
theorem eF {op:CmpOp}{r:R2} (f:OpR X (compareOp op) r) (l:PE X a ta) (j:PE X b tb) (e:behindInMarks op b=false):PE X (.Compare a [op] [b] pos) (tOp r ta tb):=by
 intro c s m H Q I h;exact wpAny_Compare1 (Mr l j I h λv u g x y d k i n q=>f c g m d x y v u Q k i n q) e
def KZ (t:TE):TT:=λσ H Q=>t σ H λx H'=>∃k,x = .bl k/\Q k H'
theorem bi {op:CmpOp}{r:R2} (n:OpR X (compareOp op) r) (B:PE X a ta) (w:PE X b tb) (j:behindInMarks op b=false):PT X (.Compare a [op] [b] pos) (KZ (tOp r ta tb)):=by
 intro d s f H Q I h;refine wpAny_isTrue_Compare1 (thn (B d s f H _ I h) λv F ⟨x,C,D,t,l⟩=>thn (w d F f C _ D l) λu o ⟨y,g,A,q,E⟩=>
  thn (n d o f g x y v u _ A t q E) λc _ ⟨z,p,m,i,k,e,q3⟩=>?_) j
 subst e;cases i;exact wpAny_truthy_bool ⟨p,m,q3⟩
def Ho (r r':R2) (ta tb tc:TE):TE:=λσ H Q=>ta σ H λx H1=>tb σ H1 λy H2=>r x y H2 λz H3=>∃k,z = .bl k /\
 (if k=true then tc σ H3 λw' H4=>r' y w' H4 Q else Q (.bl false) H3)
theorem Fs {op g:CmpOp}{r o:R2} (E:OpR X (compareOp op) r) (j:OpR X (compareOp g) o) (N:PE X a ta) (K:PE X b tb) (U:PE X c tc)
  (A:lastMarks [op,g] [b,c]=false:=by with_unfolding_all rfl):PE X (.Compare a [op,g] [b,c] pos) (Ho r o ta tb tc):=by
 intro f s i H Q I h;refine Compare_chain (thn (N f s i H _ I h) λv T ⟨x,O,R,F,B⟩=>chain_link (thn (K f T i O _ R B) λu D ⟨y,p,L,n,S⟩=>
  thn (E f D i p x y v u _ L F n S) λd q ⟨z,m,l,t,k,e,q3⟩=>?_)) A
 subst e;cases t;refine wpAny_truthy_bool ?_;cases k with
 | false=>exact ite_ff ⟨.bl false,m,l,rfl,q3⟩
 | true=>exact ite_tt (chain_last (thn (U f q i m _ l q3) λP J ⟨M,G,C,w,V⟩=>j f J i G y M u P Q C n w V))
theorem Iq {op g:CmpOp}{r o:R2} (G:OpR X (compareOp op) r) (j:OpR X (compareOp g) o) (U:PE X a ta) (R:PE X b tb) (hc:PE X c tc)
  (C:lastMarks [op,g] [b,c]=false:=by with_unfolding_all rfl):PT X (.Compare a [op,g] [b,c] pos) (KZ (Ho r o ta tb tc)):=by
 intro f s i H Q I h;refine isTrue_chain (thn (U f s i H _ I h) λv s1 ⟨x,V,Y,N,D⟩=>test_link (thn (R f s1 i V _ Y D) λu F ⟨y,p,S,n,Z⟩=>
  thn (G f F i p x y v u _ S N n Z) λd q ⟨z,m,l,t,k,e,q3⟩=>?_)) C
 subst e;cases t;refine wpAny_truthy_bool ?_;cases k with
 | false=>
  obtain⟨_,L,K⟩:=q3;cases L;exact ite_ff ⟨m,l,K⟩
 | true=>
  refine ite_tt (test_last (thn (hc f q i m _ l q3) λW P ⟨T,O,E,w,q4⟩=>thn (j f P i O y T u W _ E n w q4) λ_ _ ⟨_,H5,B,J,_,M,A⟩=>?_));subst M;cases J;exact wpAny_truthy_bool ⟨H5,B,A⟩
def J6 (K:Wz) (x:V) (H:Hp) (k:Bool):Prop:=
 match x with
 | .non=>k=false
 | .bl b=>k=b
 | .int i=>k=(i != 0)
 | .str y=>y.length<=Zg/\k=((y.length:Int) != 0)
 | .byt y=>y.size<=Zg/\k=((y.size:Int) != 0)
 | .ref p=>(∃xs,SqL K H p xs/\k = !xs.isEmpty)\/(∃xs,SqT K H p xs/\k = !xs.isEmpty)\/∃kvs,H p=some (.dK kvs)/\k = !kvs.isEmpty
 | _=>False
theorem AU {κ:Type}{kvs:List (κ×V)}{vs:List (κ×Wy)} (r:KV kvs vs):(!vs.isEmpty) = !kvs.isEmpty:=by
 cases r <;> rfl
theorem uS {xs:WD}{its:WJ} (r:aO xs its):(!its.toArray.isEmpty) = !xs.isEmpty:=by
 cases r <;> simp
theorem nW:(Zg:Nat)<2 ^ 63:=by rw[sizeLine_eq];decide
theorem GO:Qh X (λx H Q=>∃k,J6 X.K x H k/\Q k H):=by
 intro _ s _ H x v Q I f h;obtain⟨k,e,q⟩:=h;have z:=nW;have u:Zg=16777216:=sizeLine_eq;cases x with
 | non=>
  cases f;have a:k=false:=e;subst a;exact truthy_none ⟨H,I,q⟩
 | bl b=>
  cases f;have a:k=b:=e;subst a;exact wpAny_truthy_bool ⟨H,I,q⟩
 | int i=>
  obtain⟨t,rfl⟩:=f;have a:k=(i != 0):=e;subst a;exact PySem.P.truthy_int ⟨H,I,q⟩
 | str y=>
  obtain⟨t,rfl⟩:=f;obtain⟨o,a⟩:y.length<=Zg/\k=((y.length:Int) != 0):=e;subst a;exact PySem.P.truthy_str (by lia) ⟨H,I.tok _,q⟩
 | byt y=>
  obtain⟨t,rfl⟩:=f;obtain⟨o,a⟩:y.size<=Zg/\k=((y.size:Int) != 0):=e;subst a;exact PySem.W.truthy_bytes (by lia) ⟨H,I.tok _,q⟩
 | ref p=>
  cases f;have a:(∃d,SqL X.K H p d/\k = !d.isEmpty)\/(∃d,SqT X.K H p d/\k = !d.isEmpty)\/∃kvs,H p=some (.dK kvs)/\k = !kvs.isEmpty:=e;rcases a with⟨d,g,a⟩ | ⟨d,g,a⟩ | ⟨kvs,g,a⟩
  ·subst a;obtain⟨j,r,l,n⟩:=I.list g;have c:=r.length;exact wpAny_truthy_list l.isList (by simp only[TL];lia) ⟨H,I.tok _,by rw[uS r];exact q⟩
  ·subst a;obtain⟨j,r,l,n⟩:=I.tuple g;have c:=r.length;exact truthy_tuple l (by simp only[TL];lia) ⟨H,I.tok _,by rw[uS r];exact q⟩
  ·subst a;obtain⟨n,hS,vs,r,m⟩:kvs.length<=Zg/\(p == sysModules)=false/\∃vs,KV kvs vs/\s.heap.DictOf (bh X.prog X.w) p vs:=I.hok p _ g;have c:kvs.length=vs.length:=Paired.length r;exact wpAny_truthy_dict hS m (by lia) ⟨H,I.tok _,by rw[AU r];exact q⟩
 | _=>exact(show False from e).elim
theorem tU (c:PE X a ta) (g:∀whole,isTrue a X.env whole=(do let v <-whole;standAt a.pos;holding [v] (truthy v))) :
  PT X a (λσ H Q=>ta σ H λx H'=>∃k,J6 X.K x H' k/\Q k H'):=by
 intro b s σ H Q I h;exact isTrue_plain (thn (c b s σ H _ I h) λv f ⟨x,d,e,i,j⟩=>GO b f σ d x v Q e i j) (g _)
theorem vals1 {x:V}{us:WJ} (r:aO [x] us):∃u,us=[u]/\RelV x u:=by
 cases r with
 | cons r1 r2=>cases r2;exact⟨_,rfl,r1⟩
theorem vals2 {x y:V}{us:WJ} (r:aO [x,y] us):∃u w',us=[u,w']/\RelV x u/\RelV y w':=by
 cases r with
 | cons r1 r2=>
  cases r2 with
  | cons r3 r4=>cases r4;exact⟨_,_,rfl,r1,r3⟩
end
structure AM (h:Heap) (x dx C:Za) (mA:Str->Option Wy):Prop where
 obj:h.get? x=some (YK C dx)
 ns:h.Ns1 dx mA
 ne:dx≠x
theorem Eu {h:Heap}{dx:Za}{mA:Str->Option Wy} (n:h.Ns1 dx mA):∃od,h.get? dx=some od/\∀name,PySem.W.lookIn name od=some (mA name):=by
 obtain⟨o,b,_,k,d,g,_,j⟩:=n;refine⟨o,k,λname=>?_⟩;have e:=j name;unfold nsFind findBy at e;rw[<-Array.find?_toList]at e;unfold PySem.W.lookIn;rw[d];dsimp only
 split
 ·rename_i y q;rw[q]at e;exact congrArg some e
 ·rename_i q;rw[q]at e;have a:b.toList.any (·.refKey)=false:=by
   rw[List.any_eq_false];intro y i;obtain⟨z,t,c⟩:=g y (Array.mem_toList_iff.mp i);simp[DictEntry.refKey,c]
  have f:¬ b.toList.any (·.refKey)=true:=by rw[a];exact TQ
  rw[Zo f];exact congrArg some e
theorem AM.look {h:Heap}{x dx C:Za}{mA:Str->Option Wy} (I:AM h x dx C mA):∃od,PySem.W.InstAt h x (YK C dx) C (some od)/\∀name,PySem.W.lookIn name od=some (mA name):=
 let ⟨od,ho,hl⟩:=Eu I.ns
 ⟨od,⟨I.obj,rfl,rfl,ho⟩,hl⟩
section
variable {prog:Zd}{w:Ze}{A:Zc}{E:Wy->Wx->Prop}{s:Wx}{K:Wz}{x dx C f:Za}{mA:Str->Option Wy}{name:Str}{v:Wy}
theorem get_map {a:Bool}{Q:Wy->Wx->Prop} (X:K.In s.heap) (I:AM s.heap x dx C mA) (d:PySem.W.plainGet K C name=true) (e:PySem.W.hasDictIn K C=true)
  (c:Ym K (.ref C) name=some none) (g:mA name=some v) (b:PySem.W.handedIn v=true) (h:Q v { s with toks:=s.toks+1 }) :
  Zh (model prog w) A (getAttr (.ref x) name a) Q E s:=by
 obtain⟨_,J,f⟩:=I.look;exact PySem.W.get_value X J (PySem.W.plainGet_of d).1 (PySem.W.findObj_own e c rfl (by rw[f,g])) b h
theorem FJ {pl:Sem Bool}{Q:Wy×WJ->Wx->Prop} (X:K.In s.heap) (I:AM s.heap x dx C mA) (a:PySem.W.plainGet K C name=true)
  (d:Ym K (.ref C) name=some (some (.ref f))) (c:PySem.W.isFn K (.ref f)=true) (g:mA name=none) (h:Q (.ref f,[.ref x]) s) :
  Zh (model prog w) A (getMethod (.ref x) name pl) Q E s:=by
 obtain⟨b,J,e⟩:=I.look;exact PySem.W.method_fn X J (PySem.W.plainGet_of a).1 (PySem.W.plainGet_of a).2 d (beq_iff_eq.mp c) (by show(PySem.W.lookIn name b).map (·.isSome)=some false;rw[e,g];rfl) h
theorem Kz {ns:WF}{Q:Unit->Wx->Prop} (X:K.In s.heap) (I:AM s.heap x dx C mA)
  (k:Ym K (.ref C) "__setattr__" = some (some (.builtin "object.__setattr__"))) (n:PySem.W.plainOver K C=true) (j:PySem.W.takerIn K C name=some none) (o:PySem.W.hasDictIn K C=true)
  (l:PySem.Within mA ns) (hsz:ns.length<=Zg)
  (h:∀h',AM h' x dx C (λy=>if y=name then some v else mA y)->Yw dx s.heap h'->Q () { s with heap:=h',toks:=s.toks+2 }) :
  Zh (model prog w) A (setAttr (.ref x) name v) Q E s:=by
 obtain⟨_,J,_⟩:=I.look;refine PySem.W.set_plain X J k (PySem.W.osa_open (s:={ s with toks:=s.toks+1 }) (r:=none) X J n j λb=>?_);obtain⟨_,p,f⟩:=PySem.W.any_some o;have m:s.heap.get? x=some ⟨.ref C,some dx,.plain,#[]⟩:=I.obj;refine Ww (Wv (Ww (Ww (wpAny_loadPart m (Ww (PySem.W.Looks.here (s:={ s with toks:=s.toks+1 }) (PySem.W.looks_clsIn X p) ?_))))));rw[f];refine Wv (a:=some dx) (Ww (Wv (Ww ?_)));refine wpAny_nsSet1 (s:={ s with toks:=s.toks+1 }) I.ns λh' d c=>?_;obtain⟨oD,_,_,e,i,g⟩:=d.count (PySem.Within.cons name v l);refine Ww (wpAny_lookBehind e (by rw[i];exact pastItsLine_dict (TN g (by rw[TR];lia))) ?_);exact Wv (h _ ⟨(c.2 _ (YQ I.ne)).trans I.obj,d,I.ne⟩ c)
theorem G2 {R:Result->Wx->Prop}{vs:WJ}{b:List (Str×Wy)} (X:K.In s.heap) (e:PySem.W.makesIn K C=true)
  (hi:Ym K (.ref C) "__init__" = some (some (.ref f))) (c:PySem.W.typeIn K (.ref f)=some (.type "function"))
  (h:codeAny (model prog w) (A.under (.builtin "type.__call__" ⟨.ref C::vs,b⟩)) (.call (.ref f) ⟨.ref (s.heap.objs.size+1)::vs,b⟩) (PySem.W.InitBack (s.heap.objs.size+1) R)
   { s with heap:=(s.heap.push Yy).push (YK C s.heap.objs.size) }) :
  codeAny (model prog w) A (.call (.ref C) ⟨vs,b⟩) R s:=by
 obtain⟨_,g,d,t,_⟩:=s;exact PySem.W.make_core (PySem.W.makes_of X e) (PySem.W.looks_findIn X hi) (λa=>PySem.W.bind_fn X a c) (.inl rfl) h
end
def m7 (f:Str) (v:V):List (Str×V)->List (Str×V)
 | []=>[(f,v)]
 | (g,x)::r=>if g=f then(g,v)::r else(g,x)::m7 f v r
theorem rm (f g:Str) (v:V):∀fs:List (Str×V),(m7 f v fs).lookup g=if g=f then some v else fs.lookup g
 | []=>by
  show YR g [(f,v)]=_;by_cases h:g=f
  ·have a:(g == f)=true:=beq_iff_eq.mpr h;simp only[YR,a,Zn h]
  ·have a:(g == f)=false:=beq_eq_false_iff_ne.mpr h;simp only[YR,a,Zo h]
 | (k,x)::r=>by
  have c:=rm f g v r;rw[show m7 f v ((k,x)::r)=(if k=f then(k,v)::r else(k,x)::m7 f v r)from rfl];by_cases b:k=f
  ·rw[Zn b];by_cases h:g=k
   ·have a:(g == k)=true:=beq_iff_eq.mpr h;simp only[YR,a,Zn (h.trans b)]
   ·have a:(g == k)=false:=beq_eq_false_iff_ne.mpr h;simp only[YR,a,Zo (λe:g=f=>h (e.trans b.symm))]
  ·rw[Zo b];by_cases h:g=k
   ·have a:(g == k)=true:=beq_iff_eq.mpr h;simp only[YR,a,Zo (λe:g=f=>b (h.symm.trans e))]
   ·have a:(g == k)=false:=beq_eq_false_iff_ne.mpr h;simp only[YR,a];exact c
theorem qm (f:Str) (v:V):∀fs:List (Str×V),f∈(m7 f v fs).map (·.1)/\∀g,g∈fs.map (·.1)->g∈(m7 f v fs).map (·.1)
 | []=>⟨by simp[m7],λg h=>by simp at h⟩
 | (k,x)::r=>by
  obtain⟨b,c⟩:=qm f v r;rw[show m7 f v ((k,x)::r)=(if k=f then(k,v)::r else(k,x)::m7 f v r)from rfl];by_cases a:k=f
  ·rw[Zn a];subst a;exact⟨by simp,λg h=>by simpa using h⟩
  ·rw[Zo a];refine⟨?_,λg h=>?_⟩
   ·rw[TX];exact TC _ b
   ·rw[TX]at h ⊢;rcases TM.mp h with e | e
    ·exact TM.mpr (.inl e)
    ·exact TC _ (c g e)
theorem qX (f:Str) (v:V):∀fs:List (Str×V),(m7 f v fs).length<=fs.length+1
 | []=>by simp[m7]
 | (k,x)::r=>by
  have b:=qX f v r;rw[show m7 f v ((k,x)::r)=(if k=f then(k,v)::r else(k,x)::m7 f v r)from rfl];by_cases a:k=f
  ·rw[Zn a,TR,TR];lia
  ·rw[Zo a,TR,TR];lia
theorem kB.some_of {v:V}{o:Option Wy} (r:kB (some v) o):∃u,o=some u/\RelV v u:=by
 cases o with
 | none=>exact(show False from r).elim
 | some u=>exact⟨u,rfl,r⟩
theorem kB.none_of {o:Option Wy} (r:kB none o):o=none:=by
 cases o with
 | none=>rfl
 | some u=>exact(show False from r).elim
theorem EH {v:V}{u:Wy} (r:RelV v u):PySem.W.handedIn u=true:=by
 cases v with
 | non=>cases(show u=Value.none from r);rfl
 | bl b=>cases(show u=Value.bool b from r);rfl
 | int i=>obtain⟨t,e⟩:=(show∃t,u=Value.int i t from r);cases e;rfl
 | str x=>obtain⟨t,e⟩:=(show∃t,u=Value.str x t from r);cases e;rfl
 | byt b=>obtain⟨t,e⟩:=(show∃t,u=Value.bytes b t from r);cases e;rfl
 | flt b=>obtain⟨t,e⟩:=(show∃t,u=Value.float b t from r);cases e;rfl
 | ref a=>cases(show u=Value.ref a from r);rfl
 | ty n=>cases(show u=Value.type n from r);rfl
section
variable {P:Zd}{w:Ze}{H H':Hp}{h h':Heap}{a C dx:Za}{fs fs':List (Str×V)}
theorem pB (b:HOk P w H h) (e:H a=some (.ins C dx fs)):∃mA,AM h a dx C mA/\(∀f,kB (fs.lookup f) (mA f))/\PySem.Within mA (fs.map (·.1))/\fs.length<=1000/\H dx=some (.own a):=by
 obtain⟨d,z,c,g,mA,n,r,q⟩:=(show bO P w H h a (.ins C dx fs)from b a _ e);exact⟨mA,⟨g,n,c⟩,r,q,z,d⟩
end
structure Cls (K:Wz) (C:Za):Prop where
 pg:PySem.W.plainGet K C Yh=true
 hd:PySem.W.hasDictIn K C=true
 po:PySem.W.plainOver K C=true
 sa:Ym K (.ref C) "__setattr__" = some (some (.builtin "object.__setattr__"))
theorem Cls.get {K:Wz}{C:Za} (c:Cls K C) (f:Str):PySem.W.plainGet K C f=true:=c.pg
def bT (K:Wz) (C:Za) (f:Str):Prop:=Ym K (.ref C) f=some none
theorem bT.Ol {K:Wz}{C:Za}{f:Str} (n:bT K C f):PySem.W.takerIn K C f=some none:=by
 unfold PySem.W.takerIn;rw[show Ym K (.ref C) f=some none from n];rfl
structure Con (K:Wz) (C:Za) (f:Str) (v:V) (u:Wy):Prop where
 at_:Ym K (.ref C) f=some (some u)
 rel:RelV v u
 get:PySem.W.specialIn K u "__get__" = some none
 cp:PySem.W.copiedNames.contains f=false
structure mV (K:Wz) (C:Za) (m:Str) (f:Za):Prop where
 at_:Ym K (.ref C) m=some (some (.ref f))
 fn:PySem.W.isFn K (.ref f)=true
 kp:YG K (.ref f)=true
section
variable {X:Cx}{pins:List (Za×Obj)}{σ:St}{H:Hp}{s:Wx}{a C dx:Za}{fs:List (Str×V)}{f:Str}{v:V}{A:Zc}{E:Wy->Wx->Prop}
theorem AJ {b:Bool}{Q:Wy->Wx->Prop} (I:Inv X pins σ H s) (e:H a=some (.ins C dx fs)) (c:Cls X.K C) (n:bT X.K C f) (l:fs.lookup f=some v)
  (h:∀u s',Inv X pins σ H s'->RelV v u->Q u s'):Zh (model X.prog X.w) A (getAttr (.ref a) f b) Q E s:=by
 obtain⟨i,O,r,_,_,_⟩:=pB I.hok e;obtain⟨u,g,d⟩:=kB.some_of (v:=v) (o:=i f) (by rw[<-l];exact r f);exact get_map I.kIn O (c.get f) c.hd n g (EH d) (h u _ (I.tok _) d)
theorem sE {m:Str}{g:Za}{pl:Sem Bool}{Q:Wy×WJ->Wx->Prop} (I:Inv X pins σ H s) (e:H a=some (.ins C dx fs)) (c:Cls X.K C) (k:mV X.K C m g) (l:fs.lookup m=none)
  (h:Q (.ref g,[.ref a]) s):Zh (model X.prog X.w) A (getMethod (.ref a) m pl) Q E s:=by
 obtain⟨d,O,r,_,_,_⟩:=pB I.hok e;have b:d m=none:=kB.none_of (by rw[<-l];exact r m);exact FJ I.kIn O (c.get m) k.at_ k.fn b h
theorem Bj {y:V}{u:Wy}{Q:Unit->Wx->Prop} (I:Inv X pins σ H s) (e:H a=some (.ins C dx fs)) (c:Cls X.K C) (n:bT X.K C f) (F:fs.length<1000) (D:RelV y u)
  (h:∀s',Inv X pins σ (upd H a (.ins C dx (m7 f y fs))) s'->Q () s'):Zh (model X.prog X.w) A (setAttr (.ref a) f u) Q E s:=by
 obtain⟨j,O,r,k,_,i⟩:=pB I.hok e;have p:(fs.map (·.1)).length<=Zg:=by rw[Tt,sizeLine_eq];lia
 refine Kz I.kIn O c.sa c.po n.Ol c.hd k p λm d t=>h _ ?_;have B:∃o,m.get? dx=some o:=let ⟨o,_,_,e',_⟩:=d.ns;⟨o,e'⟩;refine I.write (x:=a) (e:=dx) (by rw[e];exact True.intro) (.inr i) (λb q v z=>(t.2 b v).trans z) B ?_;refine⟨by rw[ao O.ne];exact i,?_,O.ne,d.obj,_,d.ns,λg=>?_,λg l=>?_⟩
 ·have:=qX f y fs;lia
 ·show kB ((m7 f y fs).lookup g) (if g=f then some u else j g);rw[rm];by_cases q:g=f
  ·rw[Zn q,Zn q];exact D
  ·rw[Zo q,Zo q];exact r g
 ·by_cases q:g=f
  ·rw[q];exact(qm f y fs).1
  ·refine(qm f y fs).2 g (k g λz=>l ?_);show(if g=f then some u else j g)=none;rw[Zo q];exact z
theorem Inv.made (I:Inv X pins σ H s):Inv X pins σ (upd (upd H s.heap.objs.size (.own (s.heap.objs.size+1))) (s.heap.objs.size+1) (.ins C s.heap.objs.size []))
  { s with heap:=(s.heap.push Yy).push (YK C s.heap.objs.size) }:=by
 have d:(s.heap.push Yy).get? s.heap.objs.size=some Yy:=Y1 s.heap rfl;have h:((s.heap.push Yy).push (YK C s.heap.objs.size)).get? (s.heap.objs.size+1)=some (YK C s.heap.objs.size):=by
  have:=Y1 (s.heap.push Yy) (o:=YK C s.heap.objs.size) rfl
  rwa [YZ]at this
 have g:(s.heap.push Yy).Ns s.heap.objs.size (λ_=>none):=⟨Yy,#[],_,d,rfl,(λe i=>absurd i (by simp)),λ_=>rfl⟩;have f:=I.laid (a:=s.heap.objs.size) (o:=.own (s.heap.objs.size+1)) (h':=s.heap.push Yy) (t':=s.toks) (λb u q=>Wu _ q) (Tw _) ⟨_,d⟩;refine f.laid (a:=s.heap.objs.size+1) (o:=.ins C s.heap.objs.size []) (t':=s.toks) (λb u q=>Wu _ q) (VX (YZ _ _)) ?_;have c:s.heap.objs.size≠s.heap.objs.size+1:=T5 (Vo _);refine⟨by rw[ao c,ab],T2 _,c,h,λ_=>none,(Heap.Ns1.of_empty g).at λo q=>Wu _ q,λ_=>True.intro,λy j=>absurd rfl j⟩
theorem IW {prog:Zd}{w:Ze}{env:Env}{e:Expr}{f:Str}{pos:Pos}{s:Wx}{Q:Wy->Wx->Prop} (a:attributeBase e f env (eval e env)=eval e env)
  (h:Zh (model prog w) A (eval e env) (λo s₁=>Zh (model prog w) A (getAttr o f true) Q E s₁) E s):Zh (model prog w) A (eval (.Attribute e f pos) env) Q E s:=
 Attribute_any_ h (by rw[arm_eval_Attribute,a])
end
section
variable {X:Cx}{o e value:Expr}{f:Str}{pos pos' MP:Pos}{ta tv:TE}
end
section
variable {X:Cx}{pins:List (Za×Obj)}{σ:St}{H:Hp}{s:Wx}{A:Zc}{E:Wy->Wx->Prop}{Q:Wy->Wx->Prop}{c:Wy}{b:Bool}
inductive qy (K:Wz) (H:Hp):V->Wy->Prop where
 | non:qy K H .non (.type "NoneType")
 | bl (x:Bool):qy K H (.bl x) (.type "bool")
 | int (i:Int):qy K H (.int i) (.type "int")
 | str (x:Str):qy K H (.str x) (.type "str")
 | flt (x:UInt64):qy K H (.flt x) (.type "float")
 | lst {a:Za}{xs:WD} (e:H a=some (.lst xs)):qy K H (.ref a) (.type "list")
 | frz {a:Za}{o:Obj}{xs:WD} (e:H a=some (.frz o (.lst xs))):qy K H (.ref a) (.type "list")
 | tup {a:Za}{xs:WD} (e:H a=some (.tup xs)):qy K H (.ref a) (.type "tuple")
 | dK {a:Za}{kvs:List (Key×V)} (e:H a=some (.dK kvs)):qy K H (.ref a) (.type "dict")
 | dT {a:Za}{kvs:List (List Key×V)} (e:H a=some (.dT kvs)):qy K H (.ref a) (.type "dict")
 | ins {a C dx:Za}{fs:List (Str×V)} (e:H a=some (.ins C dx fs)) (cl:Cls K C) (ha:Ym K (.ref C) "__class__" = some (some (.builtin "object.__class__")))
   (hn:PySem.W.specialIn K (.builtin "object.__class__") "__get__" = some (some (.builtin "getset_descriptor.__get__"))) (htk:PySem.W.takesIn K (.builtin "object.__class__")=some true)
   (hm:PySem.W.mroIn K C (.type "object")=some true):qy K H (.ref a) (.ref C)
theorem EN {x:V}{u t:Wy} (I:Inv X pins σ H s) (d:RelV x u) (ty:qy X.K H x t) (e:PySem.W.kitOne X.K t c=some b) (h:∀tk,Q (.bool b) { s with toks:=tk }) :
  Zh (model X.prog X.w) A (call (.builtin "isinstance") [u,c]) Q E s:=by
 cases ty with
 | non=>cases(show u=Value.none from d);exact Yv PySem.W.kitx_none I.kIn True.intro e (λz=>nomatch z) h
 | bl y=>cases(show u=Value.bool y from d);exact Yv PySem.W.kitx_bool I.kIn True.intro e (λz=>nomatch z) h
 | int i=>obtain⟨t,q⟩:=(show∃t,u=Value.int i t from d);cases q;exact Yv PySem.W.kitx_int I.kIn True.intro e (λz=>nomatch z) h
 | str y=>obtain⟨t,q⟩:=(show∃t,u=Value.str y t from d);cases q;exact Yv PySem.W.kitx_str I.kIn True.intro e (λz=>nomatch z) h
 | flt y=>obtain⟨t,q⟩:=(show∃t,u=Value.float y t from d);cases q;exact Yv PySem.W.kitx_float I.kIn True.intro e (λz=>nomatch z) h
 | @lst a g ea=>
  cases(show u=Value.ref a from d);obtain⟨_,_,n,_,f⟩:=(show bO X.prog X.w H s.heap a (.lst g)from I.hok a _ ea);exact Yv PySem.W.kitx_list I.kIn ⟨_,f,rfl⟩ e (λz=>nomatch z) h
 | @frz a ob g ea=>
  cases(show u=Value.ref a from d);obtain⟨_,_,_,n,_,f⟩:=(show bO X.prog X.w H s.heap a (.frz ob (.lst g))from I.hok a _ ea);exact Yv PySem.W.kitx_list I.kIn ⟨_,f,rfl⟩ e (λz=>nomatch z) h
 | @tup a g ea=>
  cases(show u=Value.ref a from d);obtain⟨_,_,_,p⟩:=(show bO X.prog X.w H s.heap a (.tup g)from I.hok a _ ea);obtain⟨o,f,j,_⟩:=p;exact Yv PySem.W.kitx_tuple I.kIn ⟨o,f,j⟩ e (λz=>nomatch z) h
 | @dK a kvs ea=>
  cases(show u=Value.ref a from d);obtain⟨_,_,_,_,p⟩:=(show bO X.prog X.w H s.heap a (.dK kvs)from I.hok a _ ea);obtain⟨o,k,l,f,j,_⟩:=p;exact Yv PySem.W.kitx_dict I.kIn ⟨o,f,j.1⟩ e (λz=>nomatch z) h
 | @dT a kvs ea=>
  cases(show u=Value.ref a from d);obtain⟨_,_,g,_,o,k,l,f,j,_⟩:=(show bO X.prog X.w H s.heap a (.dT kvs)from I.hok a _ ea);exact Yv PySem.W.kitx_dict I.kIn ⟨o,f,j.1⟩ e (λz=>nomatch z) h
 | @ins a C dx fs ea cl ha hn htk hm=>
  cases(show u=Value.ref a from d);obtain⟨_,O,_⟩:=pB I.hok ea;obtain⟨_,J,_⟩:=O.look;exact Yv (PySem.W.kitx_own (cl.get _) cl.hd ha hn htk hm) I.kIn J e (λz=>nomatch z) h
end
structure bG (k:Nat) (A:Zc):Prop where
 hd:A.handled=none
 dp:A.depth+3 * k+5<recursionLimit
 un:A.units+16 * k+200<cLine
 gd:A.guards=some []
theorem bG.mono {j k:Nat}{A:Zc} (r:bG k A) (h:j<=k):bG j A:=⟨r.hd,by have:=r.dp;lia,by have:=r.un;lia,r.gd⟩
theorem bG.deeper {k:Nat}{A:Zc} (r:bG (k+1) A) (env:Env):bG k (A.deeper env):=
 ⟨r.hd,by have:=r.dp;show A.depth+1+3 * k+5<_;lia,by have:=r.un;show A.units+3+16 * k+200<_;lia,r.gd⟩
theorem bG.in1 {k:Nat}{A:Zc} (r:bG (k+1) A):bG k A.in1:=
 ⟨r.hd,by have:=r.dp;show A.depth+3 * k+5<_;lia,by have:=r.un;show A.units+1+16 * k+200<_;lia,r.gd⟩
theorem Bo {A:Zc}{C:Za}{us:WJ}{a:List (Str×Wy)}:(A.under (.builtin "type.__call__" ⟨.ref C::us,a⟩)).depth=A.depth+1:=by
 first | rfl | simp[Around.under,Code.weight,Code.isCreation,Code.isGuard,Code.isCaller,Code.frames,Code.isFrame,guardIds]
theorem Bk {A:Zc}{C:Za}{us:WJ}{a:List (Str×Wy)}:(A.under (.builtin "type.__call__" ⟨.ref C::us,a⟩)).units=A.units+1:=by
 first | rfl | simp[Around.under,Code.cUnits,Code.frames,Code.isFrame]
theorem zG {A:Zc}{C:Za}{us:WJ}{a:List (Str×Wy)}:(A.under (.builtin "type.__call__" ⟨.ref C::us,a⟩)).guards=A.guards:=by
 have h:(Code.builtin "type.__call__" ⟨.ref C::us,a⟩).guards=[]:=by rfl
 simp only[Around.under,h];cases A.guards <;> rfl
theorem bG.make {k:Nat}{A:Zc} (r:bG (k+1) A) (C:Za) (us:WJ) (a:List (Str×Wy)):bG k (A.under (.builtin "type.__call__" ⟨.ref C::us,a⟩)):=
 ⟨r.hd,by have:=r.dp;rw[Bo];lia,by have:=r.un;rw[Bk];lia,by rw[zG];exact r.gd⟩
theorem bG.depth {k:Nat}{A:Zc} (r:bG k A):A.depth<recursionLimit:=by have:=r.dp;lia
def NB:TA:=λ_ H Q=>Q [] H
def Pu (ta:TE) (tr:TA):TA:=λσ H Q=>ta σ H λx H1=>tr σ H1 λxs H2=>Q (x::xs) H2
section
variable {X:Cx}{e:Expr}{es:List Expr}{te:TE}{t:TA}{pos:Pos}
theorem af:PA X [] NB:=λ_ _ _ _ H Q I h=>YS ⟨[],H,I,.nil,h⟩
theorem aa (n:PE X e te) (l:PA X es t) (f:Zi (e::es) X.env=(false,eval e X.env)::Zi es X.env:=by rfl):PA X (e::es) (Pu te t):=by
 intro b a s c H Q I h;rw[f];show Zh _ _ (spliced ((false,eval e X.env)::backTo b (Zi es X.env))) _ _ s;refine YE (thn (n a s c H _ I h) λu r ⟨x,o,p,j,g⟩=>?_);exact thn (l b a r c o _ p g) λ_ _ ⟨k,d,m,i,q⟩=>⟨x::k,d,m,.cons j i,q⟩
def Qt (t:TA):TE:=λσ H Q=>t σ H λxs H1=>xs.length<=Zg/\∀p,H1 p=none->Q (.ref p) (upd H1 p (.tup xs))
def Q7 (t:TA):TE:=λσ H Q=>t σ H λxs H1=>xs.length<=Zg/\∀p,H1 p=none->Q (.ref p) (upd H1 p (.lst xs))
theorem dG {x1} (h:PA X es t):PE X (.Tuple es x1 pos) (Qt t):=by
 intro a s l H Q I k;refine wpAny_Tuple_spliced (thn (h pos a s l H _ I k) λg c ⟨j,d,f,r,z,q⟩=>⟨by rw[<-r.length];exact z,?_⟩);have i:d c.heap.objs.size=none:=f.hok.fresh (Tw _);refine⟨.ref c.heap.objs.size,upd d c.heap.objs.size (.tup j),f.laid (t':=c.toks) (λb u e=>Wu _ e) (Tw _) ?_,rfl,q _ i⟩;exact⟨z,g,r,⟨_,Y1 _ rfl,rfl,_,rfl⟩⟩
theorem bD (h:PA X es t):PE X (.List es pos) (Q7 t):=by
 intro a s l H Q I k;refine wpAny_List_spliced (thn (h pos a s l H _ I k) λg c ⟨j,d,f,r,z,q⟩=>⟨by rw[<-r.length];exact z,?_⟩);have i:d c.heap.objs.size=none:=f.hok.fresh (Tw _);refine⟨.ref c.heap.objs.size,upd d c.heap.objs.size (.lst j),f.laid (t':=c.toks) (λb u e=>Wu _ e) (Tw _) ?_,rfl,q _ i⟩;exact⟨z,g,0,r,Y1 _ rfl⟩
end
abbrev Sp:=WD->Hp->VK->XK->Prop
abbrev CXT:=List Env->Hp->Wx->XK->Wy->Wx->Prop
structure uI (P:Zd) (w:Ze) (K:Wz) (mg:Str->Option Wy) (base:Heap) (A:Zc) (outer:List Env) (s:Wx) (H:Hp):Prop where
 frames:A.frames=some outer
 mod:Mod K mg base
 bs:∀b o,base.get? b=some o->s.heap.get? b=some o/\H b=none
 bsz:base.objs.size<=s.heap.objs.size
 pe:s.heap.FunFrames base outer
 frf:∀b∈frs outer,H b=none
 hok:HOk P w H s.heap
 bare:AllBare s.gens
def CE (outer:List Env) (P:Zd) (w:Ze) (H:Hp) (s:Wx) (Q:VK) (u:Wy) (s':Wx):Prop:=
 ∃v H',s'.os=s.os/\AllBare s'.gens/\Un (frs outer) [] H H' s.heap s'.heap/\HOk P w H' s'.heap/\RelV v u/\Q v H'
def CR (CX:CXT) (outer:List Env) (P:Zd) (w:Ze) (H:Hp) (s:Wx) (Q:VK) (E:XK) (r:Result) (s':Wx):Prop:=
 match r with
 | .ok (.ret u)=>CE outer P w H s Q u s'
 | .ok _=>False
 | .error e=>CX outer H s E e s'
structure ay (P:Zd) (w:Ze) (K:Wz) (mg:Str->Option Wy) (base:Heap) (CX:CXT) (k:Nat) (f:Za) (fd:Zb) (ps:WF) (sp:Sp):Prop where
 len:∀vs H Q E,sp vs H Q E->vs.length=ps.length
 run:∀(A:Zc) (outer:List Env) (s:Wx) (H:Hp) (args:Args) (us:WJ) (vs:WD) (Q:VK) (E:XK),bG k A->uI P w K mg base A outer s H->BindsTo s fd args (ps.zip us)->aO vs us->sp vs H Q E ->
  codeAny (model P w) A (.call (.ref f) args) (CR CX outer P w H s Q E) s
theorem ay.mono {P:Zd}{w:Ze}{K:Wz}{mg:Str->Option Wy}{base:Heap}{CX:CXT}{j k:Nat}{f:Za}{fd:Zb}{ps:WF}{sp:Sp} (F:ay P w K mg base CX j f fd ps sp) (h:j<=k) :
  ay P w K mg base CX k f fd ps sp:=⟨F.len,λA a s H b c e Q E d=>F.run A a s H b c e Q E (d.mono h)⟩
theorem OF {P:Zd}{w:Ze}{K:Wz}{mg:Str->Option Wy}{base:Heap}{CX:CXT}{j k:Nat}{f:Za}{fd:Zb}{ps:WF}{sp:Sp} (F:ay P w K mg base CX j f fd ps sp) (h:j<=k:=by decide):ay P w K mg base CX k f fd ps sp:=F.mono h
theorem uI.make {P:Zd}{w:Ze}{K:Wz}{mg:Str->Option Wy}{base:Heap}{A:Zc}{outer:List Env}{s:Wx}{H:Hp} (e:uI P w K mg base A outer s H) (C:Za) (us:WJ) (a:List (Str×Wy)) :
  uI P w K mg base (A.under (.builtin "type.__call__" ⟨.ref C::us,a⟩)) outer s H:=⟨by first | exact e.frames | (simpa[Around.under,Code.envs,Code.isFrame,pushEnvs]using e.frames),e.mod,e.bs,e.bsz,e.pe,e.frf,e.hok,e.bare⟩
theorem uI.in1 {P:Zd}{w:Ze}{K:Wz}{mg:Str->Option Wy}{base:Heap}{A:Zc}{outer:List Env}{s:Wx}{H:Hp} (e:uI P w K mg base A outer s H) :
  uI P w K mg base A.in1 outer s H:=⟨e.frames,e.mod,e.bs,e.bsz,e.pe,e.frf,e.hok,e.bare⟩
section
variable {X:Cx}{pins:List (Za×Obj)}{σ:St}{H:Hp}{s s':Wx}
theorem Inv.ER (I:Inv X pins σ H s):uI X.prog X.w X.K X.mg X.base X.A X.stack s H:=
 ⟨I.ok.frames,I.ok.mod,I.bs,TN I.ok.bsz I.sz,I.stack,I.Ck,I.hok,I.bare⟩
theorem Inv.after {Q:VK}{u:Wy} (I:Inv X pins σ H s) (h:CE X.stack X.prog X.w H s Q u s'):EP X pins σ Q u s':=by
 obtain⟨v,f,k,a,j,e,r,q⟩:=h;obtain⟨i,g,d,t,c⟩:=s';obtain rfl:c = s.os:=k;exact⟨v,f,I.call (h':=i) (g':=g) (d':=d) (t':=t) (ch:=[]) j e a (λb z=>absurd z (by simp)),r,q⟩
end
def Ph (sp:Sp) (dvs:WD) (E:XK) (t:TA):TE:=λσ H Q=>t σ H λvs H1=>sp (vs++dvs) H1 Q E
def KR (C:Za) (m:Str) (sp:Sp) (dvs:WD) (E:XK) (ta:TE) (t:TA):TE:=λσ H Q=>ta σ H λx H1=>∃a dx fs,x = .ref a/\H1 a=some (.ins C dx fs)/\fs.lookup m=none /\
 t σ H1 λvs H2=>sp (x::(vs++dvs)) H2 Q E
def O6 (C:Za) (sp:Sp) (dvs:WD) (E:XK) (t:TA):TE:=λσ H Q=>t σ H λvs H1=>∀x dx,H1 x=none->H1 dx=none->dx≠x ->
 sp (.ref x::(vs++dvs)) (upd (upd H1 dx (.own x)) x (.ins C dx [])) (λv H2=>v = .non/\Q (.ref x) H2) E
def Binds (K:Wz) (fd:Zb) (ps:WF) (ds:WJ):Prop:=
 ∀(s:Wx) (us:WJ),K.In s.heap->(us++ds).length=ps.length->BindsTo s fd ⟨us,[]⟩ (ps.zip (us++ds))
theorem Binds.all {K:Wz}{fd:Zb}{ps:WF} (h:∀us:WJ,us.length=ps.length->bindArgs fd ⟨us,[]⟩=pure (ps.zip us)):Binds K fd ps []:=λs us _ hl=>by
 rw[Uu]at hl ⊢;exact .of_eq (h us hl)
def n6 (CX:CXT) (X:Cx) (E:XK):Prop:=∀(pins:List (Za×Obj)) (σ:St) (H:Hp) (s:Wx) (e:Wy) (s':Wx),Inv X pins σ H s->CX X.stack H s E e s'->X.xe e s'
section
variable {X:Cx}{CX:CXT}{k:Nat}{f C:Za}{fd:Zb}{ps:WF}{sp:Sp}{dvs:WD}{ds:WJ}{E:XK}{x m:Str}{p pos apos:Pos}{e o:Expr}{es:List Expr}{ta:TE}{t:TA}
theorem BW {pins:List (Za×Obj)}{σ:St}{H:Hp}{s:Wx}{Q:VK}{us:WJ}{vs:WD} (F:ay X.prog X.w X.K X.mg X.base CX k f fd ps sp) (c:bG k X.A) (i:Binds X.K fd ps ds) (g:aO dvs ds) (hx:n6 CX X E)
  (I:Inv X pins σ H s) (r:aO vs us) (h:sp (vs++dvs) H Q E):Zh (model X.prog X.w) X.A (call (.ref f) us) (EP X pins σ Q) X.xe s:=by
 have b:aO (vs++dvs) (us++ds):=r.append g;have j:(us++ds).length=ps.length:=by rw[<-b.length];exact F.len _ _ _ _ h
 refine wpAny_call (codeAny_mono (F.run X.A X.stack s H ⟨us,[]⟩ (us++ds) (vs++dvs) Q E c I.ER (i s us I.kIn j) b h) λr l a=>?_);cases r with
 | error e=>exact hx pins σ H s e l I a
 | ok d=>
  cases d with
  | ret u=>exact I.after a
  | next=>exact False.elim a
  | brk=>exact False.elim a
  | cont=>exact False.elim a
theorem ar (F:ay X.prog X.w X.K X.mg X.base CX k f fd ps sp) (l:bG k X.A) (j:Gl X x) (i:X.mg x=some (.ref f)) (g:YG X.K (.ref f)=true) (m:Binds X.K fd ps ds) (u:aO dvs ds) (hx:n6 CX X E)
  (o:PA X (e::es) t) (c:(x == ("__debug__" : Str))=false:=by decide) (n:Zi (e::es) X.env=(false,eval e X.env)::Zi es X.env:=by rfl) (b:(backTo pos (Zi es X.env)).any (·.1)=false:=by rfl) :
  PE X (.Call (.Name x p) (e::es) [] pos) (Ph sp dvs E t):=by
 intro a s v H Q I h;refine wpAny_Call_Name_kw (mN I j i ?_ c);refine PySem.W.callWith_K (h₀:=X.base) I.ok.mod.kin g (thn (o pos a s v H _ I h) λ_ _ ⟨_,_,d,r,q⟩=>⟨d.kIn,?_⟩) n b;exact BW F l m u hx d r q
theorem iO {pl:Sem Bool} (J:PE X o ta) (c:Cls X.K C) (i:mV X.K C m f) (F:ay X.prog X.w X.K X.mg X.base CX k f fd ps sp) (D:bG k X.A) (G:Binds X.K fd ps ds) (O:aO dvs ds) (hx:n6 CX X E) (L:PA X (e::es) t)
  (g:Zi (e::es) X.env=(false,eval e X.env)::Zi es X.env:=by rfl) (d:(backTo pos (Zi es X.env)).any (·.1)=false:=by rfl)
  (y:eval (.Call (.Attribute o m apos) (e::es) [] pos) X.env=(do
   let ov <-eval o X.env
   standAt apos.atName
   let (f,first) <-holding [ov] (getMethod ov m pl)
   callWith pos f first (backTo pos (Zi (e::es) X.env)) (backToKw pos (keywordEach [] X.env))):=by rfl) :
  PE X (.Call (.Attribute o m apos) (e::es) [] pos) (KR C m sp dvs E ta t):=by
 intro b s p H Q I h;refine PySem.W.methodCall_KW (pl:=pl) (thn (J b s p H _ I h) λu P ⟨x,M,n,B,a,_,_,z,v,l,q⟩=>?_) y;subst z;obtain rfl:u=Value.ref a:=B;refine sE n v c i l ?_;refine PySem.W.callWith_K (first:=[.ref a]) (h₀:=X.base) I.ok.mod.kin i.kp (thn (L pos b P p M _ n q) λus _ ⟨vs,_,j,r,N⟩=>⟨j.kIn,?_⟩) g d;exact BW (us:=.ref a::us) (vs:=.ref a::vs) F D G O hx j (.cons rfl r) N
theorem dO {pl:Sem Bool} (t:PE X o ta) (c:Cls X.K C) (e:mV X.K C m f) (F:ay X.prog X.w X.K X.mg X.base CX k f fd ps sp) (p:bG k X.A) (r:Binds X.K fd ps ds) (v:aO dvs ds) (hx:n6 CX X E)
  (i:eval (.Call (.Attribute o m apos) [] [] pos) X.env=(do
   let ov <-eval o X.env
   standAt apos.atName
   let (f,first) <-holding [ov] (getMethod ov m pl)
   callWith pos f first (backTo pos (Zi [] X.env)) (backToKw pos (keywordEach [] X.env))):=by rfl) :
  PE X (.Call (.Attribute o m apos) [] [] pos) (KR C m sp dvs E ta NB):=by
 intro b s y H Q I h;refine PySem.W.methodCall_KW (pl:=pl) (thn (t b s y H _ I h) λu _ ⟨x,_,d,n,a,_,_,j,g,l,q⟩=>?_) i;subst j;obtain rfl:u=Value.ref a:=n;refine sE d g c e l ?_;exact PySem.W.callWith_K0 (first:=[.ref a]) d.kIn e.kp (BW (us:=[.ref a]) (vs:=[.ref a]) F p r v hx d (.cons rfl .nil) q)
structure Mk (K:Wz) (C f:Za):Prop where
 makes:PySem.W.makesIn K C=true
 init:Ym K (.ref C) "__init__" = some (some (.ref f))
 fn:PySem.W.isFn K (.ref f)=true
 kp:YG K (.ref C)=true
theorem F3 {pins:List (Za×Obj)}{σ:St}{H:Hp}{s:Wx}{Q:VK}{us:WJ}{vs:WD} (M:Mk X.K C f) (F:ay X.prog X.w X.K X.mg X.base CX k f fd ps sp) (m:bG (k+1) X.A) (o:Binds X.K fd ps ds) (t:aO dvs ds)
  (hx:n6 CX X E) (I:Inv X pins σ H s) (r:aO vs us)
  (h:∀x dx,H x=none->H dx=none->dx≠x->sp (.ref x::(vs++dvs)) (upd (upd H dx (.own x)) x (.ins C dx [])) (λv H2=>v = .non/\Q (.ref x) H2) E) :
  Zh (model X.prog X.w) X.A (call (.ref C) us) (EP X pins σ Q) X.xe s:=by
 have d:=h (s.heap.objs.size+1) s.heap.objs.size (I.hok.fresh (UN _)) (I.hok.fresh (Tw _)) (T5 (Vo _));have b:=Inv.made (C:=C) I;have c:aO (V.ref (s.heap.objs.size+1)::(vs++dvs)) (Value.ref (s.heap.objs.size+1)::(us++ds)):=.cons rfl (r.append t);have l:(Value.ref (s.heap.objs.size+1)::us++ds).length=ps.length:=by
  have e:=c.length;rw[F.len _ _ _ _ d]at e;exact e.symm
 refine wpAny_call (G2 (f:=f) I.kIn M.makes M.init (beq_iff_eq.mp M.fn) (codeAny_mono (F.run _ X.stack _ _ ⟨Value.ref (s.heap.objs.size+1)::us,[]⟩ (Value.ref (s.heap.objs.size+1)::(us++ds)) _ _ E (m.make C us [])
  (b.ER.make C us []) (o _ (Value.ref (s.heap.objs.size+1)::us) b.kIn l) c d) λr q a=>?_))
 cases r with
 | error e=>exact hx pins σ _ _ e q b a
 | ok g=>
  cases g with
  | ret u=>
   obtain⟨v,n,i,p,j,q3⟩:=b.after a;subst j;exact⟨p,⟨V.ref (s.heap.objs.size+1),n,i,rfl,q3⟩⟩
  | next=>exact False.elim a
  | brk=>exact False.elim a
  | cont=>exact False.elim a
theorem w6 (M:Mk X.K C f) (F:ay X.prog X.w X.K X.mg X.base CX k f fd ps sp) (j:bG (k+1) X.A) (i:Gl X x) (g:X.mg x=some (.ref C)) (l:Binds X.K fd ps ds) (o:aO dvs ds) (hx:n6 CX X E)
  (n:PA X (e::es) t) (c:(x == ("__debug__" : Str))=false:=by decide) (m:Zi (e::es) X.env=(false,eval e X.env)::Zi es X.env:=by rfl) (b:(backTo pos (Zi es X.env)).any (·.1)=false:=by rfl) :
  PE X (.Call (.Name x p) (e::es) [] pos) (O6 C sp dvs E t):=by
 intro a s u H Q I h;refine wpAny_Call_Name_kw (mN I i g ?_ c);refine PySem.W.callWith_K (h₀:=X.base) I.ok.mod.kin M.kp (thn (n pos a s u H _ I h) λ_ _ ⟨_,_,d,r,q⟩=>⟨d.kIn,?_⟩) m b;exact F3 M F j l o hx d r q
end
section
variable {X:Cx}{CX:CXT}{k:Nat}{f C:Za}{fd:Zb}{ps ks:WF}{sp:Sp}{E:XK}{x m:Str}{p pos apos S2:Pos}{e o:Expr}{es:List Expr}{kws:List Keyword}{te ta:TE}{t tk:TA}{nm:Option Str}
structure Qu (K:Wz) (fd:Zb) (ps ks:WF) (g:WJ->WJ->WJ) (gV:WD->WD->WD):Prop where
 to:∀(s:Wx) (us ws:WJ),K.In s.heap->(g us ws).length=ps.length->BindsTo s fd ⟨us,ks.zip ws⟩ (ps.zip (g us ws))
 rel:∀{vs:WD}{us:WJ}{zs:WD}{ws:WJ},aO vs us->aO zs ws->aO (gV vs zs) (g us ws)
variable {g:WJ->WJ->WJ}{gV:WD->WD->WD}
end
structure aE (N P:WF) (sc:Scope):Prop where
 kind:sc.kind = .function
 co:sc.isCoroutine=false
 gen:sc.isGenerator=false
 nd:N.Nodup
 pre:N.take P.length=P
 par:∀x∈P,sc.names.lookup x=some .local\/sc.names.lookup x=some .cell
 Mp:∀y∈sc.names,y.2 ≠ .free
theorem wG {a:Str->Option NameKind}{x:Str}:∀{binds:List (Str×Wy)}{m:Str->Option Wy},(∀v,(x,v)∉binds)->bindL a binds m x=m x
 | [],_,_=>rfl
 | (n,v)::r,m,h=>by
  unfold bindL;rw[wG λw b=>h w (TC _ b)]
  split
  ·have:x≠n:=by rintro rfl;exact h v TH
   simp[this]
  ·rfl
theorem wD {a:Str->Option NameKind}{x:Str}:∀{binds:List (Str×Wy)}{m:Str->Option Wy},(∀v,(x,v)∉binds)->bindC a binds m x=m x
 | [],_,_=>rfl
 | (n,v)::r,m,h=>by
  unfold bindC;rw[wD λw b=>h w (TC _ b)]
  split
  ·rfl
  ·have:x≠n:=by rintro rfl;exact h v TH
   simp[this]
theorem v7 {a:Str->Option NameKind}{x:Str}{v:Wy}:∀{P:WF}{vs:WJ}{i:Nat}{m:Str->Option Wy},P.Nodup->P[i]? = some x->vs[i]? = some v->a x=some .local ->
  bindL a (P.zip vs) m x=some v
 | [],_,_,_,_,h,_,_=>by simp at h
 | _::_,[],_,_,_,_,h,_=>by simp at h
 | p::P,w::vs,0,m,nd,h1,h2,hk=>by
  simp at h1 h2;subst h1;subst h2;show bindL a ((p,w)::P.zip vs) m p=_;unfold bindL;rw[wG λv b=>(UI.mp nd).1 (Vu b).1,Zn hk];simp
 | p::P,w::vs,i+1,m,nd,h1,h2,hk=>by
  show bindL a ((p,w)::P.zip vs) m x=_;unfold bindL;exact v7 (i:=i) (UI.mp nd).2 (by simpa using h1) (by simpa using h2) hk
theorem vH {a:Str->Option NameKind}{x:Str}{v:Wy}:∀{P:WF}{vs:WJ}{i:Nat}{m:Str->Option Wy},P.Nodup->P[i]? = some x->vs[i]? = some v->a x≠some .local ->
  bindC a (P.zip vs) m x=some v
 | [],_,_,_,_,h,_,_=>by simp at h
 | _::_,[],_,_,_,_,h,_=>by simp at h
 | p::P,w::vs,0,m,nd,h1,h2,hk=>by
  simp at h1 h2;subst h1;subst h2;show bindC a ((p,w)::P.zip vs) m p=_;unfold bindC;rw[wD λv b=>(UI.mp nd).1 (Vu b).1,Zo hk];simp
 | p::P,w::vs,i+1,m,nd,h1,h2,hk=>by
  show bindC a ((p,w)::P.zip vs) m x=_;unfold bindC;exact vH (i:=i) (UI.mp nd).2 (by simpa using h1) (by simpa using h2) hk
def start (N:WF) (vs:WD):St:=vs.map some++List.replicate (N.length - vs.length) none
def zM (CX:CXT) (P:Zd) (w:Ze) (K:Wz) (mg:Str->Option Wy) (base:Heap) (N:WF) (qual:Str) (scope:Scope) (f:Za) (cd:Wy) (A:Zc) (outer:List Env) (s:Wx) (H:Hp) (E:XK):Cx where
 prog:=P
 w:=w
 K:=K
 mg:=mg
 base:=base
 A:=A.deeper (envOfC qual scope s.heap.objs.size f cd)
 N:=N
 s₀:=s
 H₀:=H
 env:=envOfC qual scope s.heap.objs.size f cd
 outer:=outer
 stack:=envOfC qual scope s.heap.objs.size f cd::outer
 ex:=[]
 calm:=true
 fn:=λ_=>true
 pn:=[]
 xe:=λe s'=>Zh (model P w) (A.deeper (envOfC qual scope s.heap.objs.size f cd)) (leaving (envOfC qual scope s.heap.objs.size f cd) e) (λ_ s''=>CX outer H s E e s'') (λe' s''=>CX outer H s E e' s'') s'
theorem Ap {a:Scope}{n:Nat}{x:Str} (h:a.names.lookup x=some .cell):∃c,(cellsFrom n a.names []).lookup x=some c:=by
 have q:=PySem.W.cellsFrom_some a.names n [] (.inl h);exact Option.isSome_iff_exists.mp q
theorem EM {CX:CXT}{P:Zd}{w:Ze}{K:Wz}{mg:Str->Option Wy}{base:Heap}{N ps:WF}{qual:Str}{scope:Scope}{f:Za}{cd:Wy}{A:Zc}{outer:List Env}{s s1:Wx}{H:Hp}{E:XK}{us:WJ}{vs:WD}
  (S:aE N ps scope) (I:A.handled=none) (g:uI P w K mg base A outer s H) (J:vs.length=ps.length) (r:aO vs us)
  (x:InCallC s s.heap.objs.size (bindL (envOfC qual scope s.heap.objs.size f cd).kindOf (ps.zip us) λ_=>none) (cellsFrom (s.heap.objs.size+1) scope.names []) (bindC (envOfC qual scope s.heap.objs.size f cd).kindOf (ps.zip us) λ_=>none) s1) :
  Inv (zM CX P w K mg base N qual scope f cd A outer s H E) [] (start N vs) H s1:=by
 have D:ps.length<=N.length:=by have:=congrArg List.length S.pre;rw[TZ]at this;lia
 obtain⟨t,_,rfl,B⟩:=x.done;have j:∀b:Za,b∉(zM CX P w K mg base N qual scope f cd A outer s H E).ex:=λb z=>absurd (show b∈([]:WH)from z) (by simp);refine⟨⟨g.mod,S.kind,rfl,rfl,Tw _,λy z c t d=>?_,λy l=>?_,λy c _ h=>?_,λ_=>I,Around.frames_deeper g.frames,.inr ⟨rfl,rfl⟩,λb z=>absurd z (j b),g.bs,g.bsz,λb _ _=>j b,λb z=>absurd z (j b),g.pe,g.frf⟩,
  rfl,g.bare,Un.kept B,⟨_,x.toInCall.ns,λi y v t d _=>?_⟩,λy c h=>⟨_,x.cell y c h⟩,g.hok.fresh (Tw _),λy c h=>?_,λp m=>absurd (show p∈([]:List (Za×Obj))from m) (by simp),g.hok.kept B,?_⟩
 ·exact name_of_addr x.apart (Yq t) (Yq d)
 ·have l:scope.names.lookup y=some .cell\/scope.names.lookup y=some .free:=l;rcases l with l | l
  ·exact Ap l
  ·exact absurd rfl (S.Mp _ (Yq l))
 ·exact UH (x.above y c (Yq h))
 ·have hi:i<vs.length:=by
   unfold start at d;by_cases hi:i<vs.length
   ·exact hi
   ·rw[Uy (by simpa using hi)]at d;rw[VV]at d
    split at d <;> cases d
  have G:vs[i]? = some v:=by
   unfold start at d;rw[Ui (by simpa using hi),TF]at d;cases e:vs[i]? with
   | none=>rw[e]at d;cases d
   | some a=>rw[e]at d;cases d;rfl
  obtain⟨u,C,F⟩:=r.get G;have m:ps[i]? = some y:=by
   rw[<-S.pre,List.getElem?_take_of_lt (by lia)];exact t
  have o:ps.Nodup:=by rw[<-S.pre];exact S.nd.sublist (List.take_sublist _ _)
  refine⟨u,F,?_⟩;rcases S.par y (TB m)with k | k
  ·exact .inl ⟨k,v7 o m C k⟩
  ·obtain⟨c,e⟩:=Ap (n:=s.heap.objs.size+1) k;refine .inr ⟨.inl k,c,e,?_⟩;have q:=x.cell y c e;rw[vH o m C (by show scope.names.lookup y≠_;rw[k];decide)]at q;exact q
 ·exact g.hok.fresh (UH (x.above y c (Yq h)))
 ·unfold start;show _=N.length;rw[TJ,Tt,List.length_replicate];lia
theorem He {CX:CXT}{P:Zd}{w:Ze}{K:Wz}{mg:Str->Option Wy}{base:Heap}{k:Nat}{f:Za}{name qual:Str}{c:Arguments}{d:List Stmt}{scope:Scope}{L kV m F a G R:Wy}{O od:Option Za}
  {B:Array (Option Wy)}{N ps:WF}{sp:Sp} (lk:K.lookup f=some ⟨R,od,.func (YC name qual c d scope L kV m F O a G),B⟩) (z:YN K a qual=true) (S:aE N ps scope)
  (j:∀vs H Q E,sp vs H Q E->vs.length=ps.length)
  (jB:∀(A:Zc) (outer:List Env) (s:Wx) (H:Hp) (vs:WD) (Q:VK) (E:XK),bG k (A.deeper (envOfC qual scope s.heap.objs.size f a))->sp vs H Q E ->
   ∃t,PSs (zM CX P w K mg base N qual scope f a A outer s H E) d t/\t { nx:=λ_ H'=>Q .non H',rt:=Q } (start N vs) H) :
  ay P w K mg base CX (k+1) f (YC name qual c d scope L kV m F O a G) ps sp:=by
 refine⟨j,λA outer s H _ X vs Q E C i hb r p=>?_⟩;have hl:=j _ _ _ _ p;have M:K.In s.heap:=i.mod.kin.keeps λb o e=>(i.bs b o e).1;have lim:s.heap.NoLimit:=i.mod.nolimit.keeps λb o e=>(i.bs b o e).1;have Y:∀y∈ps.zip X,scope.names.lookup y.1=some .local\/(scope.names.lookup y.1=some .cell/\((cellsFrom (s.heap.objs.size+1) scope.names []).lookup y.1).isSome=true):=λ⟨n,v⟩ Z=>by
  rcases S.par n (Vu Z).1 with q | q
  ·exact .inl q
  ·exact .inr ⟨q,PySem.W.cellsFrom_some _ _ _ (.inl q)⟩
 refine codeAny_call_function C.depth (M _ _ lk) rfl S.co S.gen rfl (PySem.W.codeRec_of M z) (hb _ _ _ _ ?_);refine wpAny_newFunctionEnv_cells S.kind Y λ_ he s1 x=>?_;subst he;refine⟨lim.keeps x.toInCall.keep,codeAny_func ?_⟩;obtain⟨t,T,hq⟩:=jB A outer s H vs Q E (C.deeper _) p;have I:Inv (zM CX P w K mg base N qual scope f a A outer s H E) [] (start N vs) H s1:=EM S C.hd i hl r x;refine Wt (T [] s1 (start N vs) H _ I hq) (λU s' h=>?_) λe s' h=>h;have l:∀{g:St}{H':Hp}{v:V}{u:Wy},Inv (zM CX P w K mg base N qual scope f a A outer s H E) [] g H' s'->RelV v u->Q v H'->CE outer P w H s Q u s':=
  λ{g H' v u} J D q=>⟨v,H',J.os,J.bare,J.base,J.hok,D,q⟩
 cases U with
 | ret u=>
  obtain⟨v,g,H',J,D,q⟩:=h;exact l J D q
 | next=>
  obtain⟨g,H',J,q⟩:=h;exact l (v:=V.non) (u:=Value.none) J rfl q
 | brk=>
  obtain⟨_,_,_,q⟩:=h;exact False.elim q
 | cont=>
  obtain⟨_,_,_,q⟩:=h;exact False.elim q
section
variable {X:Cx}{x:Str}{p pos:Pos}{e:Expr}{es:List Expr}{t:TA}{id T:String}{r:WD->Hp->VK->Prop}
def tCB (r:WD->Hp->VK->Prop) (t:TA):TE:=λσ H Q=>t σ H λvs H1=>r vs H1 Q
theorem aK (w:ia X (.builtin id) r) (j:Gl X x) (f:X.mg x=none) (y:bootBuiltins x=some (.builtin id)) (n:PA X (e::es) t) (u:x ≠ "__name__" :=by decide) (c:(x == ("__debug__" : Str))=false:=by decide)
  (l:Zi (e::es) X.env=(false,eval e X.env)::Zi es X.env:=by rfl) (b:(backTo pos (Zi es X.env)).any (·.1)=false:=by rfl):PE X (.Call (.Name x p) (e::es) [] pos) (tCB r t):=by
 intro a s d H Q I h;refine wpAny_Call_Name_kw (fm I j f y ?_ u c);exact PyProof.Rows.callWith_builtin1 (thn (n pos a s d H _ I h) λi v ⟨m,o,q,k,g⟩=>w a v d o m i Q q k g) l b
theorem cH (w:ia X (.type T) r) (j:Gl X x) (f:X.mg x=none) (y:bootBuiltins x=some (.type T)) (n:PA X (e::es) t) (u:x ≠ "__name__" :=by decide) (c:(x == ("__debug__" : Str))=false:=by decide)
  (l:Zi (e::es) X.env=(false,eval e X.env)::Zi es X.env:=by rfl) (b:(backTo pos (Zi es X.env)).any (·.1)=false:=by rfl):PE X (.Call (.Name x p) (e::es) [] pos) (tCB r t):=by
 intro a s d H Q I h;refine wpAny_Call_Name_kw (fm I j f y ?_ u c);exact Yp (thn (n pos a s d H _ I h) λi v ⟨m,o,q,k,g⟩=>w a v d o m i Q q k g) l b
end
end L2
namespace HT
open PySem PyProof.Rows
theorem Fe (A:Zc) (s:Wx) (a:Int) (t:Tok) (c:Int) (u:Tok) (prog:Zd) (w:Ze) (E:Wy->Wx->Prop) (Q:Wy->Wx->Prop) (h:Q (.bool (decide (a<c))) s) :
  Zh (model prog w) A (richCompare .Lt (.int a t) (.int c u)) Q E s:=
 (PyProof.Rows.lt_int h:Zh (model prog w) A (compareOp .Lt (.int a t) (.int c u)) Q E s)
section
open PySem.SeqAt
open PySem.AutoSeq1 (wpAny_loadPart')
open PySem.MeetsSeq PySem.MeetsSeq2 PySem.MeetsSeq3
end
section
variable {prog:Zd}{w:Ze}{A:Zc}{E:Wy->Wx->Prop}{s:Wx}
def sIx (n d:Nat):Option Int->Nat
 | none=>d
 | some v=>if v<0 then(v+(n:Int)).toNat else min v.toNat n
theorem xP (n d k:Nat):sIx n d (some (k:Int))=min k n:=by
 show(if (k:Int)<0 then((k:Int)+(n:Int)).toNat else min (k:Int).toNat n)=min k n;rw[Zo (by lia),Us]
end
end HT
namespace L2
open PySem PySem.Spec PyProof.Rows
abbrev TO:=St->Hp->(Option Int->Hp->Prop)->Prop
def PO (X:Cx) (e:Option Expr) (t:TO):Prop:=
 ∀(pins:List (Za×Obj)) (s:Wx) (σ:St) (H:Hp) (Q:Option Int->Hp->Prop),Inv X pins σ H s->t σ H Q ->
  Zh (model X.prog X.w) X.A (evalPart e X.env) (λu s'=>∃o H',Inv X pins σ H' s'/\IsPart u o/\Q o H') X.xe s
def Ja:TO:=λ_ H Q=>Q none H
def Nf (t:TE):TO:=λσ H Q=>t σ H λx H1=>∃i,x = .int i/\Q (some i) H1
section
variable {X:Cx}{e:Expr}{te:TE}{lo hi:Option Expr}{tl th:TO}{pos p2:Pos}
theorem Ki:PO X none Ja:=by
 intro pins s σ H Q I h;rw[evalPart_none];exact Wv ⟨none,H,I,.none,h⟩
theorem w9 (h:PE X e te):PO X (some e) (Nf te):=by
 intro a s d H Q I g;rw[evalPart_some];refine thn (h a s d H _ I g) λu _ ⟨x,b,c,f,j⟩=>?_;obtain⟨i,rfl,q⟩:=j;obtain⟨t,rfl⟩:=f;exact⟨some i,b,c,.int i t,q⟩
def SlR (X:Cx) (r:V->Option Int->Option Int->Hp->VK->Prop):Prop:=
 ∀(pins:List (Za×Obj)) (s:Wx) (σ:St) (H:Hp) (x:V) (v vl vu:Wy) (lo hi:Option Int) (sl:Za) (Q:VK),Inv X pins σ H s->RelV x v->s.heap.IsSliceOf sl vl vu .none->IsPart vl lo->IsPart vu hi->r x lo hi H Q ->
  ∃T id,typeLookup (.type T) "__getitem__" = pure (some (.builtin id))/\s.TypeIs v T/\Zh (model X.prog X.w) X.A (getItem v (.ref sl)) (EP X pins σ Q) X.xe s
def tSl (r:V->Option Int->Option Int->Hp->VK->Prop) (te:TE) (tl th:TO):TE:=λσ H Q=>te σ H λx H1=>tl σ H1 λl H2=>th σ H2 λu H3=>r x l u H3 Q
theorem zH {r:V->Option Int->Option Int->Hp->VK->Prop} (D:SlR X r) (F:PE X e te) (B:PO X lo tl) (E:PO X hi th):PE X (.Subscript e (.Slice lo hi none p2) pos) (tSl r te tl th):=by
 intro a s d H Q I h;refine Subscript_ (thn (F a s d H _ I h) λv M ⟨x,J,K,z,m⟩=>?_);refine wpAny_Slice (thn (B a M d J _ K m) λg p ⟨l,j,G,n,L⟩=>thn (E a p d j _ G L) λf c ⟨u,i,o,C,q3⟩=>?_);rw[evalPart_none];refine Wv ?_;have t:Inv X a d i { c with heap:=c.heap.push { cls:=.type "slice",data:=.fields #[g,f,.none] } }:=o.kept (t':=c.toks) λb _ q=>Wu _ q;obtain⟨T,_,hT,k,y⟩:=D a { c with heap:=c.heap.push { cls:=.type "slice",data:=.fields #[g,f,.none] } } d i x v g f l u c.heap.objs.size Q t z (Heap.IsSliceOf.new ..) n C q3;show Zh (model X.prog X.w) X.A (subscriptTail e (.Slice lo hi none p2) v (.ref c.heap.objs.size)) (EP X a d Q) X.xe { c with heap:=c.heap.push { cls:=.type "slice",data:=.fields #[g,f,.none] } };exact tail_any (ops:=[.ref c.heap.objs.size,v]) k hT y (by with_unfolding_all rfl)
def rR (xs:WD) (lo hi:Option Int):WD:=(xs.drop (HT.sIx xs.length 0 lo)).take (HT.sIx xs.length xs.length hi - HT.sIx xs.length 0 lo)
theorem As (xs:WD) (lo hi:Option Int):(rR xs lo hi).length<=xs.length:=by
 unfold rR;rw[TZ,VA];lia
end
def ixN (n:Nat) (i:Int):Option Nat:=if 0<=i then(if i<n then some i.toNat else none)else if -(n:Int)<=i then some (i+n).toNat else none
def atI {α:Type} (xs:List α) (i:Int):Option α:=(ixN xs.length i).bind λj=>xs[j]?
theorem Ds {n:Nat}{i:Int}{j:Nat} (h:ixN n i=some j):seqIndex? i n=some j/\j<n /\ -(n:Int)<=i/\i<n:=by
 unfold ixN at h;by_cases b:0<=i
 ·rw[Zn b]at h;by_cases a:i<n
  ·rw[Zn a]at h;have e:i.toNat=j:=Yr h;exact⟨by rw[seqIndex_of b a,e],by lia,by lia,a⟩
  ·rw[Zo a]at h;cases h
 ·rw[Zo b]at h;by_cases a : -(n:Int)<=i
  ·rw[Zn a]at h;have e:(i+n).toNat=j:=Yr h;exact⟨by rw[seqIndex_neg (by lia) a,e],by lia,a,by lia⟩
  ·rw[Zo a]at h;cases h
theorem xO {α:Type}{xs:List α}{i:Int}{v:α} (h:atI xs i=some v):∃j,seqIndex? i xs.length=some j/\xs[j]? = some v/\j<xs.length /\ -(xs.length:Int)<=i/\i<xs.length:=by
 unfold atI at h;cases e:ixN xs.length i with
 | none=>rw[e]at h;cases h
 | some j=>
  rw[e]at h;obtain⟨d,b,a,c⟩:=Ds e;exact⟨j,d,h,b,a,c⟩
theorem cy {α:Type}{xs:List α}{j:Nat}{v:α} (h:xs[j]? = some v):atI xs (j:Int)=some v:=by
 have a:j<xs.length:=(UP.mp h).1;have e:ixN xs.length (j:Int)=some j:=by
  unfold ixN;rw[Zn (by lia),Zn (by lia)];simp
 unfold atI;rw[e];exact h
def Ks (b:Expr):Prop:=∀o i,subscripted b false o i=operate [o,i] (getItem o i)
def IxR (X:Cx) (r:R2):Prop:=
 ∀(value slice:Expr) (pins:List (Za×Obj)) (s:Wx) (σ:St) (H:Hp) (x y:V) (v u:Wy) (Q:VK),Inv X pins σ H s->RelV x v->RelV y u->r x y H Q ->
  subscripted slice false v u=operate [v,u] (getItem v u)->Zh (model X.prog X.w) X.A (subscriptTail value slice v u) (EP X pins σ Q) X.xe s
def MtR (X:Cx) (id:String) (r:V->WD->Hp->VK->Prop):Prop:=
 ∀(pins:List (Za×Obj)) (s:Wx) (σ:St) (H:Hp) (x:V) (xs:WD) (v:Wy) (us:WJ) (Q:VK),Inv X pins σ H s->RelV x v->aO xs us->r x xs H Q ->
  Zh (model X.prog X.w) X.A (call (.builtin id) (v::us)) (EP X pins σ Q) X.xe s
section
variable {X:Cx}{a b:Expr}{ta tb:TE}{pos:Pos}
theorem bc {r:R2} (i:IxR X r) (l:PE X a ta) (j:PE X b tb) (e:Ks b):PE X (.Subscript a b pos) (tOp r ta tb):=by
 intro c s m H Q I h;exact Subscript_ (Mr l j I h λv u f x y d k g n q=>i a b c f m d x y v u Q k g n q (e _ _))
def cO (K:Wz):R2:=λx y H Q=>∃p xs i v,x = .ref p/\y = .int i/\SqL K H p xs/\atI xs i=some v/\Q v H
def oz (K:Wz):R2:=λx y H Q=>∃p xs i v,x = .ref p/\y = .int i/\SqT K H p xs/\atI xs i=some v/\Q v H
def Qi:R2:=λx y H Q=>∃z i c,x = .str z/\y = .int i/\z.length<=Zg/\atI z.cps.toList i=some c/\Q (.str ⟨#[c]⟩) H
theorem aS:IxR X (cO X.K):=by
 intro _ _ a s n H x y v u Q I o J h k;obtain⟨p,_,i,z,rfl,rfl,B,D,q⟩:=h;cases o;obtain⟨t,rfl⟩:=J;obtain⟨e,r,f,_⟩:=I.list B;obtain⟨j,c,C,_,F,E⟩:=xO D;obtain⟨w,m,d⟩:=r.get C;have A:=r.length;have L:=nW;have b:EP X a n Q w s:=⟨z,H,I,d,q⟩;by_cases l:0<=i
 ·have g:i.toNat=j:=by
   rw[seqIndex_of l E]at c;exact Yr c
  exact item_listR f.isList l (by lia) (by rw[g];simpa using m) b k
 ·have g:(i+(e.toArray.size:Int)).toNat=j:=by
   rw[seqIndex_neg (by lia) F]at c;rw[TL,<-A];exact Yr c
  exact subscriptTail_builtinR (x:=w) f.isList.typeIs slot_list_getitem.lookup
   (wpAny_getItem_list_neg (Q:=λr G=>r=w/\EP X a n Q r G) f.isList (by lia) (by rw[TL] <;> lia) (by lia) (by rw[g];simpa using m) ⟨rfl,b⟩) k
theorem eX:IxR X (oz X.K):=by
 intro _ _ a s e H x y v u Q I g B h f;obtain⟨p,_,i,z,rfl,rfl,l,o,q⟩:=h;cases g;obtain⟨t,rfl⟩:=B;obtain⟨_,r,d,_⟩:=I.tuple l;obtain⟨j,C,m,_,_,_⟩:=xO o;obtain⟨w,n,b⟩:=r.get m;have k:=r.length;have D:=nW;have c:EP X a e Q w s:=⟨z,H,I,b,q⟩;exact subscriptTail_builtinR (x:=w) d.typeIs slot_tuple_getitem.lookup
  (getItem_tuple (j:=j) (Q:=λr A=>r=w/\EP X a e Q r A) d (by lia) (by lia) (by rw[TL,<-k];exact C) (by simpa using n) ⟨rfl,c⟩) f
theorem L5:IxR X Qi:=by
 intro _ _ _ s _ H x y v u Q I d o h b;obtain⟨z,i,c,rfl,rfl,_,l,q⟩:=h;obtain⟨t,rfl⟩:=d;obtain⟨_,rfl⟩:=o;obtain⟨j,a,k,_,n,m⟩:=xO l;have g:z.cps.toList.length=z.length:=by simp[Z2]
 rw[g]at a n m;have p:=nW;exact tail_any (typeIs_str s z t) slot_str_getitem.lookup (getItem_str (c:=c) (by
  have f:decide (i < -(2 ^ 63:Int))=false:=Zl (by lia);have e:decide (i ≥ 2 ^ 63)=false:=Zl (by lia);rw[f,e,VC]) (by rw[a];simpa using k) ⟨.str ⟨#[c]⟩,H,I.tok _,⟨_,rfl⟩,q⟩) b
theorem Bp (its:WJ) (n j:Nat) (u:Wy):Y8 (·.setIfInBounds j u) { cls:=.type "list",data:=.seq its.toArray n }={ cls:=.type "list",data:=.seq (its.set j u).toArray n }:=by
 simp[Y8]
theorem Inv.lst {pins:List (Za×Obj)}{σ:St}{H:Hp}{s:Wx}{p:Za}{xs:WD} (I:Inv X pins σ H s) (h:H p=some (.lst xs)) :
  ∃(its:WJ) (n:Nat),aO xs its/\s.heap.get? p=some { cls:=.type "list",data:=.seq its.toArray n }/\xs.length<=Zg:=by
 obtain⟨z,its,n,r,e⟩:=I.hok p _ h;exact⟨its,n,r,e,z⟩
theorem Inv.L0 {pins:List (Za×Obj)}{σ:St}{H:Hp}{s:Wx}{p:Za}{xs ys:WD}{its jV:WJ}{n n':Nat}{f:Obj->Obj} (I:Inv X pins σ H s) (h:H p=some (.lst xs))
  (d:s.heap.get? p=some { cls:=.type "list",data:=.seq its.toArray n }) (a:f { cls:=.type "list",data:=.seq its.toArray n }={ cls:=.type "list",data:=.seq jV.toArray n' }) (r:aO ys jV) (hz:ys.length<=Zg) (t:Nat) :
  Inv X pins σ (upd H p (.lst ys)) { s with heap:=s.heap.update p f,toks:=t }:=by
 have e:(s.heap.update p f).get? p=some { cls:=.type "list",data:=.seq jV.toArray n' }:=by
  rw[Heap.get?_update_self f d (by rw[a] <;> rfl),a]
 refine I.write (x:=p) (e:=p) (by rw[h];trivial) (.inl rfl) (λb u c q=>(Yn _ _ (YQ c)).trans q) ⟨_,e⟩ ?_;exact⟨hz,jV,n',r,e⟩
def Oi:V->V->V->Hp->(Hp->Prop)->Prop:=λo i v H Q=>∃p xs k j,o = .ref p/\i = .int k/\H p=some (.lst xs)/\ixN xs.length k=some j/\Q (upd H p (.lst (xs.set j v)))
theorem set_list:NM X Oi:=by
 intro b s E H o i v _ _ u Q I y A C h;obtain⟨p,z,k,j,rfl,rfl,l,D,q⟩:=h;cases y;obtain⟨t,rfl⟩:=A;obtain⟨a,n,r,e,B⟩:=I.lst l;obtain⟨c,_,m,x⟩:=Ds D;have f:=r.length;have F:=nW;have g:Inv X b E (upd H p (.lst (z.set j v))) { s with heap:=s.heap.update p (Y8 (·.setIfInBounds j u)) }:=
  I.L0 l e (Bp a n j u) (r.set C j) (by rw[List.length_set];exact B) s.toks
 by_cases w:0<=k
 ·have d:k.toNat=j:=by
   rw[seqIndex_of w x]at c;exact Yr c
  exact PySem.W.ki_setAt e w (by lia) (by rw[TL,<-f];exact x) (by rw[d];exact⟨_,g,q⟩)
 ·have d:(k+(a.toArray.size:Int)).toNat=j:=by
   rw[seqIndex_neg (by lia) m]at c;rw[TL,<-f];exact Yr c
  exact PySem.W.ki_setBack e (by lia) (by rw[TL,<-f];exact m) (by lia) (by rw[d];exact⟨_,g,q⟩)
theorem ym (lo hi:Option Int) (n:Nat):(sliceBounds lo hi none n).1=((HT.sIx n 0 lo:Nat):Int)/\(sliceBounds lo hi none n).2.1=((HT.sIx n n hi:Nat):Int)/\(sliceBounds lo hi none n).2.2=1:=by
 refine⟨?_,?_,rfl⟩
 ·cases lo with
  | none=>simp[sliceBounds,HT.sIx]
  | some i=>
   simp only[sliceBounds,HT.sIx,Option.getD_none,show(1:Int) > 0 by decide,if_true];by_cases h:i<0
   ·simp only[h,if_true] <;> lia
   ·simp only[h,if_false] <;> lia
 ·cases hi with
  | none=>simp[sliceBounds,HT.sIx]
  | some i=>
   simp only[sliceBounds,HT.sIx,Option.getD_none,show(1:Int) > 0 by decide,if_true];by_cases h:i<0
   ·simp only[h,if_true] <;> lia
   ·simp only[h,if_false] <;> lia
theorem vf (its:WJ) (lo hi:Option Int):slicePick its.toArray lo hi none=((its.drop (HT.sIx its.length 0 lo)).take (HT.sIx its.length its.length hi - HT.sIx its.length 0 lo)).toArray:=by
 obtain⟨c,b,a⟩:=ym lo hi its.toArray.size;unfold slicePick;rw[c,b,a];simp only[sliceRange_one,pick_run,TL] <;> rfl
def LC (K:Wz):V->Option Int->Option Int->Hp->VK->Prop:=λx lo hi H Q=>∃a xs,x = .ref a/\SqL K H a xs/\∀p,H p=none->Q (.ref p) (upd H p (.lst (rR xs lo hi)))
theorem Cs:SlR X (LC X.K):=by
 intro _ s _ H x v _ _ e f _ Q I k i j m h;obtain⟨a,c,rfl,l,q⟩:=h;cases k;obtain⟨_,r,g,n⟩:=I.list l;have d:=r.length;refine⟨"list",_,slot_list_getitem.lookup,g.isList.typeIs,?_⟩;refine wpAny_getItem_list_slice g.isList i j m .none (by simp) ?_ (by rw[TL] <;> lia);rw[vf,<-d];refine⟨.ref s.heap.objs.size,_,I.laid (t':=s.toks) (o:=.lst (rR c e f)) (λb _ q=>Wu _ q) (Tw _) ?_,rfl,q _ (I.hok.fresh (Tw _))⟩;exact⟨TN (As c e f) n,_,0,(r.drop (HT.sIx c.length 0 e)).take (HT.sIx c.length c.length f - HT.sIx c.length 0 e),Y1 _ rfl⟩
def ie:V->Bool
 | .non=>true
 | .bl _=>true
 | .int _=>true
 | .str _=>true
 | _=>false
def eqV:V->V->Bool
 | .non,.non=>true
 | .bl a,.bl b=>a == b
 | .bl a,.int b=>(if a then 1 else 0) == b
 | .int a,.bl b=>a == (if b then 1 else 0)
 | .int a,.int b=>a == b
 | .str a,.str b=>a == b
 | _,_=>false
theorem Fi {A:Zc}{s:Wx}{y x:V}{u v:Wy} (f:RelV y u) (c:RelV x v) (g:ie y=true) (e:ie x=true):SeqAt.EqAt A s u v (eqV y x):=by
 cases y with
 | non=>
  cases f;cases x with
  | non=>cases c;exact SeqAt.EqAt.same _
  | bl b=>cases c;exact SeqAt.EqAt.none_bool b
  | int b=>obtain⟨t,rfl⟩:=c;exact SeqAt.EqAt.none_int b t
  | str b=>obtain⟨t,rfl⟩:=c;exact SeqAt.EqAt.none_str b t
  | _=>exact absurd (show false=true from e) TQ
 | bl a=>
  cases f;cases x with
  | non=>cases c;exact SeqAt.EqAt.bool_none a
  | bl b=>cases c;exact SeqAt.EqAt.bool_bool a b
  | int b=>obtain⟨t,rfl⟩:=c;exact SeqAt.EqAt.bool_int a b t
  | str b=>obtain⟨t,rfl⟩:=c;exact SeqAt.EqAt.bool_str a b t
  | _=>exact absurd (show false=true from e) TQ
 | int a=>
  obtain⟨d,rfl⟩:=f;cases x with
  | non=>cases c;exact SeqAt.EqAt.int_none a d
  | bl b=>cases c;exact SeqAt.EqAt.int_bool a d b
  | int b=>obtain⟨t,rfl⟩:=c;exact SeqAt.EqAt.int_int a d b t
  | str b=>obtain⟨t,rfl⟩:=c;exact SeqAt.EqAt.int_str a d b t
  | _=>exact absurd (show false=true from e) TQ
 | str a=>
  obtain⟨d,rfl⟩:=f;cases x with
  | non=>cases c;exact SeqAt.EqAt.str_none a d
  | bl b=>cases c;exact SeqAt.EqAt.str_bool a d b
  | int b=>obtain⟨t,rfl⟩:=c;exact SeqAt.EqAt.str_int a d b t
  | str b=>obtain⟨t,rfl⟩:=c;exact SeqAt.EqAt.str_str a d b t
  | _=>exact absurd (show false=true from e) TQ
 | _=>exact absurd (show false=true from g) TQ
def eqU (x:V) (u:Wy):Bool:=match u with
 | .none=>eqV .non x
 | .bool b=>eqV (.bl b) x
 | .int i _=>eqV (.int i) x
 | .str z _=>eqV (.str z) x
 | _=>false
theorem Cb {x y:V}{u:Wy} (r:RelV y u) (f:ie y=true):eqU x u=eqV y x:=by
 cases y with
 | non=>cases r;rfl
 | bl b=>cases r;rfl
 | int i=>obtain⟨t,rfl⟩:=r;rfl
 | str z=>obtain⟨t,rfl⟩:=r;rfl
 | _=>exact absurd (show false=true from f) TQ
theorem xX {x:V}:∀{xs:WD}{us:WJ},aO xs us->xs.all ie=true->us.any (eqU x)=xs.any λy=>eqV y x
 | _,_,.nil,_=>rfl
 | y::xs,u::us,.cons r t,f=>by
  rw[Vt,Ub]at f;rw[UA,UA,Cb r f.1,xX t f.2]
theorem oH {A:Zc}{s:Wx}{x:V}{v:Wy} (c:RelV x v) (b:ie x=true):∀{xs:WD}{us:WJ},aO xs us->xs.all ie=true->∀u∈us,SeqAt.EqAt A s u v (eqU x u)
 | _,_,.nil,_=>λu a=>by cases a
 | y::xs,u::us,.cons r t,f=>λd a=>by
  rw[Vt,Ub]at f;rcases TM.mp a with rfl | a
  ·rw[Cb r f.1];exact Fi r c f.1 b
  ·exact oH c b t f.2 d a
def inV (x:V) (xs:WD):Bool:=xs.any λy=>eqV y x
def rIn (K:Wz) (neg:Bool):R2:=λx y H Q=>∃p xs,y = .ref p/\(SqL K H p xs\/SqT K H p xs)/\ie x=true/\xs.all ie=true/\Q (.bl (if neg then !inV x xs else inV x xs)) H
theorem vF:OpR X (compareOp .In) (rIn X.K false):=by
 intro _ s _ H x y v u Q I f j h;obtain⟨p,_,rfl,b,g,c,q⟩:=h;cases j;rcases b with b | b
 ·obtain⟨a,r,e,i⟩:=I.list b;refine SeqAt.in_listAt (eqU x) e.isList (λw d=>oH f g r c w (by simpa using d)) ⟨.bl _,H,I,rfl,?_⟩;rw[show a.toArray.any (eqU x)=a.any (eqU x)by simp,xX r c];exact q
 ·obtain⟨a,r,e,i⟩:=I.tuple b;refine SeqAt.in_tupleAt (eqU x) e (λw d=>oH f g r c w (by simpa using d)) ⟨.bl _,H,I,rfl,?_⟩;rw[show a.toArray.any (eqU x)=a.any (eqU x)by simp,xX r c];exact q
theorem xt:ia X (.builtin "len") (λxs H Q=>∃p ys,xs=[.ref p]/\(SqL X.K H p ys\/SqT X.K H p ys)/\Q (.int ys.length) H):=by
 intro _ s _ H xs _ Q I r h;obtain⟨p,ys,rfl,b,q⟩:=h;obtain⟨u,rfl,f⟩:=vals1 r;cases f;have i:=nW;rcases b with b | b
 ·obtain⟨c,e,d,g⟩:=I.list b;have a:=e.length;exact Calls.call_len_list d.isList (by simp only[TL] <;> lia) ⟨.int ys.length,H,I.tok _,⟨s.toks+1,by rw[TL,a]⟩,q⟩
 ·obtain⟨c,e,d,g⟩:=I.tuple b;have a:=e.length;exact len_tuple d (by simp only[TL] <;> lia) ⟨.int ys.length,H,I.tok _,⟨s.toks+1,by rw[TL,a]⟩,q⟩
theorem pN:ia X (.builtin "len") (λxs H Q=>∃z,xs=[.str z]/\z.length<=Zg/\Q (.int z.length) H):=by
 intro _ s _ H xs _ Q I r h;obtain⟨z,rfl,_,q⟩:=h;obtain⟨u,rfl,t,rfl⟩:=vals1 r;have a:=nW;exact len_str (by lia) ⟨.int z.length,H,I.tok _,⟨_,rfl⟩,q⟩
theorem yc:ia X (.type "list") (λxs H Q=>∃p ys,xs=[.ref p]/\(SqL X.K H p ys\/SqT X.K H p ys)/\∀l,H l=none->Q (.ref l) (upd H l (.lst ys))):=by
 intro g s z H xs _ Q I r h;obtain⟨p,ys,rfl,j,q⟩:=h;obtain⟨u,rfl,y⟩:=vals1 r;cases y;have i:∀(a:WJ),aO ys a->ys.length<=Zg->∀(h':Heap) (c':Nat),(∀b o',s.heap.get? b=some o'->h'.get? b=some o') ->
   h'.get? s.heap.objs.size=some { cls:=.type "list",dict:=none,data:=.seq a.toArray c',slots:=#[] }->EP X g z Q (.ref s.heap.objs.size) { s with heap:=h' }:=λa c k h' c' f e=>
  ⟨.ref s.heap.objs.size,_,I.laid (t':=s.toks) f (Tw _) (show bO X.prog X.w _ h' _ (.lst ys)from⟨k,a,c',c,e⟩),rfl,q _ (I.hok.fresh (Tw _))⟩
 rcases j with j | j
 ·obtain⟨a,c,m,k⟩:=I.list j;have d:=c.length;obtain⟨o,t,x,n,v⟩:=m.isList;exact call_list_seq p (.inl rfl) t x v (λh' c' f e=>i a c k h' c' f e) (by simp only[TL] <;> lia)
 ·obtain⟨a,c,m,k⟩:=I.tuple j;have d:=c.length;obtain⟨o,t,x,n,v⟩:=m;exact call_list_seq p (.inr rfl) t x v (λh' c' f e=>i a c k h' c' f e) (by simp only[TL] <;> lia)
theorem jd:ia X (.type "tuple") (λxs H Q=>∃p ys,xs=[.ref p]/\((SqL X.K H p ys/\∀l,H l=none->Q (.ref l) (upd H l (.tup ys)))\/(SqT X.K H p ys/\Q (.ref p) H))):=by
 intro a s n H xs _ Q I r h;obtain⟨p,ys,rfl,h⟩:=h;obtain⟨u,rfl,t⟩:=vals1 r;cases t;rcases h with⟨g,q⟩ | ⟨g,q⟩
 ·obtain⟨c,i,f,k⟩:=I.list g;have j:=i.length;refine call_tuple_list f.isList (λd v=>?_) (by simp only[TL] <;> lia);have m:Inv X a n H { s with heap:=d }:=I.kept (t':=s.toks) v;have x:Inv X a n (upd H d.objs.size (.tup ys)) { s with heap:=d.push { cls:=.type "tuple",data:=.seq c.toArray } }:=
   m.laid (t':=s.toks) (λb o e=>Wu _ e) (Tw _) (show bO X.prog X.w _ _ _ (.tup ys)from⟨k,c,i,IsTup.new _ _⟩)
  exact⟨.ref d.objs.size,_,x,rfl,q _ (m.hok.fresh (Tw _))⟩
 ·obtain⟨c,i,f,k⟩:=I.tuple g;exact call_tuple_same f ⟨.ref p,H,I,rfl,q⟩
def tyV (K:Wz) (T:String) (x:V) (H:Hp):Prop:=match x with
 | .str _=>T = "str"
 | .int _=>T = "int"
 | .ref p=>(T = "list" /\ ∃xs,SqL K H p xs)\/(T = "tuple" /\ ∃o,K.lookup p=some o/\o.cls = .type "tuple" /\ o.dict=none) \/
   (T = "dict" /\ ((∃kvs,H p=some (.dK kvs))\/∃kvs,H p=some (.dT kvs)))\/(T = "set" /\ ∃S n,H p=some (.set S n))
 | _=>False
theorem FG {pins:List (Za×Obj)}{σ:St}{H:Hp}{s:Wx}{T:String}{x:V}{v:Wy} (I:Inv X pins σ H s) (r:RelV x v) (ty:tyV X.K T x H) :
  s.TypeIs v T/\∀a,v = .ref a->∃ob,s.heap.get? a=some ob/\ob.dict=none:=by
 cases x with
 | str z=>
  obtain⟨t,rfl⟩:=r;cases(show T = "str" from ty);exact⟨typeIs_str s z t,λ_ e=>nomatch e⟩
 | int i=>
  obtain⟨t,rfl⟩:=r;cases(show T = "int" from ty);exact⟨typeIs_int s i t,λ_ e=>nomatch e⟩
 | ref p=>
  cases r;rcases ty with⟨rfl,_,k⟩ | ⟨rfl,o,b,l,h⟩ | ⟨rfl,b⟩ | ⟨rfl,S,n,b⟩
  ·obtain⟨_,_,j,_⟩:=I.list k;refine⟨j.isList.typeIs,λa e=>?_⟩;cases e;obtain⟨o,n,e,c,h,_⟩:=j;exact⟨o,e,h⟩
  ·refine⟨⟨o,I.kIn p o b,l⟩,λa e=>?_⟩;cases e;exact⟨o,I.kIn _ o b,h⟩
  ·have z:∃o,s.heap.get? p=some o/\o.ExactDict:=by
    rcases b with⟨f,b⟩ | ⟨f,b⟩
    ·obtain⟨_,_,_,_,o,_,_,e,d,_⟩:=I.hok p _ b;exact⟨o,e,d⟩
    ·obtain⟨_,_,_,_,o,_,_,e,d,_⟩:=I.hok p _ b;exact⟨o,e,d⟩
   obtain⟨o,e,d⟩:=z;refine⟨⟨o,e,d.1⟩,λa g=>?_⟩;cases g;exact⟨o,e,d.2.1⟩
  ·obtain⟨o,_,_,_,e,d,_⟩:=I.hok p _ b;refine⟨⟨o,e,d.1⟩,λa g=>?_⟩;cases g;exact⟨o,e,d.2.1⟩
 | _=>exact False.elim ty
def Rg (K:Wz) (T:String) (r:V->WD->Hp->VK->Prop) (to:TE):TE:=λσ H Q=>to σ H λx H1=>tyV K T x H1/\r x [] H1 Q
def tBM (K:Wz) (T:String) (r:V->WD->Hp->VK->Prop) (to:TE) (t:TA):TE:=λσ H Q=>to σ H λx H1=>tyV K T x H1/\t σ H1 λxs H2=>r x xs H2 Q
variable {o e:Expr}{es:List Expr}{to:TE}{t:TA}{name:Str}{apos cT:Pos}{T id:String}{r:V->WD->Hp->VK->Prop}
theorem Ga (pa:PlainAttrs T) (slot:Slot T name id) (b:typeOf (.builtin id)=pure (.type "method_descriptor")) (f:MtR X id r) (i:PE X o to)
  (k:attributeBase o name X.env (eval o X.env)=eval o X.env:=by rfl) (n:(apos.endLine == cT.line)=true:=by rfl):PE X (.Call (.Attribute o name apos) [] [] cT) (Rg X.K T r to):=by
 intro a s e H Q I h;refine wpAny_Call_method0_late k n (thn (i a s e H _ I h) λv p ⟨x,m,d,c,j,g⟩=>?_);obtain⟨q,l⟩:=FG d c j;exact⟨T,id,pa,slot,b,q,l,YM rfl (PySem.evalArgs_none (f a p e m x [] v [] Q d c .nil g))⟩
theorem fu (pa:PlainAttrs T) (slot:Slot T name id) (b:typeOf (.builtin id)=pure (.type "method_descriptor")) (j:MtR X id r) (l:PE X o to) (B:PA X (e::es) t)
  (q:attributeBase o name X.env (eval o X.env)=eval o X.env:=by rfl)
  (F:((backTo cT (Zi (e::es) X.env)).all (λx=>!x.1) && (backToKw cT (keywordEach [] X.env)).all (λx=>x.1.isSome)
   && decide ((e::es).length+([]:List Keyword).length+(if ([]:List Keyword).isEmpty then 0 else 1)<30))=true:=by rfl)
  (E:(apos.endLine == cT.line)=true:=by rfl) (i:Zi (e::es) X.env=(false,eval e X.env)::Zi es X.env:=by rfl) (w:(backTo cT (Zi es X.env)).any (·.1)=false:=by rfl) :
  PE X (.Call (.Attribute o name apos) (e::es) [] cT) (tBM X.K T r to t):=by
 intro a s c H Q I h;refine wpAny_Call_method_late q F E rfl (thn (l a s c H _ I h) λv G ⟨x,C,f,d,p,k⟩=>?_);obtain⟨J,y⟩:=FG f d p;refine⟨T,id,pa,slot,b,J,y,?_⟩;have hA:=B cT a G c C _ f k;rw[i]at hA ⊢;refine YM (by show(false || (backTo cT (Zi es X.env)).any (·.1))=false;rw[w] <;> rfl) (Calls.evalArgs_plain ?_)
 exact thn hA λn m ⟨z,g,A,u,D⟩=>j a m c g x z v n Q A d u D
end
def MtM (X:Cx) (id:String) (r:V->WD->Hp->VK->Prop):Prop:=
 ∀(pins:List (Za×Obj)) (s:Wx) (σ:St) (H:Hp) (x:V) (xs:WD) (v:Wy) (us:WJ) (Q:VK),Inv X pins σ H s->RelV x v->aO xs us->r x xs H Q ->
  Zh (model X.prog X.w) X.A (call (.builtin id) (v::us)) (EP X pins σ Q) X.xe s
theorem aO.one:∀{x:V}{us:WJ},aO [x] us->∃u,us=[u]/\RelV x u
 | _,_,.cons r .nil=>⟨_,rfl,r⟩
section
variable {X:Cx}{pins:List (Za×Obj)}{σ:St}{H:Hp}{s:Wx}{l b:Za}{xs ys zs:WD}
theorem Inv.BK {its jV:WJ}{n:Nat}{f:WG->WG}{t':Nat} (I:Inv X pins σ H s) (hH:H l=some (.lst xs))
  (e:s.heap.get? l=some { cls:=.type "list",data:=.seq its.toArray n }) (a:f its.toArray=jV.toArray) (d:aO ys jV) (hz:ys.length<=Zg) :
  Inv X pins σ (upd H l (.lst ys)) { s with heap:=s.heap.update l (Y8 f),toks:=t' }:=by
 have q:=PySem.IsL.update e f;rw[a]at q;refine I.write (x:=l) (e:=l) (by rw[hH];exact trivial) (.inl rfl) (λ_ u b c=>(Yn s.heap (Y8 f) (YQ b)).trans c) ⟨_,q⟩ ?_;exact⟨hz,jV,_,d,q⟩
theorem Inv.Q3 {its:WJ}{t':Nat} (I:Inv X pins σ H s) (a:aO ys its) (hz:ys.length<=Zg) :
  Inv X pins σ (upd H s.heap.objs.size (.lst ys)) { s with heap:=s.heap.push { cls:=.type "list",data:=.seq its.toArray },toks:=t' }:=
 I.laid (λ_ _ q=>Wu _ q) (Tw _) ⟨hz,its,0,a,Y1 _ rfl⟩
theorem Inv.fresh (I:Inv X pins σ H s):H s.heap.objs.size=none:=I.hok.fresh (Tw _)
theorem Inv.Cd (I:Inv X pins σ H s) (hH:H l=some (.lst xs)):xs.length<=Zg/\∃(its:WJ) (n:Nat),aO xs its/\xs.length=its.length/\s.heap.get? l=some { cls:=.type "list",data:=.seq its.toArray n }:=by
 obtain⟨z,its,n,r,e⟩:=I.hok l _ hH;exact⟨z,its,n,r,r.length,e⟩
theorem Hj {n:Nat} (h:n<=Zg):Builtin.List.listTooLong n=false:=by
 unfold Builtin.List.listTooLong;exact Zl (by lia)
end
section
variable {X:Cx}
def Jw:V->WD->Hp->VK->Prop:=λx vs H Q=>∃l xs y,x = .ref l/\vs=[y]/\H l=some (.lst xs)/\xs.length<Zg/\Q .non (upd H l (.lst (xs++[y])))
theorem fH:MtM X "list.append" Jw:=by
 intro _ s _ H x _ v _ Q I b c h;obtain⟨l,_,y,rfl,rfl,hH,_,q⟩:=h;cases b;obtain⟨u,rfl,d⟩:=c.one;obtain⟨z,a,n,r,_,e⟩:=I.Cd hH;refine call_meets F.slot_list_append ⟨_,e,rfl⟩ F.entry_list_append (F.args_list_append_2 _ _) (PySem.list_append l a.toArray n u (by rw[TL];lia)) ⟨e,?_⟩;refine⟨.non,_,I.BK (jV:=a++[u]) hH e (by simp) (r.append (.cons d .nil)) ?_,rfl,q⟩;rw[TJ,T1];lia
def J9:V->WD->Hp->VK->Prop:=λx vs H Q=>∃l b xs zs,x = .ref l/\vs=[.ref b]/\H l=some (.lst xs)/\H b=some (.lst zs)/\xs.length+zs.length<=Zg/\Q .non (upd H l (.lst (xs++zs)))
theorem wC:MtM X "list.extend" J9:=by
 intro _ s _ H x _ v _ Q I i m h;obtain⟨l,b,_,_,rfl,rfl,hH,f,_,q⟩:=h;cases i;obtain⟨u,rfl,p⟩:=m.one;cases p;obtain⟨z,a,n,r,_,e⟩:=I.Cd hH;obtain⟨_,c,o,j,_,k⟩:=I.Cd f;have d:a.toArray.size+c.toArray.size<=Zg:=by rw[TL,TL];lia
 have g:¬ (!a.toArray.isEmpty && Builtin.List.listTooLong (a.toArray.size+c.toArray.size))=true:=by
  rw[Hj d,Bool.and_false];exact TQ
 refine call_meets F.slot_list_extend ⟨_,e,rfl⟩ F.entry_list_extend (F.args_list_extend_2 _ _)
  (AutoSeq1.list_extend_list_list_0 l a.toArray n b c.toArray o g (by rw[TL];lia) (by lia)) ⟨e,k,?_⟩
 refine⟨.non,_,I.BK (jV:=a++c) hH e (by simp) (r.append j) ?_,rfl,q⟩;rw[TJ];lia
end
section
variable {prog:Zd}{w:Ze}{A:Zc}{E:Wy->Wx->Prop}{s:Wx}
end
section
variable {X:Cx}
end
end L2
namespace Att
open PySem PySem.W PySem.Calls PyProof.Rows
theorem rK {P:Params}{h:Heap}:∀(ns:List Int) (vs:WJ),WellAll P h vs (ns.map WData.int)->IntsAre vs ns:=by
 intro ns
 induction ns with
 | nil=>
  intro vs w;rw[U0]at w;cases w;exact .nil
 | cons n ns c=>
  intro vs w;rw[TX]at w;cases w with
  | cons a b=>
   cases a;exact .cons _ _ (c _ b)
theorem E2 {l:OpenLaw}{n:Nat} (u:l.most=some n) {P:Params}{h:Heap}{args:List WData}{b:WJ}
  (j:l.row.toRowW.claim.pre args=true) (g:WellAll P h b args) :
  ∃a vs ns,b=[Value.ref a]/\args=[WData.list (ns.map WData.int)]/\h.get? a=some { cls:=.type "list",data:=.seq vs.toArray }/\IntsAre vs ns/\ns.length<=n:=by
 have i:WShape.hasAll [] args [.list .int]=true:=(pre_splitW j).1;have k:l.pre.holds [] { args:=args }=true:=(pre_splitW j).2;obtain⟨d,r,rfl,v,t⟩:=hasAllW_cons i;obtain rfl:=hasAllW_nil t;obtain⟨_,rfl,s⟩:=hasW_list v;obtain⟨ns,rfl⟩:=items_int s;have c:ns.length<=n:=by
  unfold OpenLaw.pre at k;have f:(WTm.not (.lt (.lit (.int (n:Int))) (.len (.arg 0)))).holds [] { args:=[.list (ns.map .int)] }=true:=by
   have f:=(holds_andW k).1;rw[u]at f;exact f
  have e:=condW_of f (w_not (w_lt w_lit (w_len_list (w_arg rfl))));rw[Tt]at e;refine Nat.le_of_not_lt λq=>?_;have p:(n:Int)<((ns.length:Nat):Int):=by lia
  first
   | (rw[Zk p]at e;exact absurd e (by decide))
   | (simp at e;lia)
 cases g with
 | cons w1 w2=>
  cases w2;cases w1 with
  | list m o=>exact⟨_,_,ns,rfl,rfl,m,rK ns _ o,c⟩
theorem DH (l:OpenLaw) (args:List WData):l.row.toRowW.claim.post args (.bool true) args=true:=
 postW_of (r:=l.row.toRowW) (X:=(true == true))
  (show WShape.has [] (.bool true) .bool=true by first | rfl | decide | simp[WShape.has,WShape.arms,WShape.armsAll])
  (show(WTm.eq .res (.lit (.bool true))).value [] { args:=args,res:=some (.bool true),after:=args }=some (.bool (true == true))from w_eq_bool (w_res rfl) w_lit) rfl
theorem zo {l:OpenLaw}{n:Nat}{q:Zd}{loose:WF}{j:(Str->Option Wy)->Heap->Prop}{m:Ze->Heap->Prop}{d:DefRec}
  (D:l.most=some n) (g:d.params.defaults=[])
  (c:∀(w:Ze) (s₀ s₁:Wx) (mg mb:Str->Option Wy) (fa:Za) (o:Obj) (pm cd doc:Wy) (a:Za) (vs:WJ) (ns:List Int),
   Ground q loose [] j w s₀ mg mb s₁.heap->m w s₁.heap ->
   s₁.heap.get? fa=some o->o.data = .func (docDef d.name d.params d.body d.scope pm cd doc)->s₁.heap.CodeRec cd d.name->mg d.name=some (.ref fa) ->
   s₁.heap.get? a=some { cls:=.type "list",data:=.seq vs.toArray }->IntsAre vs ns->ns.length<=n->s₁.gens = #[] ->
   codeAny (model l.prog w) callerA (.call (.ref fa) ⟨[.ref a],[]⟩) (λr s'=>r = .ok (.ret (.bool true))/\OldK s₁.heap s'.heap/\s'.os=s₁.os/\AllBare s'.gens) s₁) :
  WalkO q loose j m l.row.toRowW d [] (λf vs=>PySem.call f vs):=by
 intro w s₀ s₁ mg mb G Y fa o pm cd doc v kV t E e k i u _ _ _ C _ _ h _;obtain rfl:v = .none:=Dflts.none k g;obtain rfl:kV = .none:=Dflts.noKw k;obtain⟨a,vs,ns,rfl,rfl,x,p,b⟩:=E2 D C h;refine enter_call (codeAny_mono (c w s₀ s₁ mg mb fa o pm cd doc a vs ns G Y t (fd_plain E) e i x p b u) λr s' y=>?_);obtain⟨rfl,A,z,B⟩:=y;exact⟨.inl ⟨.bool true,.bool true,[],rfl,λ_=>rfl,.bool true,DH l _,λ_=>⟨List.Pairwise.nil,λ_ s=>(nomatch s)⟩⟩,A,z,B⟩
section
variable {prog:Zd}{w:Ze}{A:Zc}{E:Wy->Wx->Prop}{s:Wx}{K:Frag}
end
end Att
namespace L2
open PySem PySem.Spec PyProof.Rows
theorem wB:∀{vs:WJ}{ns:List Int},IntsAre vs ns->aO (ns.map V.int) vs
 | _,_,.nil=>.nil
 | _,_,.cons n t h=>.cons ⟨t,rfl⟩ (wB h)
abbrev CX0:CXT:=λ_ _ _ _ _ _=>False
abbrev E0:XK:=λ_ _ _=>False
theorem aB {X:Cx}:n6 CX0 X E0:=λ_ _ _ _ _ _ _ h=>h.elim
structure Fun (K:Wz) (x qual:Str) (st:Stmt) (f:Za) (fd:Zb):Prop where
 ex:∃(oc:Wy) (od:Option Za) (kV doc pm:Wy) (an:Option Za) (cdv ct:Wy) (osl:Array (Option Wy)),
  fd=YC x qual (cA st) (bS st) (ag st) .none kV doc pm an cdv ct/\K.lookup f=some ⟨oc,od,.func fd,osl⟩/\YN K cdv qual=true
 kp:YG K (.ref f)=true
section
variable {P:Zd}{w:Ze}{K:Wz}{mg:Str->Option Wy}{base:Heap}
theorem Fun.ok {x qual:Str}{st:Stmt}{f:Za}{fd:Zb}{N ps:WF}{k:Nat}{sp:Sp} (F:Fun K x qual st f fd) (S:aE N ps (ag st)) (b:∀vs H Q E,sp vs H Q E->vs.length=ps.length)
  (g:∀(cdv:Wy) (A:Zc) (outer:List Env) (s:Wx) (H:Hp) (vs:WD) (Q:VK) (E:XK),bG k (A.deeper (envOfC qual (ag st) s.heap.objs.size f cdv))->sp vs H Q E ->
   ∃t,PSs (zM CX0 P w K mg base N qual (ag st) f cdv A outer s H E).nox (bS st) t/\t { nx:=λ_ H'=>Q .non H',rt:=Q } (start N vs) H):ay P w K mg base CX0 (k+1) f fd ps sp:=by
 obtain⟨_,_,kV,_,_,_,cdv,_,_,rfl,e,a⟩:=F.ex;refine He e a S b λA outer s H vs Q E d c=>?_;obtain⟨t,h,q⟩:=g cdv A outer s H vs Q E d c;exact⟨t,h.nox,q⟩
theorem Fun.binds {x qual:Str}{st:Stmt}{f:Za}{fd:Zb}{ps:WF} (F:Fun K x qual st f fd)
  (h:∀(kV doc pm:Wy) (an:Option Za) (cdv ct:Wy) (us:WJ),us.length=ps.length->bindArgs (YC x qual (cA st) (bS st) (ag st) .none kV doc pm an cdv ct) ⟨us,[]⟩=pure (ps.zip us)):Binds K fd ps []:=by
 obtain⟨_,_,kV,doc,pm,an,cdv,ct,_,rfl,_,_⟩:=F.ex;exact .all (h kV doc pm an cdv ct)
theorem FE {x qual:Str}{st:Stmt}{f:Za}{j:Wy}{i h:Option Za}{d:Array (Option Wy)}{kV b e a g:Wy} (l:K.lookup f=some ⟨j,i,.func (YC x qual (cA st) (bS st) (ag st) .none kV b e h a g),d⟩)
  (c:YN K a qual=true) (k:YG K (.ref f)=true):Fun K x qual st f (YC x qual (cA st) (bS st) (ag st) .none kV b e h a g):=⟨⟨j,i,kV,b,e,h,a,g,d,rfl,l,c⟩,k⟩
end
section
variable {X:Cx}
theorem pv (i:Nat) {x:Str}{pos:Pos} (c:X.N[i]? = some x:=by rfl) (d:Vis X.env.scope x:=by first | exact Or.inl rfl | exact Or.inr (Or.inl rfl) | exact Or.inr (Or.inr rfl)) (b:(x == ("__debug__" : Str))=false:=by decide)
  (a:(x == ("__classdict__" : Str))=false:=by decide):PE X (.Name x pos) (Kk i):=LK c d b a
end
theorem bU {A B:Prop} (h:B):if false=true then A else B:=by
 rw[Zo TQ];exact h
theorem fc {A B:Prop} (h:A):if true=true then A else B:=by
 rw[Zn rfl];exact h
theorem EX {c A B:Prop} [Decidable c] (h1:c->A) (h2:¬ c->B):if c then A else B:=by
 by_cases h:c
 ·rw[Zn h];exact h1 h
 ·rw[Zo h];exact h2 h
def ae (H H':Hp):Prop:=∀b o,H b=some o->H' b=some o
theorem ae.refl (H:Hp):ae H H:=λ_ _ h=>h
theorem ae.trans {H H1 H2:Hp} (a:ae H H1) (b:ae H1 H2):ae H H2:=λc o h=>b c o (a c o h)
theorem ae.free {H H':Hp} (e:ae H H') {l:Za} (h:H' l=Option.none):H l=Option.none:=by
 cases q:H l with
 | none=>rfl
 | some o=>
  rw[e l o q]at h;cases h
theorem ae.seq {K:Wz}{H H':Hp}{a:Za}{xs:WD} (e:ae H H') (h:SqL K H a xs):SqL K H' a xs:=by
 rcases h with(h | ⟨o,h⟩) | h
 ·exact .inl (.inl (e _ _ h))
 ·exact .inl (.inr ⟨o,e _ _ h⟩)
 ·exact .inr h
section
variable {κ:Type} [DecidableEq κ]
def jr (kvs:List (κ×V)) (k:κ):Option V:=(kvs.find? λkv=>decide (kv.1=k)).map (·.2)
def putK (kvs:List (κ×V)) (k:κ) (v:V):List (κ×V):=
 if (kvs.any λkv=>decide (kv.1=k))=true then kvs.map (λkv=>if kv.1=k then(kv.1,v)else kv)else kvs++[(k,v)]
theorem tX {p:κ×V}{r:List (κ×V)}{k:κ} (e:p.1=k):jr (p::r) k=some p.2:=by simp[jr,UO,e]
theorem HQ {p:κ×V}{r:List (κ×V)}{k:κ} (e:¬ p.1=k):jr (p::r) k=jr r k:=by simp[jr,UO,e]
theorem AE (kvs:List (κ×V)) (k:κ) (v:V):(putK kvs k v).length<=kvs.length+1:=by
 unfold putK
 split
 ·rw[Tt];lia
 ·rw[TJ,TR,Ut];lia
theorem kB.Ej {o:Option V}{u:Option Wy} (r:kB o u):o.isSome=u.isSome:=by
 cases o with
 | none=>cases u with
  | none=>rfl
  | some _=>exact(show False from r).elim
 | some _=>cases u with
  | none=>exact(show False from r).elim
  | some _=>rfl
theorem kB.getD {o:Option V}{u:Option Wy}{d:V}{d':Wy} (r:kB o u) (a:RelV d d'):RelV (o.getD d) (u.getD d'):=by
 cases o with
 | none=>cases u with
  | none=>exact a
  | some _=>exact(show False from r).elim
 | some _=>cases u with
  | none=>exact(show False from r).elim
  | some _=>exact r
theorem KV.val {kvs:List (κ×V)}{vs:List (κ×Wy)} (r:KV kvs vs) (k:κ):kB (jr kvs k) (valueAt vs k):=by
 unfold KV at r
 induction r with
 | nil=>exact True.intro
 | @cons p q ps qs h t ih=>
  obtain⟨c,d⟩:=h;by_cases e:p.1=k
  ·have a:q.1=k:=c.symm.trans e;have b:valueAt (q::qs) k=some q.2:=by simp[valueAt,UO,a]
   rw[tX e,b];exact d
  ·have a:¬ q.1=k:=λz=>e (c.trans z);have b:valueAt (q::qs) k=valueAt qs k:=by simp[valueAt,UO,a]
   rw[HQ e,b];exact ih
theorem KV.any {kvs:List (κ×V)}{vs:List (κ×Wy)} (r:KV kvs vs) (k:κ):(kvs.any λkv=>decide (kv.1=k))=vs.any λkv=>decide (kv.1=k):=by
 unfold KV at r
 induction r with
 | nil=>rfl
 | cons h t a=>rw[UA,UA,a,h.1]
theorem KV.RN {kvs:List (κ×V)}{vs:List (κ×Wy)} (r:KV kvs vs) (k:κ) {y:V}{u:Wy} (c:RelV y u) :
  KV (kvs.map λkv=>if kv.1=k then(kv.1,y)else kv) (vs.map λkv=>if kv.1=k then(kv.1,u)else kv):=by
 unfold KV at r ⊢
 induction r with
 | nil=>exact .nil
 | @cons p q ps qs h t ih=>
  rw[TX,TX];refine .cons ?_ ih;obtain⟨a,b⟩:=h;by_cases e:p.1=k
  ·rw[Zn e,Zn (a.symm.trans e)];exact⟨a,c⟩
  ·rw[Zo e,Zo (λz=>e (a.trans z))];exact⟨a,b⟩
theorem KV.put {kvs:List (κ×V)}{vs:List (κ×Wy)} (r:KV kvs vs) (k:κ) {y:V}{u:Wy} (a:RelV y u):KV (putK kvs k y) (stored vs k u):=by
 unfold putK stored;rw[r.any k];by_cases e:(vs.any λb=>decide (b.1=k))=true
 ·rw[Zn e,Zn e];exact r.RN k a
 ·rw[Zo e,Zo e];exact Paired.snoc r ⟨rfl,a⟩
theorem KV.length {kvs:List (κ×V)}{vs:List (κ×Wy)} (r:KV kvs vs):kvs.length=vs.length:=Paired.length r
end
theorem K9 {P:Zd}{w:Ze}{k:Key}{u:Wy} (r:RelV (kV k) u):(bh P w).is k u=true:=by
 cases k with
 | inl i=>obtain⟨t,e⟩:=(show∃t,u=Value.int i t from r);subst e;exact zB P w i t
 | inr x=>obtain⟨t,e⟩:=(show∃t,u=Value.str x t from r);subst e;exact iN P w x t
theorem wX {P:Zd}{w:Ze}:∀{ks:List Key}{us:WJ},aO (ks.map kV) us->ItemsAre (bh P w) ks us
 | [],_,r=>by rw[U0]at r;cases r;exact .nil
 | k::ks,_,r=>by
  rw[TX]at r;cases r with
  | cons h t=>exact .cons (K9 h) (wX t)
abbrev KT (H:Hp):List (List Key×V)->List (List Key×Za×Wy)->Prop:=Paired λp q=>p.1=q.1/\H q.2.1=some (.tup (p.1.map kV))/\RelV p.2 q.2.2
section
variable {P:Zd}{w:Ze}{H:Hp}{h:Heap}{a:Za}
theorem Lb {u:HO} (ok:HOk P w H h) (e:Rd H a u):bO P w H h a u:=e.ok ok
theorem Iy {kvs:List (Key×V)} (ok:HOk P w H h) (e:Rd H a (.dK kvs)):kvs.length<=Zg/\(a == sysModules)=false/\∃vs,KV kvs vs/\h.DictOf (bh P w) a vs:=
 show bO P w H h a (.dK kvs)from Lb ok e
theorem OD {kvs:List (Key×V)} (ok:HOk P w H h) (e:H a=some (.dK kvs)):kvs.length<=Zg/\(a == sysModules)=false/\∃vs,KV kvs vs/\h.DictOf (bh P w) a vs:=Iy ok (.inl e)
theorem Lp {ks:List Key} (f:HOk P w H h) (e:H a=some (.tup (ks.map kV))):(tupleKind (bh P w)).is h ks a:=by
 obtain⟨_,b,r,o,g,d,n,c⟩:=(show bO P w H h a (.tup (ks.map kV))from f a _ e);exact⟨o,b.toArray,n,g,d,c,by simpa using wX r⟩
theorem Pd {kvs:List (List Key×V)} (d:HOk P w H h) (e:Rd H a (.dT kvs)):kvs.length<=Zg/\(a == sysModules)=false /\
  ∃xs,KT H kvs xs/\h.DictOfH (tupleKind (bh P w)) a xs:=by
 obtain⟨z,y,xs,r,o,f,g,s,j,i,n,k⟩:=(show bO P w H h a (.dT kvs)from Lb d e);refine⟨z,y,xs,r,o,f,g,s,j,i,n,λx b=>?_,k⟩;have c:∀{l:List (List Key×V)}{m:List (List Key×Za×Wy)},KT H l m->∀x∈m,(tupleKind (bh P w)).is h x.1 x.2.1:=by
  intro l m q
  induction q with
  | nil=>intro x b;exact nomatch b
  | @cons p q ps qs hq t ih=>
   intro x b;rcases TM.mp b with e | b
   ·subst e;exact Lp d (by rw[<-hq.1];exact hq.2.1)
   ·exact ih x b
 exact c r x b
end
section
variable {X:Cx}{pins:List (Za×Obj)}{σ:St}{H:Hp}{s:Wx}{a:Za}{y v:V}{u r:Wy}{o:Option V}{A:Zc}{E:Wy->Wx->Prop}
theorem Inv.big (I:Inv X pins σ H s):sysModules<s.heap.objs.size:=by
 have h:mainGlobals<s.heap.objs.size:=(I.mod.glob.keeps I.bk).lt;exact Vn (by decide) h
theorem Cf {h':Heap}{t':Nat}{c:HO} (I:Inv X pins σ H s) (mu:Mut (H a)) (g:Yw a s.heap h') (h:∃q,h'.get? a=some q) (d:bO X.prog X.w (upd H a c) h' a c) :
  Inv X pins σ (upd H a c) { s with heap:=h',toks:=t' }:=
 I.write (x:=a) (e:=a) mu (.inl rfl) (λb q f z=>(g.2 b f).trans z) h d
theorem Na {P:Zd}{w:Ze}{H':Hp}{h':Heap}{kvs:List (Key×V)}{vs:List (Key×Wy)} (z:kvs.length<=Zg) (c:(a == sysModules)=false) (b:KV kvs vs) (d:h'.DictOf (bh P w) a vs) :
  bO P w H' h' a (.dK kvs):=⟨z,c,vs,b,d⟩
end
section
variable {X:Cx}{pins:List (Za×Obj)}{σ:St}{H:Hp}{s:Wx}{a:Za}{kvs:List (Key×V)}{k:Key}{u:Wy}{A:Zc}{E:Wy->Wx->Prop}
end
def OS (i:Expr):Prop:=∀ov iv,subscripted i false ov iv=operate [ov,iv] (getItem ov iv)
theorem Jb {prog:Zd}{w:Ze}{A:Zc}{E:Wy->Wx->Prop}{s:Wx}{env:Env}{value a:Expr}{pos:Pos}{T id:String}{Q:Wy->Wx->Prop}
  (j:typeLookup (.type T) "__getitem__" = pure (some (.builtin id))) (g:OS a)
  (h:Zh (model prog w) A (eval value env) (λo s₁=>Zh (model prog w) A (eval a env) (λi s₂=>s₂.TypeIs o T/\Zh (model prog w) A (getItem o i) Q E s₂) E s₁) E s) :
  Zh (model prog w) A (eval (.Subscript value a pos) env) Q E s:=by
 refine Subscript_ (Wt h (λo s₁ e=>Wt e (λi s₂ b=>?_) λ_ _ x=>x) λ_ _ x=>x);obtain⟨hT,b⟩:=b;unfold subscriptTail;refine Ww ?_;rw[getitemInPython_of_ne hT.not_modules];refine Ww (wpAny_specialOf hT j ?_);have d:Zh (model prog w) A (subscripted a false o i) (λr c=>Zh (model prog w) A (letTemporaryGo value o r >>= λ_=>pure r) Q E c) E s₂:=by
  rw[g o i];exact wpAny_operating (Wt b (λr c f=>Ww (wpAny_letTemporaryGo (Wv f))) λ_ _ x=>x)
 first
  | exact Wv (Ww d)
  | exact Ww (Wv (Ww d))
  | exact Ww d
section
variable {X:Cx}{o i e value:Expr}{pos pos' MP:Pos}{td ty tv:TE}
end
theorem Fy {P:Zd}{w:Ze}{H:Hp} (h:Heap) (a:sysModules<h.objs.size):bO P w H (h.push { cls:=.type "dict",data:=.dict #[] }) h.objs.size (.dK []):=
 ⟨T2 _,beq_eq_false_iff_ne.mpr (YQ (T5 a)),[],.nil,Heap.DictOf.new h⟩
def MF:TE:=λ_ H Q=>∀p,H p=none->Q (.ref p) (upd H p (.dK []))
section
variable {X:Cx}{pos:Pos}
theorem G1:PE X (.Dict [] [] pos) MF:=λ_ s _ H Q I h=>
 wpAny_Dict_empty ⟨.ref s.heap.objs.size,_,I.laid (a:=s.heap.objs.size) (o:=.dK []) (t':=s.toks) (λ_ _ q=>Wu _ q) (Tw _) (Fy s.heap I.big),rfl,h _ (I.hok.fresh (Tw _))⟩
end
structure M1 (X:Cx) (o:Expr) (m:Str) (apos:Pos) (e:Expr) (cT:Pos):Prop where
 base:attributeBase o m X.env (eval o X.env)=eval o X.env
 few:((backTo cT (Zi [e] X.env)).all (λx=>!x.1) && (backToKw cT (keywordEach [] X.env)).all (λx=>x.1.isSome)
  && decide (([e]:List Expr).length+([]:List Keyword).length+(if ([]:List Keyword).isEmpty then 0 else 1)<30))=true
 line:(apos.endLine == cT.line)=true
 Gj:backTo cT (Zi [e] X.env)=[(false,eval e X.env)]
structure M2 (X:Cx) (o:Expr) (m:Str) (apos:Pos) (e f:Expr) (cT:Pos):Prop where
 base:attributeBase o m X.env (eval o X.env)=eval o X.env
 few:((backTo cT (Zi [e,f] X.env)).all (λx=>!x.1) && (backToKw cT (keywordEach [] X.env)).all (λx=>x.1.isSome)
  && decide (([e,f]:List Expr).length+([]:List Keyword).length+(if ([]:List Keyword).isEmpty then 0 else 1)<30))=true
 line:(apos.endLine == cT.line)=true
 Gj:backTo cT (Zi [e,f] X.env)=[(false,eval e X.env),(false,eval f X.env)]
def IsD (H:Hp) (a:Za):Prop:=(∃kvs,Rd H a (.dK kvs))\/∃kvs,Rd H a (.dT kvs)
theorem FN {X:Cx}{pins:List (Za×Obj)}{σ:St}{H:Hp}{s:Wx}{a:Za} (I:Inv X pins σ H s) (d:IsD H a) :
  s.TypeIs (.ref a) "dict" /\ (∀b,Value.ref a = .ref b->∃ob,s.heap.get? b=some ob/\ob.dict=none)/\(a == sysModules)=false:=by
 rcases d with⟨g,e⟩ | ⟨g,e⟩
 ·obtain⟨_,f,_,_,c⟩:=Iy I.hok e;refine⟨c.typeIs,λb q=>?_,f⟩;cases q;obtain⟨ob,_,_,i,h,_⟩:=c;exact⟨ob,i,h.2.1⟩
 ·obtain⟨_,f,_,_,c⟩:=Pd I.hok e;refine⟨c.typeIs,λb q=>?_,f⟩;cases q;obtain⟨ob,_,_,i,h,_⟩:=c;exact⟨ob,i,h.2.1⟩
section
variable {X:Cx}{pins:List (Za×Obj)}{σ:St}{H:Hp}{s:Wx}{a:Za}{y d:V}{u r:Wy}{o:Option V}{A:Zc}{E:Wy->Wx->Prop}
end
section
variable {X:Cx}{o e f:Expr}{apos cT:Pos}{td ty tx:TE}
end
section
variable {X:Cx}{pins:List (Za×Obj)}{σ:St}{H:Hp}{s:Wx}{a:Za}{kvs:List (Key×V)}{A:Zc}{E:Wy->Wx->Prop}
end
section
variable {X:Cx}{pins:List (Za×Obj)}{σ:St}{H:Hp}{s:Wx}{a:Za}{y:V}{u:Wy}{A:Zc}{E:Wy->Wx->Prop}
end
def fX (cells:List (Str×Za)):List (Str×NameKind)->List (Str×Za)->List (Str×Za)
 | [],acc=>acc
 | (n,k)::r,acc=>fX cells r (if (k == NameKind.free)=true then(match cells.lookup n with | some c=>(n,c)::acc | none=>acc)else acc)
theorem gw {env:Env}:∀(names:List (Str×NameKind)) (acc:List (Str×Za)),(∀y∈names,y.2 = .free->∃c,env.cells.lookup y.1=some c) ->
  (forIn (m:=Sem) names acc λ(x:Str×NameKind) r=>(match x with | (name,kind)=>if (kind == NameKind.free)=true then(do let a <-cellOf env name;pure (ForInStep.yield ((name,a)::r)))else pure (ForInStep.yield r)))=pure (fX env.cells names acc)
 | [],acc,_=>rfl
 | (n,k)::r,acc,h=>by
  rw[U3];unfold fX;by_cases b:(k == NameKind.free)=true
  ·obtain⟨c,e⟩:=h (n,k) TH (by simpa using b);simp only[b,if_true];have g:cellOf env n=pure c:=by unfold cellOf;rw[show env.cells.lookup n=some c from e]
   rw[g,show env.cells.lookup n=some c from e];simp only[pure_bind];exact gw r _ λy d=>h y (TC _ d)
  ·have f:(k == NameKind.free)=false:=by simpa using b
   simp only[f,Ug,if_false,pure_bind];exact gw r _ λy d=>h y (TC _ d)
theorem tG {env:Env}{scope:Scope} (h:∀y∈scope.names,y.2 = .free->∃c,env.cells.lookup y.1=some c):closureFor scope env=pure (fX env.cells scope.names []):=by
 have e:=gw (env:=env) scope.names [] h;unfold closureFor;simp only[bind_pure];exact e
theorem pT {a:List (Str×Za)}{x:Str}{c:Za}:∀(names:List (Str×NameKind)) (acc:List (Str×Za)),(∀y d,acc.lookup y=some d->a.lookup y=some d)->(fX a names acc).lookup x=some c->a.lookup x=some c
 | [],acc,ha,h=>ha _ _ h
 | (n,k)::r,acc,ha,h=>by
  unfold fX at h;refine pT r _ (λy d b=>?_) h
  split at b
  ·split at b
   ·rename_i c' e';rw[UB]at b;cases hb:y == n with
    | true=>rw[hb]at b;cases b;rw[beq_iff_eq.mp hb];exact e'
    | false=>rw[hb]at b;exact ha _ _ b
   ·exact ha _ _ b
  ·exact ha _ _ b
theorem jq {x n:Str}{c:Za}{acc:List (Str×Za)} (h:∃d,acc.lookup x=some d):∃d,((n,c)::acc).lookup x=some d:=by
 rw[UB];cases x == n with
 | true=>exact⟨_,rfl⟩
 | false=>exact h
theorem pH {a:List (Str×Za)}{x:Str}:∀(names:List (Str×NameKind)) (acc:List (Str×Za)),((∃d,acc.lookup x=some d)\/((x,NameKind.free)∈names/\∃d,a.lookup x=some d))->∃d,(fX a names acc).lookup x=some d
 | [],acc,h=>by
  rcases h with h | ⟨h,_⟩
  ·exact h
  ·cases h
 | (n,k)::r,acc,h=>by
  unfold fX;refine pH r _ ?_;rcases h with h | ⟨h,d,b⟩
  ·refine .inl ?_
   split
   ·split
    ·exact jq h
    ·exact h
   ·exact h
  ·rcases TM.mp h with e | h
   ·cases e;refine .inl ?_;rw[Zn (by decide),b];exact⟨d,by rw[UB];simp⟩
   ·exact .inr ⟨h,d,b⟩
theorem c7:∀(names:List (Str×NameKind)) (n:Nat) (acc:List (Str×Za)),cellsFrom n names acc=cellsFrom n names []++acc
 | [],n,acc=>rfl
 | (x,k)::r,n,acc=>by
  unfold cellsFrom
  split
  ·rw[c7 r _ ((x,n)::acc),c7 r _ [(x,n)]];simp
  ·exact c7 r n acc
theorem nO {x:Str}{c:Za}:∀{l l':List (Str×Za)},(l++l').lookup x=some c->l.lookup x=some c\/l'.lookup x=some c
 | [],_,h=>.inr h
 | (n,d)::r,l',h=>by
  rw[U9,UB]at h;rw[UB];cases hb:x == n with
  | true=>rw[hb]at h;exact .inl h
  | false=>rw[hb]at h;exact nO h
theorem bH {x:Str}:∀(names:List (Str×NameKind)) (n:Nat) (acc:List (Str×Za)),((∃d,acc.lookup x=some d)\/(x,NameKind.cell)∈names)->∃d,(cellsFrom n names acc).lookup x=some d
 | [],n,acc,h=>by
  rcases h with h | h
  ·exact h
  ·cases h
 | (y,k)::r,n,acc,h=>
  by
  unfold cellsFrom;rcases h with h | h
  ·split
   ·exact bH r _ _ (.inl (jq h))
   ·exact bH r _ _ (.inl h)
  ·rcases TM.mp h with e | h
   ·cases e;rw[Zn (by decide)];exact bH r _ _ (.inl ⟨n,by rw[UB];simp⟩)
   ·split
    ·exact bH r _ _ (.inr h)
    ·exact bH r _ _ (.inr h)
def Ju (scope:Scope) (C:Za) (env:Env):Env:=
 { scope:=relabel scope env,locals:=C,globals:=env.globals,cells:=cellsFrom (C+1) scope.names (fX env.cells scope.names []),qual:=env.qual,func:=none,code:=env.code,frame:=env.frame,builtins:=env.builtins }
theorem qR {scope:Scope}{env:Env}{x:Str}{k:NameKind} (h:(relabel scope env).names.lookup x=some k):∃k',(x,k')∈scope.names/\(k' = k\/(k' = .free/\k = .cell/\env.kindOf x=some .cell)):=by
 have b:=Tv.mp (mem_of_lookup h);obtain⟨⟨n,q⟩,a,e⟩:=b;dsimp only at e
 split at e
 ·rename_i hc;injection e with e1 e2;subst e1;refine⟨q,a,.inr ?_⟩;simp only[Ub,beq_iff_eq]at hc;exact⟨hc.1.1,e2.symm,hc.2⟩
 ·injection e with e1 e2;subst e1;exact⟨q,a,.inl e2⟩
def fB (X:Cx) (scope:Scope) (N':WF) (s:Wx) (H:Hp) (fp:WH):Cx where
 prog:=X.prog
 w:=X.w
 K:=X.K
 mg:=X.mg
 base:=X.base
 A:=X.A
 N:=N'
 s₀:=s
 H₀:=H
 env:=Ju scope s.heap.objs.size X.env
 outer:=X.stack
 stack:=X.stack
 ex:=fp
 calm:=X.calm
 fn:=λx=>decide ((x,NameKind.cell)∈scope.names/\(x,NameKind.free)∉scope.names)
 pn:=[]
 xe:=λ_ _=>False
def sub (n:Nat) (fi:List Nat) (σ:St):St:=List.replicate n none++fi.map λk=>(σ[k]?).join
theorem sub_len (n:Nat) (fi:List Nat) (σ:St):(sub n fi σ).length=n+fi.length:=by simp[sub]
structure lS (X:Cx) (scope:Scope) (N':WF) (n:Nat) (fi:List Nat):Prop where
 kind:scope.kind = .function
 names:∀y∈scope.names,y.2 = .local->scope.names.lookup y.1=some .local
 free:∀y∈scope.names,y.2 = .free->X.env.kindOf y.1=some .cell\/X.env.kindOf y.1=some .free
 len:N'.length=n+fi.length
 at':∀(j:Nat) (k:Nat),fi[j]? = some k->∃x,N'[n+j]? = some x/\X.N[k]? = some x/\scope.names.lookup x=some .free/\(x,NameKind.cell)∉scope.names
theorem J1 {M:Model}{A:Zc}{E:Wy->Wx->Prop}{s:Wx}{scope:Scope}{globals:Za}{j:List (Str×Za)}{qual:Str}{env:Env}{Q:Env->Wx->Prop}
  (h:∀h',h'.Ns s.heap.objs.size (λ_=>none)->(∀b o,s.heap.get? b=some o->h'.get? b=some o)->CellsOk h' (s.heap.objs.size+1) (cellsFrom (s.heap.objs.size+1) scope.names []) ->
   Q { scope,locals:=s.heap.objs.size,globals,cells:=cellsFrom (s.heap.objs.size+1) scope.names j,qual,func:=none,code:=env.code,frame:=env.frame,builtins:=env.builtins } { s with heap:=h' }) :
  Zh M A (newFunctionEnv scope globals j [] qual none .none (some env)) Q E s:=by
 have a:(s.heap.push { cls:=.type "dict",data:=.dict #[] }).objs.size=s.heap.objs.size+1:=YZ ..;have c:∀b o,s.heap.get? b=some o->(s.heap.push { cls:=.type "dict",data:=.dict #[] }).get? b=some o:=λb o e=>Wu _ e;have d:=Heap.Ns.new s.heap (.type "dict");simp only[newFunctionEnv,if_true,Option.isSome_some];refine Ww (wpAny_alloc ?_);generalize s.heap.push { cls:=.type "dict",data:=.dict #[] }=h1 at a c d;have k:CellsOk h1 (s.heap.objs.size+1) []:=⟨(λ_ _ z=>by cases z),List.Pairwise.nil⟩;have f:=cellsFrom_ok scope.names h1 _ [] k (VX a.symm);have g:=pushCells_keeps scope.names h1;rw[a]at f;refine Ww (wpAny_layCells _ (λ_ i _=>?_) scope.names j { s with heap:=h1 } _ (Ww (Wv (Wv ?_))))
 ·cases e:i == NameKind.cell <;> simp[e]
 ·show Q { scope,locals:=s.heap.objs.size,globals,cells:=cellsFrom h1.objs.size scope.names j,qual,func:=none,code:=env.code,frame:=env.frame,builtins:=env.builtins } _;rw[a];exact h _ (d.keeps g) (λb o e=>g b o (c b o e)) f
section
variable {X:Cx}{pins:List (Za×Obj)}{σ:St}{H:Hp}{s:Wx}{scope:Scope}{N':WF}{n:Nat}{fi:List Nat}{fp:WH}{h':Heap}
theorem lS.Ld (S:lS X scope N' n fi) (ok:X.Ok):∀y∈scope.names,y.2 = .free->∃c,X.env.cells.lookup y.1=some c:=λy hy hk=>ok.has _ (S.free y hy hk)
theorem jw {C:Za}{x:Str}{c:Za} (h:(Ju scope C X.env).cells.lookup x=some c):(cellsFrom (C+1) scope.names []).lookup x=some c\/X.env.cells.lookup x=some c:=by
 have a:(cellsFrom (C+1) scope.names (fX X.env.cells scope.names [])).lookup x=some c:=h;rw[c7]at a;rcases nO a with z | z
 ·exact .inl z
 ·exact .inr (pT _ _ (λ_ _ q=>by cases q) z)
theorem cellsFrom_names {x:Str}{c:Za}:∀(names:List (Str×NameKind)) (k:Nat) (acc:List (Str×Za)),(x,c)∈cellsFrom k names acc->(x,NameKind.cell)∈names\/(x,c)∈acc
 | [],_,_,h=>.inr h
 | (y,q)::r,k,acc,h=>by
  unfold cellsFrom at h
  split at h
  ·rename_i hq;have a:q = .cell:=by simpa using hq
   subst a;rcases cellsFrom_names r _ _ h with z | z
   ·exact .inl (TC _ z)
   ·rcases TM.mp z with e | z
    ·cases e;exact .inl TH
    ·exact .inr z
  ·rcases cellsFrom_names r _ _ h with z | z
   ·exact .inl (TC _ z)
   ·exact .inr z
theorem EL (I:Inv X pins σ H s) (S:lS X scope N' n fi) (J:∀b∈fp,cg X pins H b) (ho:∀b∈fp,∃o,s.heap.get? b=some o)
  (Q:h'.Ns s.heap.objs.size (λ_=>none)) (t:∀b o,s.heap.get? b=some o->h'.get? b=some o) (hc:CellsOk h' (s.heap.objs.size+1) (cellsFrom (s.heap.objs.size+1) scope.names [])) :
  Inv (fB X scope N' s H fp) [] (sub n fi σ) H { s with heap:=h' }:=by
 have F:∀{b:Za}{o:Obj},s.heap.get? b=some o->b<s.heap.objs.size:=λe=>Y2 e;have Dr:∀{x:Str}{c:Za},X.env.cells.lookup x=some c->c<s.heap.objs.size:=λ{x c} e=>by
  obtain⟨v,q⟩:=I.cell x c e;exact q.lt
 have w:∀{x:Str}{c:Za},(cellsFrom (s.heap.objs.size+1) scope.names []).lookup x=some c->h'.IsCell c none/\s.heap.objs.size+1<=c:=λ{x c} e=>hc.empty x c (Yq e);refine⟨⟨I.ok.mod,S.kind,I.ok.glob,I.ok.blt,Tw _,λx y c j g=>?_,λx E=>?_,λx c E h=>?_,I.ok.hd,I.ok.frames,.inl rfl,λb a=>?_,λb o e=>?_,?_,λb o e a=>?_,λb a hz=>?_,I.stack,I.Ck⟩,
  rfl,I.bare,Un.kept t,⟨_,Q,λi x v j g T=>?_⟩,λx c h=>?_,I.hok.fresh (Tw _),λx c h=>?_,λp hp=>absurd (show p∈([]:List (Za×Obj))from hp) (by simp),I.hok.kept t,?_⟩
 ·rcases jw j with z1 | z1 <;> rcases jw g with z2 | z2
  ·exact name_of_addr hc.apart (Yq z1) (Yq z2)
  ·exact absurd (Vn (Dr z2) (w z1).2) (Uz _)
  ·exact absurd (Vn (Dr z1) (w z2).2) (Uz _)
  ·exact I.ok.inj x y c z1 z2
 ·have E:(relabel scope X.env).names.lookup x=some .cell\/(relabel scope X.env).names.lookup x=some .free:=E;have go:∀k,(relabel scope X.env).names.lookup x=some k->(k = .cell\/k = .free)->∃c,(cellsFrom (s.heap.objs.size+1) scope.names (fX X.env.cells scope.names [])).lookup x=some c:=λk e t=>by
   obtain⟨B,A,Y⟩:=qR e;have:B = .cell\/B = .free:=by
    rcases Y with z | z
    ·rw[z];exact t
    ·exact .inr z.1
   rcases this with z | z
   ·exact bH _ _ _ (.inr (z ▸ A))
   ·exact bH _ _ _ (.inl (pH _ _ (.inr ⟨z ▸ A,S.Ld I.ok (x,B) A z⟩)))
  rcases E with z | z
  ·exact go _ z (.inl rfl)
  ·exact go _ z (.inr rfl)
 ·have hx':(x,NameKind.cell)∈scope.names/\(x,NameKind.free)∉scope.names:=Zm E;have j:(cellsFrom (s.heap.objs.size+1) scope.names (fX X.env.cells scope.names [])).lookup x=some c:=h;rw[c7]at j;obtain⟨d,G⟩:=bH (x:=x) scope.names (s.heap.objs.size+1) [] (.inr hx'.1);have K:(cellsFrom (s.heap.objs.size+1) scope.names []++fX X.env.cells scope.names []).lookup x=some d:=by
   have U:∀(l L:List (Str×Za)),l.lookup x=some d->(l++L).lookup x=some d:=by
    intro l
    induction l with
    | nil=>intro L q;cases q
    | cons p r P=>
     obtain⟨n,q⟩:=p;intro L e;rw[U9,UB];rw[UB]at e;cases a:x == n with
     | true=>rw[a]at e;exact e
     | false=>rw[a]at e;exact P L e
   exact U _ _ G
  rw[j]at K;cases K;exact UH (w G).2
 ·refine⟨?_,λx c e z=>?_⟩
  ·obtain⟨o,e⟩:=ho b a;exact T5 (F e)
  ·obtain⟨o,eo⟩:=ho b a;rcases jw e with q | q
   ·have j:=(w q).2;have g:=F eo;rw[z]at j;exact Uz _ (Vn g j)
   ·exact(J b a).2.2.2.2.1 x c q z
 ·exact I.bs b o e
 ·exact TN I.ok.bsz I.sz
 ·rcases(J b a).2.2.2.1 with z | z
  ·exact I.ok.G0 b o e z
  ·exact absurd (T9 (Y2 (I.ok.bs b o e).1) z) (Uz _)
 ·rcases TM.mp (I.BS b hz)with z | z
  ·exact(J b a).2.1 z
  ·exact(J b a).2.2.1 z
 ·have hi:n<=i:=by
   by_cases hi:n<=i
   ·exact hi
   ·unfold sub at g;rw[Ui (by simp;lia),VV]at g
    split at g <;> cases g
  have f:(fi.map λk=>(σ[k]?).join)[i - n]? = some (some v):=by
   unfold sub at g;rw[Uy (by simpa using hi)]at g;simpa using g
  rw[TF]at f;cases ek:fi[i - n]? with
  | none=>rw[ek]at f;cases f
  | some k=>
   rw[ek]at f;have M:(σ[k]?).join=some v:=Yr f;have N:σ[k]? = some (some v):=by
    cases q:σ[k]? with
    | none=>rw[q]at M;cases M
    | some _=>rw[q]at M;exact congrArg some M
   obtain⟨x',e1,K,m,e4⟩:=S.at' (i - n) k ek;have Z:N'[i]? = some x':=by rw[<-e1];congr 1;lia
   have C:N'[i]? = some x:=j;rw[Z]at C;cases C;have A:(x,NameKind.free)∈scope.names:=by
    generalize scope.names=l at m
    induction l with
    | nil=>cases m
    | cons p r P=>
     obtain⟨n',q⟩:=p;rw[UB]at m;cases a:x == n' with
     | true=>rw[a]at m;cases m;rw[beq_iff_eq.mp a];exact TH
     | false=>rw[a]at m;exact TC _ (P m)
   have kx:=S.free _ A rfl;have O:Vis X.env.scope x:=kx.elim (λz=>.inr (.inl z)) λz=>.inr (.inr z);obtain⟨m0,_,W⟩:=I.loc;obtain⟨u,ru,U⟩:=W k x v K N O;refine⟨u,ru,.inr ⟨?_,?_⟩⟩
   ·have T:Vis (relabel scope X.env) x:=T;rcases T with z | z | z
    ·obtain⟨B,R,V⟩:=qR z;rcases V with q | q
     ·exfalso;have:=S.names (x,B) R (by rw[q]);rw[show scope.names.lookup x=some .free from m]at this;cases this
     ·cases q.2.1
    ·exact .inl z
    ·exact .inr z
   ·rcases U with⟨kl,_⟩ | ⟨_,c,ec,wV⟩
    ·rcases kx with z | z <;> (rw[show X.env.kindOf x=_ from kl]at z;cases z)
    ·refine⟨c,?_,wV.keeps t⟩;show(cellsFrom (s.heap.objs.size+1) scope.names (fX X.env.cells scope.names [])).lookup x=some c;obtain⟨d,G⟩:=bH (x:=x) scope.names (s.heap.objs.size+1) (fX X.env.cells scope.names []) (.inl (pH _ _ (.inr ⟨A,c,ec⟩)));rw[G];have D:=G;rw[c7]at D;rcases nO D with z | z
     ·rcases cellsFrom_names _ _ _ (Yq z)with q | q
      ·exact absurd q e4
      ·cases q
     ·have:=pT _ _ (λ_ _ q=>by cases q) z;rw[ec]at this;exact this.symm
 ·rcases jw h with z | z
  ·exact⟨none,(w z).1⟩
  ·obtain⟨v,q⟩:=I.cell x c z;exact⟨v,q.keeps t⟩
 ·rcases jw h with z | z
  ·exact I.hok.fresh (UH (w z).2)
  ·exact I.kO x c z
 ·show(sub n fi σ).length=N'.length;rw[sub_len,S.len]
end
def EJ (X:Cx) (ifs:List Expr) (t:TT):Prop:=
 ∀(pins:List (Za×Obj)) (s:Wx) (σ:St) (H:Hp) (Q:Bool->Hp->Prop),Inv X pins σ H s->t σ H Q ->
  Zh (model X.prog X.w) X.A (forIn ifs true λc r=>if r=true then do let ok <-isTrue c X.env (eval c X.env);pure (ForInStep.yield ok)else pure (ForInStep.yield r)) (TP X pins σ Q) X.xe s
def MY:TT:=λ_ H Q=>Q true H
theorem aP {X:Cx}:EJ X [] MY:=λ_ _ _ H _ I h=>wpAny_tests_nil ⟨H,I,h⟩
theorem jm {X:Cx}{c:Expr}{t:TT} (h:PT X c t):EJ X [c] t:=λpins s σ H Q I q=>wpAny_tests_one (h pins s σ H Q I q)
def sP (g:TG) (tt:TT) (te:TE) (J:It) (D:Za) (Q:VK) (σ:St) (H:Hp):Prop:=
 ∃W:Nat->Nat->St->Hp->Prop,(∃m,W 0 m σ H)/\∀i m σ H,W i m σ H ->
  (J.stop i H/\Q (.ref D) H)\/(J.go i H/\∃N:St->Hp->Prop,(∀σ' H',N σ' H'->∃m',m' < m/\W (i+1) m' σ' H') /\
   ∀x H',J.yld i H x H'->g x σ H' λσ2 H2=>tt σ2 H2 λb H3=>if b=true then te σ2 H3 λv H4=>∃xs,H4 D=some (.lst xs)/\xs.length<Zg/\N σ2 (upd H4 D (.lst (xs++[v])))else N σ2 H3)
def GG (wi:TI) (g:TG) (tt:TT) (te:TE) (n:Nat) (fi:List Nat):TE:=λσ H Q=>
 wi σ H λJ H1=>∀D,H1 D=none->sP g tt te J D Q (sub n fi σ) (upd H1 D (.lst []))
section
variable {X:Cx}{elt tg iter:Expr}{ifs:List Expr}{scope:Scope}{pos:Pos}
theorem DJ {Y:Cx}{g:TG}{tt:TT}{te:TE}{J:It}{D it:Za}{fp:WH}{F:Nat->Heap->Prop}{Qr:VK}{σ:St}{H:Hp}{s:Wx} (hc:Y.calm=true) (h:∀e s,¬ Y.xe e s)
  (hg:PG Y tg g) (hi:EJ Y ifs tt) (he:PE Y elt te) (T:Turn Y.prog Y.w Y.K tg J fp it F) (I:Inv Y [] σ H s) (st:F 0 s.heap) (V:∀b∈fp,cg Y [] H b) (hw:sP g tt te J D Qr σ H) :
  codeAny (model Y.prog Y.w) Y.A (.compLoop (.ListComp elt [⟨tg,iter,ifs,0⟩] scope pos) 0 (.ref it) (.ref D) Y.env) (λr s'=>r = .ok .next/\∃σ' H',Inv Y [] σ' H' s'/\Qr (.ref D) H') s:=by
 obtain⟨W,⟨m0,w0⟩,t⟩:=hw;have M:∀{H':Hp},(∀b∈fp,H' b=none)->∀b∈fp,cg Y [] H' b:=λhn b j=>⟨hn b j,(V b j).2⟩;refine codeAny_loop rfl (λn s'=>∃i σ' H',Inv Y [] σ' H' s'/\F i s'.heap/\(∀b∈fp,H' b=none)/\W i n σ' H') ?_ m0 ⟨0,σ,H,I,st,λb j=>(V b j).1,w0⟩;rintro n O ⟨i,c,E,S,y,B,w3⟩;show Zh _ Y.A ((compTurn (.ListComp elt [⟨tg,iter,ifs,0⟩] scope pos) 0 (.ref it) (.ref D) Y.env).onRaise (λx=>do noteFrame x Y.env;theTreesLotGoes x)) _ _ O;refine wpAny_noted ?_;rw[compTurn_list]
 (refine Ww (wpAny_standAt (Ww ?_)))
 rcases t i n c E w3 with⟨v,qn⟩ | ⟨go,N,hN,C⟩
 ·refine thn (T.done Y rfl rfl rfl hc i [] O c E _ S (M B) y v) λr s4 ⟨P,I4⟩=>?_;subst P;exact Wv ⟨rfl,c,E,I4,qn⟩
 ·refine thn (T.item Y rfl rfl rfl hc i [] O c E _ S (M B) y go) λr s4 ⟨u,P,h4⟩=>?_;subst P;refine Ww (thn h4 λ_ Q ⟨x,Z,I5,r5,y5,l,G⟩=>?_);have L:=I5.pinned (M G) (T.obj _ _ l);have GD:∀{a:St}{k:Hp}{p:Wx},Inv Y ([]++tM fp Q.heap) a k p->N a k->∃m,m<n/\∃i σ' H',Inv Y [] σ' H' p/\F i p.heap/\(∀b∈fp,H' b=none)/\W i m σ' H':=λ{a k p} q n7=>by
   obtain⟨m',hm,w7⟩:=hN a k n7;refine⟨m',hm,i+1,a,k,q.iB,T.keep _ _ _ l λb j o e=>(q.pin (b,o) (Ua _ (Ua _ (jT j e)))).1,λb j=>?_,w7⟩;obtain⟨o,e,d⟩:=T.obj _ _ l b j;exact(q.pin (b,o) (Ua _ (Ua _ (jT j e)))).2.1
  refine Ww (Wt (hg _ Q c Z x u _ L r5 (C x Z y5)) (λ_ s6 ⟨f,H6,I6,q6⟩=>?_) λe s' z=>(h e s' z).elim);refine Ww (Wt (hi _ s6 f H6 _ I6 q6) (λok p ⟨k,q,U⟩=>?_) λe s' z=>(h e s' z).elim);cases ok with
  | false=>
   exact Wv ⟨rfl,GD q U⟩
  | true=>
   refine Ww (Ww (Wt (he _ p f k _ q U) (λu8 s8 ⟨v8,H8,I8,r8,xs,e8,z8,n8⟩=>?_) λe s' z=>(h e s' z).elim));refine Ww (Wt (fH (X:=Y) _ s8 f H8 (.ref D) [v8] (.ref D) [u8] (λ_ R=>N f R) I8 rfl (.cons r8 .nil) ⟨D,xs,v8,rfl,rfl,e8,z8,n8⟩) (λ_ _ h9=>?_) λe s' z=>(h e s' z).elim);obtain⟨_,R,I9,_,n9⟩:=h9;exact Wv (Wv ⟨rfl,GD I9 n9⟩)
theorem Inv.letGo {pins:List (Za×Obj)}{σ:St}{H:Hp}{s:Wx}{C:Za}{h':Heap} (I:Inv X pins σ H s) (h:Yw C s.heap h') (d:H C=none) (a:X.s₀.heap.objs.size<=C) (hL:C≠X.env.locals)
  (h2:∀x c,X.env.cells.lookup x=some c->c≠C) (f:∀p∈X.pn++pins,p.1≠C):Inv X pins σ H { s with heap:=h' }:=
 I.turned (t':=s.toks) (λb o g e=>h.extBut b o g e) d hL (.inr a) h2 f
theorem vE {N':WF}{n:Nat}{fi:List Nat}{wi:TI}{g:TG}{tt:TT}{te:TE}{use:Option (Wy->Sem Unit)}{Q:Wy->Wx->Prop}{Z:VK}{Rn:Pos}{pins:List (Za×Obj)}{σ:St}{H:Hp}{s:Wx}
  (Al:X.calm=true) (S:lS X scope N' n fi) (M:∀R,wi σ H R->Zh (model X.prog X.w) X.A (eval iter X.env) (λv s1=>Zh (model X.prog X.w) X.A (pyIter v) (PIE X pins σ tg R) X.xe s1) X.xe s)
  (hg:∀s H fp,PG (fB X scope N' s H fp) tg g) (hi:∀s H fp,EJ (fB X scope N' s H fp) ifs tt) (he:∀s H fp,PE (fB X scope N' s H fp) elt te)
  (I:Inv X pins σ H s) (hw:GG wi g tt te n fi σ H Z) (hs:∀x,foldedSetIterable iter X.env x=pure x)
  (k:∀(D C:Za) (s':Wx) (H':Hp) (m:Str->Option Wy),Inv X pins σ H' s'->s'.heap.Ns C m->H' C=none->X.s₀.heap.objs.size<=C->C≠X.env.locals->(∀x c,X.env.cells.lookup x=some c->c≠C)->(∀p∈X.pn++pins,p.1≠C)->Z (.ref D) H' ->
   compPost (model X.prog X.w) X.A X.xe use Q (.ref D) C (.ok .next) s') :
  Zh (model X.prog X.w) X.A (comprehension (.ListComp elt [⟨tg,iter,ifs,0⟩] scope pos) scope X.env Rn (newList []) false (eval iter X.env) use) Q X.xe s:=by
 refine wpAny_comprehension_free (use:=use) (g:=⟨tg,iter,ifs,0⟩) (gs:=[]) rfl hs (tG (S.Ld I.ok)) S.kind S.names ?_;refine thn (M _ hw) λv s1 h1=>thn h1 λ_ s2 h2=>?_;obtain⟨it,fp,tn,J,d,e,V,T,E,j,U⟩:=h2;subst e;refine wpAny_newList ?_ (T2 _);have hD:d s2.heap.objs.size=none:=V.hok.fresh (Tw _);have i:Inv X pins σ (upd d s2.heap.objs.size (.lst [])) { s2 with heap:=s2.heap.push { cls:=.type "list",data:=.seq ([]:WJ).toArray } }:=
  V.laid (t':=s2.toks) (λb u e=>Wu _ e) (Tw _) ⟨T2 _,[],0,.nil,Y1 _ rfl⟩
 have N:=U _ hD;have t:Un (frs X.stack) fp d (upd d s2.heap.objs.size (.lst [])) s2.heap (s2.heap.push { cls:=.type "list",data:=.seq ([]:WJ).toArray }):=
  Un.laid (λb u e=>Wu _ e) (Tw _) hD
 generalize hs3:({ s2 with heap:=s2.heap.push { cls:=.type "list",data:=.seq ([]:WJ).toArray } }:Wx)=s3 at i ⊢;have f:s3.heap=s2.heap.push { cls:=.type "list",data:=.seq ([]:WJ).toArray }:=by rw[<-hs3]
 have W:s3.os=s2.os:=by rw[<-hs3]
 have a0:s3.heap.objs.size=s2.heap.objs.size+1:=by rw[f,YZ]
 rw[<-f]at t;have K:∀b,b≠s2.heap.objs.size->upd d s2.heap.objs.size (.lst []) b=d b:=λb a=>ao a;generalize upd d s2.heap.objs.size (.lst [])=H3 at *;have La:∀b∈fp,∃o,s2.heap.get? b=some o:=λb a=>let ⟨o,e,_⟩:=T.obj _ _ E b a;⟨o,e⟩;have F:∀b u,s2.heap.get? b=some u->s3.heap.get? b=some u:=λb u e=>by rw[f];exact Wu _ e
 have Qa:∀b∈fp,cg X pins H3 b:=λb a=>by
  obtain⟨o,e⟩:=La b a;exact⟨(K b (T5 (Y2 e))).trans (j b a).1,(j b a).2⟩
 refine J1 λh4 O hk hc=>?_;show codeAny _ _ (.compStart _ 0 _ _ (Ju scope s3.heap.objs.size X.env)) _ _;have G:=EL i S Qa (λb a=>let ⟨o,e⟩:=La b a;⟨o,F b o e⟩) O hk hc;have L:∀b∈fp,cg (fB X scope N' s3 H3 fp) [] H3 b:=λb a=>⟨(Qa b a).1,(G.ok.exf b a).1,G.ok.Io b a,.inl a,(G.ok.exf b a).2,λp P=>absurd (show p∈([]:List (Za×Obj))from P) (by simp)⟩;have B:tn 0 h4:=T.keep _ _ _ E λb a o e=>hk b o (F b o e);have l:=DJ (Y:=fB X scope N' s3 H3 fp) (elt:=elt) (tg:=tg) (iter:=iter) (ifs:=ifs) (scope:=scope) (pos:=pos) Al (λ_ _ z=>z) (hg s3 H3 fp) (hi s3 H3 fp) (he s3 H3 fp) T G B L N;have y:codeAny (model X.prog X.w) X.A (.compLoop (.ListComp elt [⟨tg,iter,ifs,0⟩] scope pos) 0 (.ref it) (.ref s2.heap.objs.size) (Ju scope s3.heap.objs.size X.env)) (compPost (model X.prog X.w) X.A X.xe use Q (.ref s2.heap.objs.size) s3.heap.objs.size) { s3 with heap:=h4 }:=by
  refine codeAny_mono l λr s' ⟨hr,_,H',h,q5⟩=>?_;subst hr;have u5:Un (frs X.stack) fp H3 H' s3.heap s'.heap:=h.base;have I5:Inv X pins σ H' s':=V.Pw (ch:=fp) (h.os.trans W) (t.trans u5) h.hok h.bare λb a=>⟨(j b a).2.2.2.1,(j b a).2.1,(j b a).2.2.2.2.1,(j b a).2.2.2.2.2⟩;obtain⟨m,hm,_⟩:=h.loc;refine k _ _ s' H' m I5 hm h.free i.sz (Vl i.lt) (λx c e=>?_) (λp P=>?_) q5
  ·obtain⟨v,q⟩:=i.cell x c e;exact T5 q.lt
  ·exact T5 (Y2 (i.pin p P).1)
 exact codeAny_compStart_list y (T.self _ 0 _ _ _ B y)
theorem ba {N':WF}{n:Nat}{fi:List Nat}{wi:TI}{g:TG}{tt:TT}{te:TE} (t:X.calm=true) (S:lS X scope N' n fi) (b:PI X tg iter wi)
  (j:∀s H fp,PG (fB X scope N' s H fp) tg g) (hi:∀s H fp,EJ (fB X scope N' s H fp) ifs tt) (p:∀s H fp,PE (fB X scope N' s H fp) elt te)
  (d:∀x,foldedSetIterable iter X.env x=pure x:=by intro _;rfl):PE X (.ListComp elt [⟨tg,iter,ifs,0⟩] scope pos) (GG wi g tt te n fi):=by
 intro a s u H Q I h;rw[eval_ListComp];refine vE (use:=none) t S (λR z=>b a s u H R I z) j hi p I h d λD C _ k m e f r i hL o l q=>⟨m,f,λ_ c=>?_⟩;exact⟨.ref D,k,e.letGo c r i hL o l,rfl,q⟩
theorem mD {N':WF}{n i:Nat}{fi:List Nat}{wi:TI}{g:TG}{tt:TT}{te:TE}{x:Str}{pos' p:Pos} (J:X.N.Nodup) (f:X.N[i]? = some x) (hx:Loc X.env.scope x) (P:X.calm=true) (S:lS X scope N' n fi) (d:PI X tg iter wi)
  (B:∀s H fp,PG (fB X scope N' s H fp) tg g) (hi:∀s H fp,EJ (fB X scope N' s H fp) ifs tt) (K:∀s H fp,PE (fB X scope N' s H fp) elt te)
  (k:swapsWith (.ListComp elt [⟨tg,iter,ifs,0⟩] scope pos) (some (.Name x pos')) p.line X.env=pure true:=by rfl)
  (t:∀x,foldedSetIterable iter X.env x=pure x:=by intro _;rfl) (E:X.fn x=true\/X.env.scope.names.lookup x=some .local:=by first | exact .inl rfl | exact .inr rfl | assumption) :
  PS X (.Assign [.Name x pos'] (.ListComp elt [⟨tg,iter,ifs,0⟩] scope pos) p) (LI (GG wi g tt te n fi) (aX i)):=by
 intro b s T H D I h
 (rw[exec_Assign_Name_used _ _ _ _ k])
 (refine Ww (wpAny_standAt (Ww ?_)))
 show Zh _ X.A (do let _ <-comprehension (.ListComp elt [⟨tg,iter,ifs,0⟩] scope pos) scope X.env _ (newList []) false (eval iter X.env) (some (assign (.Name x pos') X.env))) _ _ s;refine Ww (thn (vE (use:=some (assign (.Name x pos') X.env)) (Q:=λ_ c=>SP X b D .next c) P S (λR z=>d b s T H R I z) B hi K I h t λr C c F m u w O y hL o G q=>?_) λ_ c q=>Wv (Wv q));show Zh _ _ (assign (.Name x pos') X.env (.ref r)) _ _ c;refine wpAny_assign_Name (wb (v:=.ref r) u J f hx rfl (λ_ L ⟨a,e,M⟩=>?_) E);have j:C≠a:=by
  rcases M with z | z
  ·rw[z];exact hL
  ·exact(o x a z).symm
 exact⟨m,w.sameBut e j,λ_ l=>⟨_,F,L.letGo l O y hL o G,q⟩⟩
end
section
variable {X:Cx}
theorem Inv.eZ {pins:List (Za×Obj)}{σ:St}{H:Hp}{s:Wx}{h':Heap}{t':Nat}{wr:WH} (I:Inv X pins σ H s) (d:∀b∈wr,cg X pins H b) (k:∀b o,b∉wr->s.heap.get? b=some o->h'.get? b=some o) :
  Inv X pins σ H { s with heap:=h',toks:=t' }:=by
 have f:∀b u,H b=some u->b∉wr:=λb u e z=>by rw[(d b z).1]at e;cases e
 refine I.step (g':=s.gens) (d':=s.drawn) (ch:=wr) (λb g=>⟨(d b g).2.2.2.1,(d b g).2.1,(d b g).2.2.2.2.1,(d b g).2.2.2.2.2⟩) (λb o _ _ a e _=>k b o a e) (λb o _ _ a e _=>⟨o.slots,k b o a e⟩) (λ_ _ _ _ n=>n)
  (λb o a e=>⟨o,k b o a e⟩) (λ_ _ e=>e) (λ_ _ _ e=>e) (λb _ e=>⟨#[],by rw[e];simp⟩) (λm h=>?_) (λb u e=>?_) I.bare
 ·obtain⟨o,i,l,j,r⟩:=h;exact⟨o,i,l,k _ o (λz=>(d _ z).2.1 rfl) j,r⟩
 ·refine(I.hok b u e).gv (λc v a q=>k c v ?_ q) (λ_ q=>q) λ_ _ q=>q;rcases a with z | z
  ·rw[z];exact f b u e
  ·exact f c _ z
theorem Inv.pV {pins:List (Za×Obj)}{σ:St}{H:Hp}{s:Wx}{h':Heap}{t':Nat}{wr:WH}{a:Za}{o:HO} (I:Inv X pins σ H s) (h:∀b∈wr,cg X pins H b) (k:∀b o,b∉wr->s.heap.get? b=some o->h'.get? b=some o)
  (l:s.heap.objs.size<=a) (j:bO X.prog X.w (upd H a o) h' a o):Inv X pins σ (upd H a o) { s with heap:=h',toks:=t' }:=by
 have i:∀b u,H b=some u->b∉wr:=λb u e z=>by rw[(h b z).1]at e;cases e
 have d:H a=none:=I.hok.fresh l;refine I.step (g':=s.gens) (d':=s.drawn) (ch:=wr) (λb f=>⟨(h b f).2.2.2.1,(h b f).2.1,(h b f).2.2.2.2.1,(h b f).2.2.2.2.2⟩) (λb o _ _ g e _=>k b o g e) (λb o _ _ g e _=>⟨o.slots,k b o g e⟩)
  (λb B _ e n=>by rw[ao (T5 (T9 (Y2 e) l))];exact n)
  (λb o g e=>⟨o,k b o g e⟩) (λb A e=>by rw[ao (aw e d)];exact e) (λb B u e=>by rw[ao (aw e d)];exact e) (λb _ e=>⟨#[],by rw[ao (aw e d),e];simp⟩) (λm p=>?_) (λb u e=>?_) I.bare
 ·obtain⟨o,t,y,x,r⟩:=p;exact⟨o,t,y,k _ o (λz=>(h _ z).2.1 rfl) x,r⟩
 ·by_cases f:b=a
  ·subst f;rw[ab]at e;cases e;exact j
  ·rw[ao f]at e;refine(I.hok b u e).gv (λc v g q=>k c v ?_ q) (λc q=>by rw[ao (aw q d)];exact q) λc A q=>by rw[ao (aw q d)];exact q
   rcases g with z | z
   ·rw[z];exact i b u e
   ·exact i c _ z
end
mutual
inductive Den (K:Wz) (H:Hp):V->Zf->Prop
 | non:Den K H .non .none
 | bl (b:Bool):Den K H (.bl b) (.bool b)
 | int (i:Int):Den K H (.int i) (.int i)
 | str {x:Str} (h:Y5 x=true):Den K H (.str x) (.str x)
 | lst {a:Za}{xs:WD}{ds:WI} (h:SqL K H a xs) (t:aC K H xs ds):Den K H (.ref a) (.list ds)
 | tup {a:Za}{xs:WD}{ds:WI} (h:SqT K H a xs) (t:aC K H xs ds):Den K H (.ref a) (.tuple ds)
inductive aC (K:Wz) (H:Hp):WD->WI->Prop
 | nil:aC K H [] []
 | cons {x:V}{xs:WD}{d:Zf}{ds:WI} (h:Den K H x d) (t:aC K H xs ds):aC K H (x::xs) (d::ds)
end
section
variable {K:Wz}{H H':Hp}
theorem aC.length:∀{xs:WD}{ds:WI},aC K H xs ds->xs.length=ds.length
 | _,_,.nil=>rfl
 | _,_,.cons _ t=>by rw[TR,TR,t.length]
theorem aC.append:∀{xs ys:WD}{ds es:WI},aC K H xs ds->aC K H ys es->aC K H (xs++ys) (ds++es)
 | _,_,_,_,.nil,s=>s
 | _,_,_,_,.cons r t,s=>.cons r (t.append s)
theorem aC.get:∀{xs:WD}{ds:WI}{i:Nat}{x:V},aC K H xs ds->xs[i]? = some x->∃d,ds[i]? = some d/\Den K H x d
 | _,_,_,_,.nil,e=>by simp at e
 | _,_,0,_,.cons r _,e=>by simp at e;subst e;exact⟨_,rfl,r⟩
 | _,_,i+1,x,.cons _ t,e=>by
  obtain⟨u,b,a⟩:=aC.get (i:=i) (x:=x) t (by simpa using e);exact⟨u,by simpa using b,a⟩
theorem aC.getD:∀{xs:WD}{ds:WI}{i:Nat}{d:Zf},aC K H xs ds->ds[i]? = some d->∃x,xs[i]? = some x/\Den K H x d
 | _,_,_,_,.nil,e=>by simp at e
 | _,_,0,_,.cons r _,e=>by simp at e;subst e;exact⟨_,rfl,r⟩
 | _,_,i+1,x,.cons _ t,e=>by
  obtain⟨u,b,a⟩:=aC.getD (i:=i) t (by simpa using e);exact⟨u,by simpa using b,a⟩
mutual
theorem Den.keep (h1:∀a xs,SqL K H a xs->SqL K H' a xs) (h2:∀a xs,SqT K H a xs->SqT K H' a xs):∀{v:V}{d:Zf},Den K H v d->Den K H' v d
 | _,_,.non=>.non
 | _,_,.bl b=>.bl b
 | _,_,.int i=>.int i
 | _,_,.str h=>.str h
 | _,_,.lst h t=>.lst (h1 _ _ h) (aC.keep h1 h2 t)
 | _,_,.tup h t=>.tup (h2 _ _ h) (aC.keep h1 h2 t)
theorem aC.keep (h1:∀a xs,SqL K H a xs->SqL K H' a xs) (h2:∀a xs,SqT K H a xs->SqT K H' a xs):∀{v:WD}{d:WI},aC K H v d->aC K H' v d
 | _,_,.nil=>.nil
 | _,_,.cons r t=>.cons (Den.keep h1 h2 r) (aC.keep h1 h2 t)
end
theorem ae.cU {a:Za}{xs:WD} (e:ae H H') (h:SqT K H a xs):SqT K H' a xs:=by
 rcases h with(h | ⟨o,h⟩) | h
 ·exact .inl (.inl (e _ _ h))
 ·exact .inl (.inr ⟨o,e _ _ h⟩)
 ·exact .inr h
theorem Den.same {v:V}{d:Zf} (e:ae H H') (h:Den K H v d):Den K H' v d:=h.keep (λ_ _ q=>e.seq q) λ_ _ q=>e.cU q
theorem aC.same {v:WD}{d:WI} (e:ae H H') (h:aC K H v d):aC K H' v d:=h.keep (λ_ _ q=>e.seq q) λ_ _ q=>e.cU q
mutual
theorem Den.lay:∀{v:V}{d:Zf},Den K H v d->d.canLay0=true
 | _,_,.non=>rfl
 | _,_,.bl b=>rfl
 | _,_,.int i=>rfl
 | _,_,.str h=>h
 | _,_,.lst h t=>aC.lay t
 | _,_,.tup h t=>aC.lay t
theorem aC.lay:∀{v:WD}{d:WI},aC K H v d->Y4 d=true
 | _,_,.nil=>rfl
 | _,_,.cons r t=>by rw[Y4,Den.lay r,aC.lay t];rfl
end
end
section
variable {X:Cx}{pins:List (Za×Obj)}{σ:St}{H:Hp}{s:Wx}
mutual
theorem Inv.reads (I:Inv X pins σ H s):∀{v:V}{d:Zf}{u:Wy},Den X.K H v d->RelV v u->∃as,Reads s.heap u d as
 | _,_,_,.non,r=>by cases r;exact⟨_,.none⟩
 | _,_,_,.bl b,r=>by cases r;exact⟨_,.bool b⟩
 | _,_,_,.int i,r=>by obtain⟨t,rfl⟩:=r;exact⟨_,.int i t⟩
 | _,_,_,.str (x:=x) h,r=>by obtain⟨t,rfl⟩:=r;exact⟨_,.str x t⟩
 | _,_,_,.lst h t,r=>by
  cases r;obtain⟨a,f,⟨o,n,e,c,_,d⟩,_⟩:=I.list h;obtain⟨as,g⟩:=I.readsAll t f;exact⟨_,.list e c d (by simpa using g)⟩
 | _,_,_,.tup h t,r=>by
  cases r;obtain⟨a,f,⟨o,e,c,n,d⟩,_⟩:=I.tuple h;obtain⟨as,g⟩:=I.readsAll t f;exact⟨_,.tuple e c d (by simpa using g)⟩
theorem Inv.readsAll (I:Inv X pins σ H s):∀{vs:WD}{ds:WI}{us:WJ},aC X.K H vs ds->aO vs us->∃as,ReadsAll s.heap us ds as
 | _,_,_,.nil,.nil=>⟨_,.nil⟩
 | _,_,_,.cons h t,.cons r rr=>by
  obtain⟨as,a⟩:=I.reads h r;obtain⟨_,b⟩:=I.readsAll t rr;exact⟨_,.cons a b⟩
end
def Gd (K:Wz):R2:=λx y H Q=>∃d e,Den K H x d/\Den K H y e/\d.depth<=100/\Q (.bl (Y9 d e)) H
def zT (K:Wz):R2:=λx y H Q=>∃d e,Den K H x d/\Den K H y e/\d.depth<=100/\Q (.bl (!PyData.eqv d e)) H
theorem qO {k a b:Nat}{A:Zc} (hr:bG k A) (h:a<=100):A.units+min a b<cLine:=by
 have:=hr.un;have:min a b<=a:=Nat.min_le_left _ _;lia
theorem yg {k:Nat} (g:bG k X.A):OpR X (compareOp .Eq) (Gd X.K):=by
 intro _ s _ H x y v u Q I c l h;obtain⟨d,e,b,a,f,q⟩:=h;obtain⟨_,j⟩:=I.reads b c;obtain⟨_,i⟩:=I.reads a l;exact SeqAt.compareEq_reads j i b.lay a.lay (qO g f) ⟨.bl _,H,I,rfl,q⟩
theorem nV {k:Nat} (g:bG k X.A):OpR X (compareOp .NotEq) (zT X.K):=by
 intro _ s _ H x y v u Q I c l h;obtain⟨d,e,b,a,f,q⟩:=h;obtain⟨_,j⟩:=I.reads b c;obtain⟨_,i⟩:=I.reads a l;exact SeqAt.compareNe_reads j i b.lay a.lay (qO g f) ⟨.bl _,H,I,rfl,q⟩
theorem wm:∀(l:List (Str×Tok)),aO ((l.map (·.1)).map V.str) (strValues l)
 | []=>.nil
 | p::r=>.cons ⟨p.2,rfl⟩ (wm r)
def Lg:V->WD->Hp->VK->Prop:=λx vs H Q=>∃z y,x = .str z/\vs=[.str y]/\y.length≠0/\z.length+2<=Zg/\∀l,H l=none->Q (.ref l) (upd H l (.lst ((Y6 z y).map V.str)))
theorem split_len (z y:Str) (hz:z.length+2<=Zg):(Builtin.Str.partsBetween z (Builtin.Str.occurrences z y 0 z.length (z.length+1)) y.length).length<=Zg:=by
 have a:=StrLaws.occ_length_le z y 0 z.length (z.length+1)
 (rw[length_partsBetween];lia)
theorem uN:MtR X "str.split" Lg:=by
 intro a s j H x _ v _ Q I k r h;obtain⟨z,y,rfl,rfl,m,p,q⟩:=h;obtain⟨t,rfl⟩:=k;obtain⟨u,rfl,w⟩:=r.one;obtain⟨f,rfl⟩:=w;have i:=split_len z y p;have c:∀(l:List (Str×Tok)) (g:Nat),l.map (·.1)=Y6 z y->EP X a j Q (.ref s.heap.objs.size) { s with heap:=s.heap.push { cls:=.type "list",data:=.seq (strValues l).toArray },toks:=g }:=λl g e=>by
  have n:((Y6 z y).map V.str).length<=Zg:=by
   rw[Tt];unfold Y6
   split
   ·show 1<=Zg;lia
   ·split
    ·show 1<=Zg;lia
    ·exact i
  refine⟨.ref s.heap.objs.size,_,I.laid (o:=.lst ((Y6 z y).map V.str)) (λb _ e=>Wu _ e) (Tw _) ⟨n,strValues l,0,?_,Y1 _ rfl⟩,rfl,q _ (I.hok.fresh (Tw _))⟩;rw[<-e];exact wm l
 have d:(y.length == 0)=false:=by simpa using m
 cases h1:(decide (z.length<y.length) || decide (Builtin.Str.strKind z<Builtin.Str.strKind y))
 ·cases hf:(Builtin.Str.occurrences z y 0 z.length (z.length+1)).isEmpty
  ·refine call_meets F.slot_str_split (typeIs_str _ _ _) F.entry_str_split (F.args_str_split_2 _ _) (meets_str_split_sep z y t f h1 d hf (by lia) i) ?_;show wants (EP X a j Q) X.xe _ { s with toks:=_,heap:=s.heap.push { cls:=.type "list",data:=.seq (strsFrom s.toks (Builtin.Str.partsBetween z (Builtin.Str.occurrences z y 0 z.length (z.length+1)) y.length)).toArray } };rw[strsFrom_eq];exact c (numbered s.toks _) _ ((numbered_texts _ _).trans ((Zo (ne_true_of_eq_false h1)).trans (Zo (ne_true_of_eq_false hf))).symm)
  ·exact call_meets F.slot_str_split (typeIs_str _ _ _) F.entry_str_split (F.args_str_split_2 _ _) (meets_str_split_not_found z y t f h1 d hf)
    (c [(z,t)] s.toks ((Zo (ne_true_of_eq_false h1)).trans (Zn hf)).symm)
 ·exact call_meets F.slot_str_split (typeIs_str _ _ _) F.entry_str_split (F.args_str_split_2 _ _) (meets_str_split_cannot_occur z y t f h1)
   (c [(z,t)] s.toks (Zn h1).symm)
theorem C5:∀{ys:WF}{us:WJ},aO (ys.map V.str) us->∃l:List (Str×Tok),us=strValues l/\l.map (·.1)=ys
 | [],_,.nil=>⟨[],rfl,rfl⟩
 | y::ys,_,.cons r t=>by
  obtain⟨a,rfl⟩:=r;obtain⟨l,rfl,rfl⟩:=C5 t;exact⟨(y,a)::l,rfl,rfl⟩
def rJoin (K:Wz):V->WD->Hp->VK->Prop:=λx vs H Q=>∃z l ys,x = .str z/\vs=[.ref l]/\SqL K H l (ys.map V.str)/\JoinOk z ys=true/\Q (.str (YH z ys)) H
theorem sj:MtR X "str.join" (rJoin X.K):=by
 intro _ s _ H x _ v _ Q I c f h;obtain⟨z,l,_,rfl,rfl,d,a,q⟩:=h;obtain⟨t,rfl⟩:=c;obtain⟨u,rfl,g⟩:=f.one;cases g;obtain⟨_,r,b,_⟩:=I.list d;obtain⟨_,rfl,e⟩:=C5 r;exact SC.join b.isList e a λ_ k=>⟨.str _,H,I.tok _,⟨_,rfl⟩,q⟩
end
mutual
def ltv:Zf->Zf->Bool
 | .int a,.int b=>decide (a<b)
 | .str x,.str y=>decide (x.cps.toList<y.cps.toList)
 | .list xs,.list ys=>aQ xs ys
 | .tuple xs,.tuple ys=>aQ xs ys
 | _,_=>false
def aQ:WI->WI->Bool
 | [],[]=>false
 | [],_::_=>true
 | _::_,[]=>false
 | x::xs,y::ys=>if Y9 x y=true then aQ xs ys else ltv x y
end
mutual
def oF:Zf->Zf->Bool
 | .int _,.int _=>true
 | .str _,.str _=>true
 | .list xs,.list ys=>cD xs ys
 | .tuple xs,.tuple ys=>cD xs ys
 | _,_=>false
def cD:WI->WI->Bool
 | [],_=>true
 | _::_,[]=>true
 | x::xs,y::ys=>if Y9 x y=true then cD xs ys else oF x y
end
theorem cm (x y:Zf) (xs ys:WI):aQ (x::xs) (y::ys)=if Y9 x y=true then aQ xs ys else ltv x y:=by rw[aQ]
theorem gm (x y:Zf) (xs ys:WI):cD (x::xs) (y::ys)=if Y9 x y=true then cD xs ys else oF x y:=by rw[cD]
def Bl (A:Zc) (s:Wx) (y x:Wy) (b:Bool):Prop:=
 ∀(prog:Zd) (w:Ze) (E:Wy->Wx->Prop) (Q:Wy->Wx->Prop),Q (.bool b) s->Zh (model prog w) A (richCompare .Lt y x) Q E s
def pJ (xs ys:WI):Prop:=∀x y,x∈xs->y∈ys->oF x y=true->∀(A:Zc) (s:Wx) (a b:Wy) (as bs:WH),Reads s.heap a x as->Reads s.heap b y bs->x.canLay0=true->y.canLay0=true->A.units+x.depth<cLine->Bl A s a b (ltv x y)
theorem pJ.tail {x y:Zf}{xs ys:WI} (h:pJ (x::xs) (y::ys)):pJ xs ys:=λa b ha hb=>h a b (TC _ ha) (TC _ hb)
section
open PySem.SeqAt
open PySem.AutoSeq1 (wpAny_loadPart')
open PySem.MeetsSeq PySem.MeetsSeq2 PySem.MeetsSeq3
theorem fA {x:Zf}{xs:WI}{k:Nat} (h:k+Y3 (x::xs)<cLine):k+x.depth<cLine:=by
 rw[Y3]at h;have:=Nat.le_max_left x.depth (Y3 xs);lia
theorem og {x:Zf}{xs:WI}{k:Nat} (h:k+Y3 (x::xs)<cLine):k+Y3 xs<cLine:=by
 rw[Y3]at h;have:=Nat.le_max_right x.depth (Y3 xs);lia
theorem xf {k a b:Nat} (h:k+a<cLine):k+min a b<cLine:=by
 have:=Nat.min_le_left a b;lia
def Sq (T:String) (hp:Heap) (a:Za) (its:WG):Prop:=∃n dd sl,hp.get? a=some { cls:=.type T,dict:=dd,data:=.seq its n,slots:=sl }
structure Sqs (hp:Heap) (i:Nat) (its gj:WG) (xs ys:WI):Prop where
 in1:i<=its.size
 in2:i<=gj.size
 r1:∃as,ReadsAll hp (its.toList.drop i) xs as
 r2:∃bs,ReadsAll hp (gj.toList.drop i) ys bs
theorem Cj {its:WG}{i:Nat} (h:its.size<=i):its[((i:Nat):Int).toNat]? = none:=by
 rw[Us];exact UM h
theorem some_at {its:WG}{i:Nat} (h:i<its.size):its[((i:Nat):Int).toNat]? = some its[i]:=by
 rw[Us];exact Uc h
theorem Fq (i:Nat):((i:Int)+1)=((i+1:Nat):Int):=rfl
theorem Sqs.NH {b:Heap}{i:Nat}{its a:WG}{xs ys:WI} (q:Sqs b i its a xs ys):xs.length=its.size - i:=by
 obtain⟨_,r⟩:=q.r1;have:=ReadsAll.length _ _ _ r;rw[VA,T3]at this;exact this.symm
theorem Sqs.PQ {b:Heap}{i:Nat}{its a:WG}{xs ys:WI} (q:Sqs b i its a xs ys):ys.length=a.size - i:=by
 obtain⟨_,r⟩:=q.r2;have:=ReadsAll.length _ _ _ r;rw[VA,T3]at this;exact this.symm
theorem Sqs.over {d:Heap}{i:Nat}{its b:WG}{xs ys:WI} (q:Sqs d i its b xs ys) (h:its.size<=i\/b.size<=i):aQ xs ys=decide (its.size<b.size)/\aQ ys xs=decide (its.size > b.size):=by
 have c:=q.NH;have a:=q.PQ;have e:=q.in1;have f:=q.in2;cases xs with
 | nil=>
  rw[Ut]at c;cases ys with
  | nil=>
   rw[Ut]at a;rw[aQ];exact⟨(Zl (by lia)).symm,(Zl (by lia)).symm⟩
  | cons y ys=>
   rw[TR]at a;rw[aQ,aQ];exact⟨(Zk (by lia)).symm,(Zl (by lia)).symm⟩
 | cons x xs=>
  rw[TR]at c;cases ys with
  | nil=>
   rw[Ut]at a;rw[aQ,aQ];exact⟨(Zl (by lia)).symm,(Zk (by lia)).symm⟩
  | cons y ys=>
   rw[TR]at a;lia
theorem Sqs.next {a:Heap}{i:Nat}{its b:WG}{xs ys:WI} (q:Sqs a i its b xs ys) (h1:i<its.size) (h2:i<b.size):∃x xs' y ys',xs=x::xs'/\ys=y::ys'/\(∃as,Reads a its[i] x as)/\(∃bs,Reads a b[i] y bs)/\Sqs a (i+1) its b xs' ys':=by
 obtain⟨_,_,⟨as,d⟩,bs,c⟩:=q;rw[Um (by rw[T3];exact h1),Array.getElem_toList]at d;rw[Um (by rw[T3];exact h2),Array.getElem_toList]at c;cases d with
 | cons h f=>
  cases c with
  | cons e g=>exact⟨_,_,_,_,rfl,rfl,⟨_,h⟩,⟨_,e⟩,h1,h2,⟨_,f⟩,⟨_,g⟩⟩
theorem zg {x:Zf}{xs:WI} (h:Y4 (x::xs)=true):x.canLay0=true/\Y4 xs=true:=by simpa[Y4]using h
theorem vn (l b:Za) (items r:WG) (xs ys:WI) (K:pJ xs ys) (J:cD xs ys=true) (F:Y4 xs=true) (E:Y4 ys=true) :
  Meets (Builtin.«tuple.__lt__» ⟨[.ref l,.ref b],[]⟩)
   (λA R s=>Sq "tuple" s.heap l items/\Sq "tuple" s.heap b r/\Sqs s.heap 0 items r xs ys/\A.in1.units+Y3 xs<cLine/\R (.ok (.ret (.bool (aQ xs ys)))) s):=
 .of_wp λj w A R s h=>by
  obtain⟨t,g,d,B,C⟩:=s;obtain⟨⟨n,_,_,N⟩,⟨_,_,_,O⟩,⟨_,_,⟨v,k⟩,z,m⟩,P,h⟩:=h;rw[List.drop_zero]at k m;have U:=AutoSeq1.sub_tuple_tuple;have V:items.size=xs.length:=by rw[<-ReadsAll.length _ _ _ k];simp
  have T:r.size=ys.length:=by rw[<-ReadsAll.length _ _ _ m];simp
  wp_walk using wpAny_loadPart' N,wpAny_loadPart' O,wpAny_forIn_list _ (λrest b H=>b.1=none/\H = ⟨t,g,d,B,C⟩/\∃(vs ws:WJ) (xs' ys':WI) (v z:WH),rest=vs.zip ws /\
   ReadsAll t vs xs' v/\ReadsAll t ws ys' z/\pJ xs' ys'/\cD xs' ys' = true/\Y4 xs' = true/\Y4 ys' = true/\A.in1.units+Y3 xs' < cLine/\xs'.length+r.size=ys'.length+items.size/\R (.ok (.ret (.bool (aQ xs' ys')))) ⟨t,g,d,B,C⟩) _
  case turn=>
   rintro⟨y,x⟩ rest b H ⟨q,rfl,vs,ws,xs',ys',v,z,e,p,f,u,c,L,M,o,a,i⟩;cases p with
   | nil=>rw[List.zip_nil_left]at e;cases e
   | @cons v0 vs0 d0 ds0 as0 as1 r1 hvi'=>
    cases f with
    | nil=>rw[List.zip_nil_right]at e;cases e
    | @cons w0 ws0 e0 es0 bs0 bs1 r2 hwi'=>
     rw[U2]at e;injection e with hyx hrest;injection hyx with hy hx;subst hy hx;rw[cm]at i;rw[gm]at c;have D:d0.canLay0=true/\Y4 ds0=true:=by simpa[Y4]using L
     have I:e0.canLay0=true/\Y4 es0=true:=by simpa[Y4]using M
     simp only[TR]at a;have Q:=eqAt_reads d0 e0 A.in1 ⟨t,g,d,B,C⟩ y x as0 bs0 r1 r2 D.1 I.1 (xf (fA o));refine Ww (Q j w _ _ ?_);cases hq:Y9 d0 e0 with
     | true=>
      rw[hq,Zn rfl]at i c
      wp_walk
      exact⟨rfl,rfl,_,_,_,_,_,_,hrest,hvi',hwi',u.tail,c,D.2,I.2,og o,by lia,i⟩
     | false=>
      rw[hq,Zo TQ]at i c;have G:=u d0 e0 TH TH c A.in1 ⟨t,g,d,B,C⟩ y x as0 bs0 r1 r2 D.1 I.1 (fA o) j w
      wp_walk using G
      exact⟨_,rfl,by simpa using i⟩
  case fin=>
   rintro⟨_,_⟩ H ⟨q,rfl,vs,ws,xs',ys',v,z,e,p,f,_,_,_,_,_,a,i⟩;simp only at q;subst q;have S:aQ xs' ys' = decide (items.size<r.size):=by
    cases p with
    | nil=>
     cases f with
     | nil=>
      simp only[Ut]at a;rw[aQ];exact(Zl (by lia)).symm
     | cons _ _=>
      simp only[Ut,TR]at a;rw[aQ];exact(Zk (by lia)).symm
    | cons _ _=>
     cases f with
     | nil=>
      simp only[Ut,TR]at a;rw[aQ];exact(Zl (by lia)).symm
     | cons _ _=>
      rw[U2]at e;cases e
   rw[S]at i
   wp_walk
   exact⟨_,rfl,by simpa[Builtin.Tuple.tupleCompareSizes]using i⟩
  case h=>
   exact⟨rfl,rfl,items.toList,r.toList,xs,ys,v,z,rfl,k,m,K,J,F,E,P,by lia,h⟩
theorem x9 (l b:Za) (items o:WG) (k:Nat):∀(i:Nat) (xs ys:WI),items.size - i=k->pJ xs ys->cD xs ys=true->Y4 xs=true->Y4 ys=true ->
  Meets (Builtin.«list.__eq__.loop» ⟨[.ref l,.ref b,rawInt i,rawInt 0],[]⟩)
   (λA R s=>Sq "list" s.heap l items/\Sq "list" s.heap b o/\Sqs s.heap i items o xs ys/\A.in1.units+Y3 xs<cLine/\R (.ok (.ret (.bool (aQ xs ys)))) s):=by
 induction k with
 | zero=>
  intro i xs ys P _ _ _ _ a w A R s h;obtain⟨M,g,d,J,L⟩:=s;obtain⟨⟨n,U,S,c⟩,⟨T,t,q,e⟩,m,_,h⟩:=h;rw[(m.over (.inl (by lia))).1]at h
  wp_walk using wpAny_loadPart' c,wpAny_loadPart' e
  rw[Cj (its:=items) (i:=i) (by lia)]
  wp_walk using wpAny_loadPart' c,wpAny_loadPart' e
  exact h
 | succ k p=>
  intro i xs ys P F f v u a w A R s h;obtain⟨M,g,d,J,L⟩:=s;obtain⟨K,D,m,z,h⟩:=h;obtain⟨n,U,S,c⟩:=id K;obtain⟨T,t,q,e⟩:=id D;have lt1:i<items.size:=by lia
  wp_walk using wpAny_loadPart' c,wpAny_loadPart' e
  rw[some_at lt1];rcases Ur i o.size with lt2 | ge2
  ·obtain⟨x,xs,y,ys,rfl,rfl,⟨G,I⟩,⟨N,O⟩,B⟩:=m.next lt1 lt2;obtain⟨H,C⟩:=zg v;obtain⟨E,r⟩:=zg u;rw[cm]at h;rw[gm]at f;rw[some_at lt2];refine Ww (eqAt_reads x y A.in1 _ _ _ G N I O H E (xf (fA z)) a w _ _ ?_);cases hq:Y9 x y
   ·simp only[hq,Ug,if_false]at h f;have j:=F x y TH TH f A.in1 ⟨M,g,d,J,L⟩ _ _ G N I O H E (fA z) a w
    wp_walk using wpAny_loadPart' c,wpAny_loadPart' e
    rw[some_at lt1,some_at lt2]
    wp_walk using j
    exact h
   ·simp only[hq,if_true]at h f
    wp_walk
    rw[Fq];have Q:=p (i+1) xs ys (by lia) F.tail f C r a w A R _ ⟨K,D,B,og z,h⟩;exact⟨plainId_quiet plain_eq_loop _,codeAny_builtin entry_eq_loop (by rw[Yg plain_eq_loop];exact Q)⟩
  ·rw[(m.over (.inr ge2)).1]at h;rw[Cj (its:=o) (i:=i) ge2]
   wp_walk using wpAny_loadPart' c,wpAny_loadPart' e
   exact h
theorem yb (l b:Za) (items c:WG) (xs ys:WI) (m:pJ xs ys) (j:cD xs ys=true) (f:Y4 xs=true) (e:Y4 ys=true) :
  Meets (Builtin.«list.__lt__» ⟨[.ref l,.ref b],[]⟩)
   (λA R s=>Sq "list" s.heap l items/\Sq "list" s.heap b c/\Sqs s.heap 0 items c xs ys/\A.in1.units+Y3 xs<cLine/\R (.ok (.ret (.bool (aQ xs ys)))) s):=by
 intro a w A R s h;have k:=x9 l b items c _ 0 xs ys rfl m j f e a w A R s h;obtain⟨_,g,d,_,_⟩:=s;obtain⟨⟨n,_,_,o⟩,⟨_,_,_,p⟩,_⟩:=h;have i:=AutoSeq1.sub_list_list
 wp_walk using wpAny_loadPart' o,wpAny_loadPart' p
 exact⟨plainId_quiet plain_eq_loop _,codeAny_builtin entry_eq_loop (by rw[Yg plain_eq_loop];exact k)⟩
theorem pX {x:Zf}:∀{xs:WI},x∈xs->x.depth<=Y3 xs
 | y::ys,h=>by
  rw[Y3]
  (rcases TM.mp h with e | h)
  ·subst e;exact Nat.le_max_left _ _
  ·exact TN (pX h) (Nat.le_max_right _ _)
end
section
open PySem.SeqAt
open PySem.MeetsSeq PySem.MeetsSeq2 PySem.MeetsSeq3
theorem Ca {A:Zc}{s:Wx}{l b:Za}{o a:Obj}{vs ws:WG}{n n2:Nat}{xs ys:WI}{j bs:WH} (h1:s.heap.get? l=some o) (f:o.cls = .type "list") (d1:o.data = .seq vs n) (h2:s.heap.get? b=some a) (e:a.cls = .type "list") (d2:a.data = .seq ws n2)
  (k:ReadsAll s.heap vs.toList xs j) (m:ReadsAll s.heap ws.toList ys bs) (i:pJ xs ys) (g:cD xs ys=true) (d:Y4 xs=true) (c:Y4 ys=true) (p:A.units+(Y3 xs+1)<cLine):Bl A s (.ref l) (.ref b) (aQ xs ys):=λ_ w E Q h=>by
 obtain⟨_,_,_,_⟩:=o;obtain⟨_,_,_,_⟩:=a;simp only at f d1 e d2;subst f d1 e d2;exact richCompare_meets_room (op:=.Lt) ⟨_,h1,rfl⟩ ⟨_,h2,rfl⟩ F.slot_list_lt F.entry_list_lt (F.args_list_lt_2 _ _) (yb l b vs ws xs ys i g d c)
  ⟨⟨_,_,_,h1⟩,⟨_,_,_,h2⟩,⟨T2 _,T2 _,⟨_,k⟩,⟨_,m⟩⟩,by show A.units+1+Y3 xs<cLine;lia,show Value.bool (aQ xs ys)≠Value.notImplemented/\Q (.bool (aQ xs ys)) s from⟨(λx=>nomatch x),h⟩⟩ (by lia)
theorem yM {A:Zc}{s:Wx}{l b:Za}{o a:Obj}{vs ws:WG}{n n2:Nat}{xs ys:WI}{j bs:WH} (h1:s.heap.get? l=some o) (f:o.cls = .type "tuple") (d1:o.data = .seq vs n) (h2:s.heap.get? b=some a) (e:a.cls = .type "tuple") (d2:a.data = .seq ws n2)
  (k:ReadsAll s.heap vs.toList xs j) (m:ReadsAll s.heap ws.toList ys bs) (i:pJ xs ys) (g:cD xs ys=true) (d:Y4 xs=true) (c:Y4 ys=true) (p:A.units+(Y3 xs+1)<cLine):Bl A s (.ref l) (.ref b) (aQ xs ys):=λ_ w E Q h=>by
 obtain⟨_,_,_,_⟩:=o;obtain⟨_,_,_,_⟩:=a;simp only at f d1 e d2;subst f d1 e d2;exact richCompare_meets_room (op:=.Lt) ⟨_,h1,rfl⟩ ⟨_,h2,rfl⟩ F.slot_tuple_lt F.entry_tuple_lt (F.args_tuple_lt_2 _ _) (vn l b vs ws xs ys i g d c)
  ⟨⟨_,_,_,h1⟩,⟨_,_,_,h2⟩,⟨T2 _,T2 _,⟨_,k⟩,⟨_,m⟩⟩,by show A.units+1+Y3 xs<cLine;lia,show Value.bool (aQ xs ys)≠Value.notImplemented/\Q (.bool (aQ xs ys)) s from⟨(λx=>nomatch x),h⟩⟩ (by lia)
theorem AF {A:Zc}{s:Wx}{a b:Wy}{i j:Int}{d bs:WH} (f:Reads s.heap a (.int i) d) (e:Reads s.heap b (.int j) bs):Bl A s a b (ltv (.int i) (.int j)):=by
 cases f with
 | int i t=>
  cases e with
  | int j u=>intro c w E Q h;exact HT.Fe A s i t j u c w E Q (by rw[ltv]at h;exact h)
theorem yR {A:Zc}{s:Wx}{a b:Wy}{x y:Str}{d bs:WH} (e:Reads s.heap a (.str x) d) (f:Reads s.heap b (.str y) bs):Bl A s a b (ltv (.str x) (.str y)):=by
 cases e with
 | str x t=>
  cases f with
  | str y u=>intro c w E Q h;exact(PyProof.Rows.lt_str (by rw[ltv]at h;exact h):Zh (model c w) A (compareOp .Lt (.str x t) (.str y u)) Q E s)
theorem wH {b a:Zf} (h:oF b a=true):(∃i j,b = .int i/\a = .int j)\/(∃x y,b = .str x/\a = .str y)\/(∃xs ys,b = .list xs/\a = .list ys/\cD xs ys=true)\/∃xs ys,b = .tuple xs/\a = .tuple ys/\cD xs ys=true:=by
 unfold oF at h
 split at h
 ·exact .inl ⟨_,_,rfl,rfl⟩
 ·exact .inr (.inl ⟨_,_,rfl,rfl⟩)
 ·exact .inr (.inr (.inl ⟨_,_,rfl,rfl,h⟩))
 ·exact .inr (.inr (.inr ⟨_,_,rfl,rfl,h⟩))
 ·cases h
theorem uE:∀(n:Nat) (da db:Zf),da.depth<=n->oF da db=true->∀(A:Zc) (s:Wx) (a b:Wy) (as bs:WH),Reads s.heap a da as->Reads s.heap b db bs->da.canLay0=true->db.canLay0=true->A.units+da.depth<cLine->Bl A s a b (ltv da db):=by
 intro n
 induction n with
 | zero=>
  intro da db u c A s a b as bs p h E B t;rcases wH c with⟨i,j,rfl,rfl⟩ | ⟨x,y,rfl,rfl⟩ | ⟨r,q,rfl,rfl,c⟩ | ⟨r,q,rfl,rfl,c⟩
  ·exact AF p h
  ·exact yR p h
  ·rw[Yj]at u;lia
  ·rw[Yj]at u;lia
 | succ n H=>
  intro da db u c A s a b as bs p h E B t;rcases wH c with⟨i,j,rfl,rfl⟩ | ⟨x,y,rfl,rfl⟩ | ⟨r,q,rfl,rfl,c⟩ | ⟨r,q,rfl,rfl,c⟩
  ·exact AF p h
  ·exact yR p h
  ·rw[Yj]at u t;cases p with
   | @list a o vs k r as1 h1 c1 d1 r1=>
    cases h with
    | @list b o2 ws k2 q bs1 h2 c2 d2 r2=>
     rw[ltv];exact Ca h1 c1 d1 h2 c2 d2 r1 r2 (λx y w I e G D z v m g l f F C d=>H x y (by have:=pX w;lia) e G D z v m g l f F C d) c E B t
  ·rw[Yj]at u t;cases p with
   | @tuple a o vs k r as1 h1 c1 d1 r1=>
    cases h with
    | @tuple b o2 ws k2 q bs1 h2 c2 d2 r2=>
     rw[ltv];exact yM h1 c1 d1 h2 c2 d2 r1 r2 (λx y w I e G D z v m g l f F C d=>H x y (by have:=pX w;lia) e G D z v m g l f F C d) c E B t
variable {prog:Zd}{w:Ze}{A:Zc}{E:Wy->Wx->Prop}{s:Wx}
theorem EU {x y:Wy}{b:Bool}{Q:Bool->Wx->Prop} (h:Bl A s x y b) (q:Q b s):Zh (model prog w) A (oneLt' false x y) Q E s:=
 PySem.W.kat_one x y (h prog w E _ q)
theorem oneLt_str {x y:Str}{t u:Tok}{Q:Bool->Wx->Prop} (q:Q (decide (x.cps.toList<y.cps.toList)) s):Zh (model prog w) A (oneLt' true (.str x t) (.str y u)) Q E s:=by
 have:=PySem.W.kas_lt_str (prog:=prog) (w:=w) (A:=A) (E:=E) (s:=s) (a:=x) (c:=y) (t:=t) (u:=u) (Q:=Q) q
 rwa [keyLt'_oneType]at this
theorem Bn {b:Bool}{x y:Za}{ox M:Obj}{B t:WG}{n k:Nat}{xs ys:WI}{C bs:WH}{Q:Bool->Wx->Prop} (hx:s.heap.get? x=some ox) (dx:ox.data = .seq B n) (X:s.heap.get? y=some M) (dy:M.data = .seq t k)
  (N:ReadsAll s.heap B.toList xs C) (P:ReadsAll s.heap t.toList ys bs) (ha:Y4 xs=true) (Y:Y4 ys=true) (hc:cD xs ys=true) (T:∀d e,xs.head? = some d->ys.head? = some e->(b=true->(∃i j,d = .int i/\e = .int j)\/∃i j,d = .str i/\e = .str j))
  (Z:A.units+Y3 xs<cLine) (q:Q (aQ xs ys) s):Zh (model prog w) A (keyLt' (tuples' b) (.ref x) (.ref y)) Q E s:=by
 refine PySem.W.kat_lt hx dx X dy ?_;have z1:B.size=xs.length:=by rw[<-ReadsAll.length _ _ _ N];simp
 have z2:t.size=ys.length:=by rw[<-ReadsAll.length _ _ _ P];simp
 have H:∀(F G:WJ) (a f:WI) (C bs:WH) (i:Nat),ReadsAll s.heap F a C->ReadsAll s.heap G f bs->Y4 a = true->Y4 f = true->cD a f = true->A.units+Y3 a < cLine ->
   a.length+t.size=f.length+B.size->(i=0->a = xs/\f = ys)->Q (aQ a f) s->PySem.W.KatLex prog w A b (decide (B.size<t.size)) Q (F.zip G) i s:=by
  intro F
  induction F with
  | nil=>
   intro G a f C bs i m l L R c u D O g;cases m;rw[List.zip_nil_left];refine PySem.W.kat_nil ?_;cases l with
   | nil=>
    rw[aQ]at g;simp only[Ut]at D;rw[Zl (by lia)];exact g
   | cons _ _=>
    rw[aQ]at g;simp only[Ut,TR]at D;rw[Zk (by lia)];exact g
  | cons v F K=>
   intro G a f C bs i m l L R c u D O g;cases m with
   | @cons _ _ d0 ds0 as0 as1 m r1'=>
   cases l with
   | nil=>
    rw[List.zip_nil_right];refine PySem.W.kat_nil ?_;rw[aQ]at g;simp only[Ut,TR]at D;rw[Zl (by lia)];exact g
   | @cons w0 ws0 e0 es0 bs0 bs1 l r2'=>
    rw[U2];rw[cm]at g;rw[gm]at c;have o:d0.canLay0=true/\Y4 ds0=true:=by simpa[Y4]using L
    have r:e0.canLay0=true/\Y4 es0=true:=by simpa[Y4]using R
    refine PySem.W.kat_cons (eqAt_reads d0 e0 A s v w0 as0 bs0 m l o.1 r.1 (xf (fA u)) prog w _ _ ?_);cases hq':Y9 d0 e0 with
    | true=>
     rw[hq',Zn rfl]at g c;refine PySem.W.kat_yes (K ws0 ds0 es0 _ _ (i+1) r1' r2' o.2 r.2 c (og u) ?_ (λz=>by lia) g);simp only[TR]at D;lia
    | false=>
     rw[hq',Zo TQ]at g c;refine PySem.W.kat_no ?_;by_cases h:(b && i == 0)=true
     ·have J:b=true:=by simp at h;exact h.1
      have I:i=0:=by simp at h;exact h.2
      obtain⟨V,U⟩:=O I;rw[h];rcases T d0 e0 (by rw[<-V];rfl) (by rw[<-U];rfl) J with⟨p,S,rfl,rfl⟩ | ⟨p,S,rfl,rfl⟩
      ·cases m;cases l;rw[ltv]at g;exact oneLt_int g
      ·cases m;cases l;rw[ltv]at g;exact oneLt_str g
     ·have:(b && i == 0)=false:=by simpa using h
      rw[this];exact EU (uE _ d0 e0 (Tw _) c A s v w0 as0 bs0 m l o.1 r.1 (fA u)) g
 exact H B.toList t.toList xs ys C bs 0 N P ha Y hc Z (by lia) (λ_=>⟨rfl,rfl⟩) q
end
end L2
namespace L2
open PySem PySem.Spec PyProof.Rows PySem.W
structure rN (n:Nat) (lt:Nat->Nat->Bool):Prop where
 irrefl:∀a,a<n->lt a a=false
 negTrans:∀a b c,a<n->b<n->c<n->lt a c=true->lt a b=true\/lt b c=true
 asymm:∀a b,a<n->b<n->lt a b=true->lt b a=false
def AllLt (n:Nat) (p:Array Nat):Prop:=∀i,p.getD i 0<n
def qc (lt:Nat->Nat->Bool) (p:Array Nat) (k:Nat):Prop:=∀i j,i<=j->j<k->lt (p.getD j 0) (p.getD i 0)=false
def l4 (lt:Nat->Nat->Bool) (p:Array Nat) (k:Nat):Prop:=∀i j,i<=j->j<k->lt (p.getD i 0) (p.getD j 0)=false
theorem AllLt.perm {n:Nat}{p q:Array Nat} (h:AllLt n p) (d:0<n) (r:q.Perm p):AllLt n q:=by
 intro i;by_cases b:i<q.size
 ·have e:q.getD i 0=q[i]:=by simp[Z3,b]
  rw[e];have k:q[i]∈p.toList:=(VO.mp r).mem_iff.mp (by simp);obtain⟨j,c,g⟩:=UU.mp k;have:=h j;have f:p.getD j 0=q[i]:=by
   have a:j<p.size:=by simpa using c
   have:p.getD j 0=p[j]:=by simp[Z3,a]
   rw[this,<-g];simp
  rw[<-f];exact this
 ·have e:q.getD i 0=0:=by simp[Z3,b]
  rw[e];exact d
section
variable {n:Nat}{lt:Nat->Nat->Bool}{cmp:Nat->Nat->(Bool->Wx->Prop)->Wx->Prop}{P:Wx->Prop}
theorem rN.trans (W:rN n lt) {a b c:Nat} (d:a<n) (e:b<n) (f:c<n) (h1:lt b a=false) (h2:lt c b=false):lt c a=false:=by
 cases q:lt c a with
 | false=>rfl
 | true=>
  rcases W.negTrans c b a f e d q with z | z
  ·rw[h2]at z;cases z
  ·rw[h1]at z;cases z
theorem qc.Dl (W:rN n lt) {p:Array Nat} (b:AllLt n p) {k m:Nat} (h:qc lt p k) (o:1<=k) (l:∀i,k<=i->i<m->lt (p.getD i 0) (p.getD (i - 1) 0)=false):qc lt p m:=by
 have c:∀d i j,j=i+d->j<m->lt (p.getD j 0) (p.getD i 0)=false:=by
  intro d
  induction d with
  | zero=>intro i j e a;rw[e];exact W.irrefl _ (b _)
  | succ d g=>
   intro i j e a;by_cases f:j<k
   ·exact h i j (by lia) f
   ·exact W.trans (b _) (b (j - 1)) (b _) (g i (j - 1) (by lia) (by lia)) (l j (by lia) a)
 intro i j _ a;exact c (j - i) i j (by lia) a
theorem qN {p:Array Nat}{k l:Nat} (a:k<p.size) (b:l<=k) (i:Nat):(bubble p k (k - l)).getD i 0=if i<l then p.getD i 0 else if i=l then p.getD k 0 else if i<=k then p.getD (i - 1) 0 else p.getD i 0:=by
 have h:=getElem?_bubble (xs:=p) a (k - l) (by lia) i;rw[U1,h];rw[show k - (k - l)=l by lia];simp only[U1]
 repeat' split
 all_goals first | rfl | (exfalso;lia) | skip
theorem eB {p:Array Nat}{i j:Nat} (a:j<=p.size) (k:Nat):(kas_rev p i j).getD k 0=if i<=k/\k<j then p.getD (i+j - 1 - k) 0 else p.getD k 0:=by
 have h:=getElem?_mirror_all (xs:=p) (i:=i) a k;unfold kas_rev;rw[U1,h];simp only[U1]
 repeat' split
 all_goals first | rfl | (exfalso;lia) | skip
theorem BI (l:∀i j C s,i<n->j<n->P s->(∀s',P s'->C (lt i j) s')->cmp i j C s) {p:Array Nat} (b:AllLt n p) {Q:Nat->Wx->Prop}:∀(f k:Nat) (s:Wx),P s ->
  (∀m s',P s'->k<=m->m<=k+f->(∀i,k<=i->i<m->lt (p.getD i 0) (p.getD (i - 1) 0)=false)->(m<k+f->lt (p.getD m 0) (p.getD (m - 1) 0)=true)->Q m s')->(kas_asc p f k).kasWp cmp Q s
 | 0,k,s,hs,h=>h k s hs (Tw _) (Tw _) (λi c g=>by lia) λc=>by lia
 | f+1,k,s,hs,h=>by
  refine l _ _ _ s (b _) (b _) hs λs' a=>?_;cases hc:lt (p.getD k 0) (p.getD (k - 1) 0)with
  | true=>
   show Z4 cmp (if true=true then KasT.ret k else kas_asc p f (k+1)) Q s';rw[Zn rfl];exact h k s' a (Tw _) (by lia) (λi c g=>by lia) λ_=>hc
  | false=>
   show Z4 cmp (if false=true then KasT.ret k else kas_asc p f (k+1)) Q s';rw[Zo TQ];refine(BI l b f (k+1) s' a λm d r c g q o=>h m d r (by lia) (by lia) (λi t u=>?_) λt=>o (by lia));by_cases e:i=k
   ·rw[e];exact hc
   ·exact q i (by lia) u
def Alike (lt:Nat->Nat->Bool) (p:Array Nat) (k q:Nat):Prop:=∀i,k - (q+1)<=i->i<k->lt (p.getD (k - 1) 0) (p.getD i 0)=false
theorem wQ (W:rN n lt) {p:Array Nat}{k q:Nat} (g:AllLt n p) (l:k<=p.size) (t:q+1<=k) (h:l4 lt p k) (m:Alike lt p k q):l4 lt (kas_rev p (k - (q+1)) k) k:=by
 intro i j d c;rw[eB l,eB l];have e:∀a b,k - (q+1)<=a->a<k->k - (q+1)<=b->b<k->lt (p.getD a 0) (p.getD b 0)=false:=λa b _ _ r o=>
  W.trans (g b) (g (k - 1)) (g a) (m b r o) (h a (k - 1) (by lia) (by lia))
 by_cases s:k - (q+1)<=i
 ·rw[Zn ⟨s,by lia⟩,Zn ⟨by lia,c⟩];exact e _ _ (by lia) (by lia) (by lia) (by lia)
 ·rw[Zo (by lia)];by_cases f:k - (q+1)<=j
  ·rw[Zn ⟨f,c⟩];exact h _ _ (by lia) (by lia)
  ·rw[Zo (by lia)];exact h i j d c
theorem jl (W:rN n lt) {p:Array Nat}{k:Nat} (a:AllLt n p) (h1:1<=k) (c:l4 lt p k) (h:lt (p.getD (k - 1) 0) (p.getD k 0)=false):l4 lt p (k+1):=by
 intro i j b _;by_cases e:j=k
 ·subst e;by_cases d:i=j
  ·subst d;exact W.irrefl _ (a _)
  ·exact W.trans (a _) (a (j - 1)) (a _) h (c i (j - 1) (by lia) (by lia))
 ·exact c i j b (by lia)
theorem rW (W:rN n lt) (r:∀i j C s,i<n->j<n->P s->(∀s',P s'->C (lt i j) s')->cmp i j C s) (v:0<n) {Q:Array Nat×Nat×Nat->Wx->Prop}:∀(f:Nat) (p:Array Nat) (k q:Nat) (s:Wx),P s->AllLt n p->k+f<=p.size->q+1<=k->l4 lt p k->Alike lt p k q ->
  (∀p' k' q' s',P s'->p'.Perm p->k<=k'->k'<=k+f->q' + 1<=k'->l4 lt p' k'->Alike lt p' k' q'->Q (p',k',q') s')->(kas_desc f p k q).kasWp cmp Q s
 | 0,p,k,q,s,hs,hp,hz,hq,hd,ha,h=>h p k q s hs (Array.Perm.refl _) (Tw _) (Tw _) hq hd ha
 | f+1,p,k,q,s,hs,hp,hz,hq,hd,ha,h=>by
  refine r _ _ _ s (hp _) (hp _) hs λs' m=>?_;cases hc:lt (p.getD k 0) (p.getD (k - 1) 0)with
  | true=>
   have t:lt (p.getD (k - 1) 0) (p.getD k 0)=false:=W.asymm _ _ (hp _) (hp _) hc;show Z4 cmp (if true=true then(if q > 0 then kas_desc f (kas_rev p (k - (q+1)) k) (k+1) 0 else kas_desc f p (k+1) 0)else _) Q s';rw[Zn rfl]
   split
   ·have y:(kas_rev p (k - (q+1)) k).Perm p:=mirror_perm _ _ _ _;have l:=hp.perm v y;have x:(kas_rev p (k - (q+1)) k).size=p.size:=mirror_size _ _ _ _;have w:=wQ W hp (by lia) hq hd ha;refine rW W r v f _ (k+1) 0 s' m l (by rw[x];lia) (by lia) (jl W l (by lia) w ?_) (λi A z=>?_) λp' k' q' g a b c d e=>h p' k' q' g a (b.trans y) (by lia) (by lia) e
    ·rw[eB (by lia),eB (by lia),Zn ⟨by lia,by lia⟩,Zo (by lia)];refine W.trans (hp _) (hp (k - 1)) (hp _) t ?_;exact hd _ _ (by lia) (by lia)
    ·have:i=k+1 - 1:=by lia
     rw[this];exact W.irrefl _ (l _)
   ·refine rW W r v f _ (k+1) 0 s' m hp (by lia) (by lia) (jl W hp (by lia) hd t) (λi A z=>?_) λp' k' q' g a b c d e=>h p' k' q' g a b (by lia) (by lia) e;have:i=k+1 - 1:=by lia
    rw[this];exact W.irrefl _ (hp _)
  | false=>
   show Z4 cmp (if false=true then _ else KasT.ask (p.getD (k - 1) 0) (p.getD k 0) λd=>if d=true then KasT.ret (p,k,q)else kas_desc f p (k+1) (q+1)) Q s';rw[Zo TQ];refine r _ _ _ s' (hp _) (hp _) m λu o=>?_;cases hc2:lt (p.getD (k - 1) 0) (p.getD k 0)with
   | true=>
    show Z4 cmp (if true=true then KasT.ret (p,k,q)else _) Q u;rw[Zn rfl];exact h p k q u o (Array.Perm.refl _) (Tw _) (by lia) hq hd ha
   | false=>
    show Z4 cmp (if false=true then _ else kas_desc f p (k+1) (q+1)) Q u;rw[Zo TQ];refine rW W r v f _ (k+1) (q+1) u o hp (by lia) (by lia) (jl W hp (by lia) hd hc2) (λi A z=>?_) λp' k' q' g a b c d e=>h p' k' q' g a b (by lia) (by lia) e;rw[show k+1 - 1=k by lia];by_cases e:i=k
    ·rw[e];exact W.irrefl _ (hp _)
    ·exact W.trans (hp _) (hp (k - 1)) (hp _) (ha i (by lia) (by lia)) hc
theorem z5 (W:rN n lt) (o:∀i j C s,i<n->j<n->P s->(∀s',P s'->C (lt i j) s')->cmp i j C s) (v:0<n) {p:Array Nat}{k f:Nat}{s:Wx}{Q:Nat×Array Nat->Wx->Prop} (q:P s) (r:AllLt n p) (x:k<=f) (h1:1<=k) (hz:f<=p.size) (w:l4 lt p k)
  (h:∀m p' s',P s'->p'.Perm p->1<=m->m<=f->qc lt p' m->Q (m,p') s'):(kas_tail3 k f p).kasWp cmp Q s:=by
 unfold kas_tail3;rw[KasT.kasWp_bind];have l:(kas_rev p 0 k).Perm p:=mirror_perm _ _ _ _;have e:=r.perm v l;have t:qc lt (kas_rev p 0 k) k:=λi j _ u=>by
  rw[eB (by lia),eB (by lia),Zn ⟨by lia,u⟩,Zn ⟨by lia,by lia⟩];exact w _ _ (by lia) (by lia)
 refine BI o e _ _ s q λm s' g a b c d=>?_;exact h m _ s' g l (by lia) (by lia) (t.Dl W e h1 c)
theorem qF (W:rN n lt) (t:∀i j C s,i<n->j<n->P s->(∀s',P s'->C (lt i j) s')->cmp i j C s) (l:0<n) {p:Array Nat}{k q:Nat}{s:Wx}{Q:Nat×Array Nat->Wx->Prop} (F:P s) (B:AllLt n p) (I:k+1<=q) (h1:1<=k) (hz:q<=p.size) (G:l4 lt p (k+1))
  (h:∀m p' s',P s'->p'.Perm p->1<=m->m<=q->qc lt p' m->Q (m,p') s'):(kas_descPart k q p).kasWp cmp Q s:=by
 unfold kas_descPart;rw[KasT.kasWp_bind];refine rW W t l _ p (k+1) 0 s F B (by lia) (by lia) G (λi _ _=>?_) λp' o E s' g r a b c d e=>?_
 ·have:i=k+1 - 1:=by lia
  rw[this];exact W.irrefl _ (B _)
 ·have H:p'.size=p.size:=r.size_eq;have f:=B.perm l r;dsimp only
  split
  ·have D:(kas_rev p' (o - (E + 1)) o).Perm p':=mirror_perm _ _ _ _;have J:(kas_rev p' (o - (E + 1)) o).size=p'.size:=mirror_size _ _ _ _;exact z5 W t l g (f.perm l D) (by lia) (by lia) (by lia) (wQ W f (by lia) c d e) λm u A x y z w v=>h m u A x (y.trans (D.trans r)) z w v
  ·exact z5 W t l g f (by lia) (by lia) (by lia) d λm u A x y z w v=>h m u A x (y.trans r) z w v
theorem IB (W:rN n lt) (A:∀i j C s,i<n->j<n->P s->(∀s',P s'->C (lt i j) s')->cmp i j C s) (F:0<n) {p:Array Nat}{k:Nat}{s:Wx}{Q:Nat×Array Nat->Wx->Prop} (M:P s) (f:AllLt n p) (h1:1<=k) (hz:k<=p.size)
  (h:∀m p' s',P s'->p'.Perm p->1<=m->m<=k->qc lt p' m->Q (m,p') s'):(kas_count k p).kasWp cmp Q s:=by
 unfold kas_count;rw[KasT.kasWp_bind];refine BI A f _ _ s M λm s' g a b c d=>?_;have B:qc lt p 1:=λi j o E=>by
  have:i=0:=by lia
  have:j=0:=by lia
  subst_vars;exact W.irrefl _ (f _)
 have u:qc lt p m:=B.Dl W f (Tw _) c;by_cases e:m=k
 ·rw[Zn (by simpa using e)];exact h m p s' g (Array.Perm.refl _) a (by lia) u
 ·rw[Zo (by simpa using e)];have G:lt (p.getD m 0) (p.getD (m - 1) 0)=true:=d (by lia);have t:lt (p.getD (m - 1) 0) (p.getD m 0)=false:=W.asymm _ _ (f _) (f _) G
  split
  ·refine A _ _ _ s' (f _) (f _) g λD l=>?_;cases hc:lt (p.getD 0 0) (p.getD (m - 1) 0)with
   | true=>
    show Z4 cmp (if true=true then KasT.ret (m,p)else _) Q D;rw[Zn rfl];exact h m p D l (Array.Perm.refl _) a (by lia) u
   | false=>
    show Z4 cmp (if false=true then _ else kas_descPart m k (kas_rev p 0 m)) Q D;rw[Zo TQ];have I:(kas_rev p 0 m).Perm p:=mirror_perm _ _ _ _;have S:(kas_rev p 0 m).size=p.size:=mirror_size _ _ _ _;have r:=f.perm F I;have H:∀i j,i<m->j<m->lt (p.getD i 0) (p.getD j 0)=false:=λi j R E=>by
     have O:lt (p.getD i 0) (p.getD (m - 1) 0)=false:=W.trans (f _) (f 0) (f _) hc (by
      have T:lt (p.getD (m - 1) 0) (p.getD i 0)=false:=u i (m - 1) (by lia) (by lia);cases q:lt (p.getD i 0) (p.getD 0 0)with
      | false=>rfl
      | true=>
       have K:=u 0 i (T2 _) R;rw[K]at q;cases q)
     exact W.trans (f _) (f (m - 1)) (f _) (u j (m - 1) (by lia) (by lia)) O
    refine qF W A F l r (by lia) a (by lia) (jl W r a (λi j o E=>?_) ?_) λL N J x y z w v=>h L N J x (y.trans I) z w v
    ·rw[eB (by lia),eB (by lia),Zn ⟨by lia,by lia⟩,Zn ⟨by lia,by lia⟩];exact H _ _ (by lia) (by lia)
    ·rw[eB (by lia),eB (by lia),Zn ⟨by lia,by lia⟩,Zo (by lia)];exact W.trans (f _) (f (m - 1)) (f _) t (H _ _ (by lia) (by lia))
  ·have U:m=1:=by lia
   refine qF W A F g f (by lia) a hz (jl W f a (λi j o E=>?_) t) h;have:i=0:=by lia
   have:j=0:=by lia
   subst_vars;exact W.irrefl _ (f _)
theorem uc (W:rN n lt) (o:∀i j C s,i<n->j<n->P s->(∀s',P s'->C (lt i j) s')->cmp i j C s) {p:Array Nat} (c:AllLt n p) {k:Nat} (g:qc lt p k) {Q:Nat->Wx->Prop}:∀(f l r:Nat) (s:Wx),P s->l<=r->r<=k->r - l<=f ->
  (∀i,i<l->lt (p.getD k 0) (p.getD i 0)=false)->(∀i,r<=i->i<k->lt (p.getD k 0) (p.getD i 0)=true) ->
  (∀m s',P s'->m<=k->(∀i,i<m->lt (p.getD k 0) (p.getD i 0)=false)->(∀i,m<=i->i<k->lt (p.getD k 0) (p.getD i 0)=true)->Q m s')->(kas_place p k f l r).kasWp cmp Q s
 | 0,l,r,s,hs,h1,h2,h3,h4,h5,h=>h l s hs (by lia) h4 λi a b=>h5 i (by lia) b
 | f+1,l,r,s,hs,h1,h2,h3,h4,h5,h=>by
  unfold kas_place;by_cases e:l ≥ r
  ·rw[Zn e];exact h l s hs (by lia) h4 λi a b=>h5 i (by lia) b
  ·rw[Zo e];refine o _ _ _ s (c _) (c _) hs λs' d=>?_;cases hc:lt (p.getD k 0) (p.getD ((l+r) / 2) 0)with
   | true=>
    show Z4 cmp (if true=true then kas_place p k f l ((l+r) / 2)else _) Q s';rw[Zn rfl];refine uc W o c g f l ((l+r) / 2) s' d (by lia) (by lia) (by lia) h4 (λi a b=>?_) h;rcases W.negTrans _ (p.getD i 0) _ (c _) (c _) (c _) hc with z | z
    ·exact z
    ·have:=g ((l+r) / 2) i a b;rw[this]at z;cases z
   | false=>
    show Z4 cmp (if false=true then _ else kas_place p k f ((l+r) / 2+1) r) Q s';rw[Zo TQ];refine uc W o c g f ((l+r) / 2+1) r s' d (by lia) (by lia) (by lia) (λi a=>?_) h5 h;exact W.trans (c _) (c ((l+r) / 2)) (c _) (g i ((l+r) / 2) (by lia) (by lia)) hc
theorem GR (W:rN n lt) (r:∀i j C s,i<n->j<n->P s->(∀s',P s'->C (lt i j) s')->cmp i j C s) (w:0<n) {Q:Array Nat->Wx->Prop}:∀(f:Nat) (p:Array Nat) (k:Nat) (s:Wx),P s->AllLt n p->k+f<=p.size->qc lt p k ->
  (∀p' s',P s'->p'.Perm p->qc lt p' (k+f)->Q p' s')->(kas_bin f p k).kasWp cmp Q s
 | 0,p,k,s,hs,hp,hz,up,h=>h p s hs (Array.Perm.refl _) up
 | f+1,p,k,s,hs,hp,hz,up,h=>by
  unfold kas_bin;rw[KasT.kasWp_bind];refine uc W r hp up k 0 k s hs (T2 _) (Tw _) (by lia) (λi a=>by lia) (λi a b=>by lia) λl s' m t z y=>?_;have v:(bubble p k (k - l)).Perm p:=bubble_perm _ _ _;have o:(bubble p k (k - l)).size=p.size:=bubble_size _ _ _;refine GR W r w f _ (k+1) s' m (hp.perm w v) (by rw[o];lia) (λi j e _=>?_) λp' x a b c=>h p' x a (b.trans v) (by rw[show k+(f+1)=k+1+f by lia];exact c);rw[qN (by lia) t,qN (by lia) t];by_cases g:i<l
  ·rw[Zn g];by_cases q:j<l
   ·rw[Zn q];exact up i j e (by lia)
   ·rw[Zo q];by_cases d:j=l
    ·rw[Zn d];exact z i g
    ·rw[Zo d,Zn (by lia)];exact up i (j - 1) (by lia) (by lia)
  ·rw[Zo g,Zo (show¬ j<l by lia)];by_cases u:i=l
   ·rw[Zn u];by_cases d:j=l
    ·rw[Zn d];exact W.irrefl _ (hp _)
    ·rw[Zo d,Zn (by lia)];exact W.asymm _ _ (hp _) (hp _) (y (j - 1) (by lia) (by lia))
   ·rw[Zo u,Zn (show i<=k by lia),Zo (show¬ j=l by lia),Zn (show j<=k by lia)];exact up (i - 1) (j - 1) (by lia) (by lia)
theorem Dn (W:rN n lt) (k:∀i j C s,i<n->j<n->P s->(∀s',P s'->C (lt i j) s')->cmp i j C s) (f:0<n) {s:Wx}{Q:Array Nat->Wx->Prop} (v:P s)
  (h:∀p s',P s'->p.toList.Perm (Y7 n)->qc lt p n->Q p s'):(kas_sort n).kasWp cmp Q s:=by
 unfold kas_sort;rw[KasT.kasWp_bind];have l:AllLt n (YT (Y7 n)):=λi=>by
  by_cases t:i<n
  ·simp[Z3,t]
  ·simp[Z3,t];exact f
 have o:(YT (Y7 n)).size=n:=by simp
 refine IB W k f v l (by lia) (by rw[o];exact Tw _) λm g s' d e a b u=>?_;have B:g.size=n:=by rw[e.size_eq];exact o
 have c:∀{q:Array Nat},q.Perm (YT (Y7 n))->q.toList.Perm (Y7 n):=λr=>by simpa using VO.mp r
 dsimp only
 split
 ·rw[show max m 1=m by lia];exact GR W k f _ g m s' d (l.perm f e) (by lia) u λw A x y z=>h w A x (c (y.trans e)) (by rw[show m+(n - m)=n by lia]at z;exact z)
 ·have:m=n:=by lia
  subst this;exact h g s' d (c e) u
end
inductive Sh where
 | int | str | list (e:Sh) | vB | b6 (a r:Sh)
def Sh.has:Sh->Zf->Prop
 | .int,d=>∃i,d = .int i
 | .str,d=>∃x,d = .str x
 | .list e,d=>∃ds,d = .list ds/\∀x∈ds,Sh.has e x
 | .vB,d=>d = .tuple []
 | .b6 a r,d=>∃x ds,d = .tuple (x::ds)/\Sh.has a x/\Sh.has r (.tuple ds)
structure uf (S:Zf->Prop):Prop where
 cmp:∀d e,S d->S e->oF d e=true
 eqv:∀d e,S d->S e->(Y9 d e=true↔d=e)
 irr:∀d,S d->ltv d d=false
 tot:∀d e,S d->S e->ltv d e=false->ltv e d=false->d=e
 trans:∀d e f,S d->S e->S f->ltv d e=true->ltv e f=true->ltv d f=true
theorem uf.asymm {S:Zf->Prop} (o:uf S) {d e:Zf} (a:S d) (b:S e) (h:ltv d e=true):ltv e d=false:=by
 cases q:ltv e d with
 | false=>rfl
 | true=>
  have:=o.trans d e d a b a h q;rw[o.irr d a]at this;cases this
theorem uf.neg {S:Zf->Prop} (o:uf S) {a b c:Zf} (d:S a) (e:S b) (f:S c) (h:ltv a c=true):ltv a b=true\/ltv b c=true:=by
 cases q:ltv a b with
 | true=>exact .inl rfl
 | false=>
  cases q2:ltv b a with
  | true=>exact .inr (o.trans b a c e d f q2 h)
  | false=>
   have:=o.tot a b d e q q2;subst this;exact .inr h
structure P5 (S:Zf->Prop) (L:WI->Prop):Prop where
 cmp:∀d e,L d->L e->cD d e=true
 eqv:∀d e,L d->L e->(YV d e=true↔d=e)
 irr:∀d,L d->aQ d d=false
 tot:∀d e,L d->L e->aQ d e=false->aQ e d=false->d=e
 trans:∀d e f,L d->L e->L f->aQ d e=true->aQ e f=true->aQ d f=true
theorem HH {a b:Zf}{S:Zf->Prop} (o:uf S):P5 S (λl=>∀x∈l,S x) where
 cmp:=by
  intro d
  induction d with
  | nil=>intro e _ _;rw[cD]
  | cons x u p=>
   intro e i k;cases e with
   | nil=>rw[cD]
   | cons y n=>
    rw[gm]
    split
    ·exact p n (λz j=>i z (TC _ j)) λz j=>k z (TC _ j)
    ·exact o.cmp x y (i x TH) (k y TH)
 eqv:=by
  intro d
  induction d with
  | nil=>
   intro e _ _;cases e with
   | nil=>simp[YV]
   | cons y n=>simp[YV]
  | cons x u p=>
   intro e i k;cases e with
   | nil=>simp[YV]
   | cons y n=>
    rw[YV,Ub,o.eqv x y (i x TH) (k y TH),p n (λz j=>i z (TC _ j)) λz j=>k z (TC _ j)];simp
 irr:=by
  intro d
  induction d with
  | nil=>intro _;rw[aQ]
  | cons x u p=>
   intro i;rw[cm,Zn ((o.eqv x x (i x TH) (i x TH)).mpr rfl)];exact p λz j=>i z (TC _ j)
 tot:=by
  intro d
  induction d with
  | nil=>
   intro e _ _ g c;cases e with
   | nil=>rfl
   | cons y n=>rw[aQ]at g;cases g
  | cons x u p=>
   intro e i k g c;cases e with
   | nil=>rw[aQ]at c;cases c
   | cons y n=>
    have h:=i x TH;have m:=k y TH;rw[cm]at g c;by_cases q:x=y
    ·subst q;rw[Zn ((o.eqv x x h h).mpr rfl)]at g c;rw[p n (λz j=>i z (TC _ j)) (λz j=>k z (TC _ j)) g c]
    ·rw[Zo (λz=>q ((o.eqv x y h m).mp z))]at g;rw[Zo (λz=>q ((o.eqv y x m h).mp z).symm)]at c;exact absurd (o.tot x y h m g c) q
 trans:=by
  intro d
  induction d with
  | nil=>
   intro e f _ _ _ g c;cases f with
   | nil=>cases e <;> (rw[aQ]at c;cases c)
   | cons z A=>rw[aQ]
  | cons x u p=>
   intro e f i k v g c;cases e with
   | nil=>rw[aQ]at g;cases g
   | cons y n=>
    cases f with
    | nil=>rw[aQ]at c;cases c
    | cons z A=>
     have h:=i x TH;have m:=k y TH;have t:=v z TH;rw[cm]at g c ⊢;by_cases q:x=y
     ·subst q;rw[Zn ((o.eqv x x h h).mpr rfl)]at g;by_cases s:x=z
      ·subst s;rw[Zn ((o.eqv x x h h).mpr rfl)]at c ⊢;exact p n A (λw r=>i w (TC _ r)) (λw r=>k w (TC _ r)) (λw r=>v w (TC _ r)) g c
      ·rw[Zo (λw=>s ((o.eqv x z h t).mp w))]at c ⊢;exact c
     ·rw[Zo (λw=>q ((o.eqv x y h m).mp w))]at g;by_cases s:y=z
      ·subst s;rw[Zo (λw=>q ((o.eqv x y h m).mp w))];exact g
      ·rw[Zo (λw=>s ((o.eqv y z m t).mp w))]at c;by_cases B:x=z
       ·subst B;have:=o.asymm h m g;rw[this]at c;cases c
       ·rw[Zo (λw=>B ((o.eqv x z h t).mp w))];exact o.trans x y z h m t g c
theorem Bc {x y:Str} (h1:decide (x.cps.toList<y.cps.toList)=false) (h2:decide (y.cps.toList<x.cps.toList)=false):x=y:=by
 have e:x.cps.toList=y.cps.toList:=List.le_antisymm (by simpa using h2) (by simpa using h1);cases x;cases y;simp only[Str.mk.injEq];exact Vb.mp e
theorem Sh.ok:∀sh:Sh,uf sh.has
 | .int=>by
  refine⟨?_,?_,?_,?_,?_⟩
  ·rintro _ _ ⟨i,rfl⟩ ⟨j,rfl⟩;rw[oF]
  ·rintro _ _ ⟨i,rfl⟩ ⟨j,rfl⟩;simp[Y9]
  ·rintro _ ⟨i,rfl⟩;rw[ltv];simp
  ·rintro _ _ ⟨i,rfl⟩ ⟨j,rfl⟩ d c;rw[ltv]at d c;have:i=j:=by simp at d c;lia
   rw[this]
  ·rintro _ _ _ ⟨i,rfl⟩ ⟨j,rfl⟩ ⟨k,rfl⟩ d c;rw[ltv]at d c ⊢;simp at d c ⊢;lia
 | .str=>by
  refine⟨?_,?_,?_,?_,?_⟩
  ·rintro _ _ ⟨i,rfl⟩ ⟨j,rfl⟩;rw[oF]
  ·rintro _ _ ⟨i,rfl⟩ ⟨j,rfl⟩;simp[Y9]
  ·rintro _ ⟨i,rfl⟩;rw[ltv];exact Zl (List.lt_irrefl _)
  ·rintro _ _ ⟨i,rfl⟩ ⟨j,rfl⟩ d c;rw[ltv]at d c;rw[Bc d c]
  ·rintro _ _ _ ⟨i,rfl⟩ ⟨j,rfl⟩ ⟨k,rfl⟩ d c;rw[ltv]at d c ⊢;exact Zk (List.lt_trans (Zm d) (Zm c))
 | .list e=>by
  have L:=HH (a:=.none) (b:=.none) (Sh.ok e);refine⟨?_,?_,?_,?_,?_⟩
  ·rintro _ _ ⟨i,rfl,n⟩ ⟨j,rfl,p⟩;rw[oF];exact L.cmp i j n p
  ·rintro _ _ ⟨i,rfl,n⟩ ⟨j,rfl,p⟩;rw[Y9,L.eqv i j n p];simp
  ·rintro _ ⟨i,rfl,n⟩;rw[ltv];exact L.irr i n
  ·rintro _ _ ⟨i,rfl,n⟩ ⟨j,rfl,p⟩ d c;rw[ltv]at d c;rw[L.tot i j n p d c]
  ·rintro _ _ _ ⟨i,rfl,n⟩ ⟨j,rfl,p⟩ ⟨k,rfl,C⟩ d c;rw[ltv]at d c ⊢;exact L.trans i j k n p C d c
 | .vB=>by
  refine⟨?_,?_,?_,?_,?_⟩
  ·rintro _ _ rfl rfl;rw[oF,cD]
  ·rintro _ _ rfl rfl;simp[Y9,YV]
  ·rintro _ rfl;rw[ltv,aQ]
  ·rintro _ _ rfl rfl _ _;rfl
  ·rintro _ _ _ rfl rfl rfl d c;rw[ltv,aQ]at d;cases d
 | .b6 a r=>by
  have h:=Sh.ok a;have or:=Sh.ok r;refine⟨?_,?_,?_,?_,?_⟩
  ·rintro _ _ ⟨x,t,rfl,f,g⟩ ⟨y,A,rfl,m,l⟩;have:=or.cmp _ _ g l;rw[oF]at this ⊢;rw[gm]
   split
   ·exact this
   ·exact h.cmp x y f m
  ·rintro _ _ ⟨x,t,rfl,f,g⟩ ⟨y,A,rfl,m,l⟩;have:=or.eqv _ _ g l;rw[Y9]at this ⊢;rw[YV,Ub,h.eqv x y f m,this];simp
  ·rintro _ ⟨x,t,rfl,f,g⟩;have:=or.irr _ g;rw[ltv]at this ⊢;rw[cm,Zn ((h.eqv x x f f).mpr rfl)];exact this
  ·rintro _ _ ⟨x,t,rfl,f,g⟩ ⟨y,A,rfl,m,l⟩ d c;have q:=or.tot _ _ g l;rw[ltv]at d c q;rw[ltv]at q;rw[cm]at d c;by_cases o:x=y
   ·subst o;rw[Zn ((h.eqv x x f f).mpr rfl)]at d c;have:=q d c;injection this with this;rw[this]
   ·rw[Zo (λw=>o ((h.eqv x y f m).mp w))]at d;rw[Zo (λw=>o ((h.eqv y x m f).mp w).symm)]at c;exact absurd (h.tot x y f m d c) o
  ·rintro _ _ _ ⟨x,t,rfl,f,g⟩ ⟨y,A,rfl,m,l⟩ ⟨z,_,rfl,u,v⟩ d c;have q:=or.trans _ _ _ g l v;rw[ltv,ltv,ltv]at q;rw[ltv]at d c ⊢;rw[cm]at d c ⊢;by_cases o:x=y
   ·subst o;rw[Zn ((h.eqv x x f f).mpr rfl)]at d;by_cases s:x=z
    ·subst s;rw[Zn ((h.eqv x x f f).mpr rfl)]at c ⊢;exact q d c
    ·rw[Zo (λw=>s ((h.eqv x z f u).mp w))]at c ⊢;exact c
   ·rw[Zo (λw=>o ((h.eqv x y f m).mp w))]at d;by_cases s:y=z
    ·subst s;rw[Zo (λw=>o ((h.eqv x y f m).mp w))];exact d
    ·rw[Zo (λw=>s ((h.eqv y z m u).mp w))]at c;by_cases B:x=z
     ·subst B;have:=h.asymm f m d;rw[this]at c;cases c
     ·rw[Zo (λw=>B ((h.eqv x z f u).mp w))];exact h.trans x y z f m u d c
theorem i7 {S:Zf->Prop} (o:uf S):∀{l l':WI},(∀x∈l,S x)->l.Perm l'->l.Pairwise (λa b=>ltv b a=false)->l'.Pairwise (λa b=>ltv b a=false)->l=l':=by
 intro l l' hS c g e;refine List.Perm.eq_of_pairwise (le:=λa b=>ltv b a=false) ?_ g e c;intro a b d f x y;exact o.tot a b (hS a d) (hS b (c.mem_iff.mpr f)) y x
inductive ix:Sh->Bool->Prop
 | int:ix .int true
 | str:ix .str true
 | vB:ix .vB false
 | b6 (a r:Sh):ix (.b6 a r) false
section
variable {X:Cx}{pins:List (Za×Obj)}{σ:St}{H:Hp}{s:Wx}
theorem jx {xs:WD}{us:WJ} (r:aO xs us) (i:Nat):RelV (xs.getD i .non) (us.getD i .none):=by
 rw[TU,TU];cases e:xs[i]? with
 | none=>rw[r.none_of e];rfl
 | some x=>
  obtain⟨u,a,b⟩:=r.get e;rw[a];exact b
theorem aC.FQ {K:Wz}{xs:WD}{ds:WI} (h:aC K H xs ds) (i:Nat) (hi:i<ds.length):Den K H (xs.getD i .non) (ds.getD i .none):=by
 have e:ds[i]? = some ds[i]:=by simp[hi]
 obtain⟨x,b,a⟩:=h.getD e;rw[TU,TU,b,e];exact a
theorem Fm {a r:Sh}:∀{ks:WD}{us:WJ}{kds:WI},Inv X pins σ H s->aO ks us->aC X.K H ks kds->(∀d∈kds,(Sh.b6 a r).has d) ->
  ∃fs:WJ,KatTups s.heap us fs/\fs.length=us.length/\∀f∈fs,∃d as,a.has d/\Reads s.heap f d as
 | _,_,_,I,.nil,.nil,_=>⟨[],.nil,rfl,λ_ h=>by cases h⟩
 | _,_,_,I,.cons rv rr,.cons j ht,hs=>by
  obtain⟨fs,w,p,l⟩:=Fm I rr ht λd j=>hs d (TC _ j);obtain⟨x,_,e,k,_⟩:=hs _ TH;subst e;cases j with
  | tup m t=>
   cases rv;obtain⟨_,g,⟨o,q,c,n,u⟩,_⟩:=I.tuple m;cases t with
   | cons i _=>
    cases g with
    | @cons v0 u0 vs0 us0 r0 rr0=>
     obtain⟨as,v⟩:=I.reads i r0;refine⟨u0::fs,.cons q c u (by simp) w,by simp[p],λf b=>?_⟩;rcases TM.mp b with e | b
     ·subst e;exact⟨x,as,k,v⟩
     ·exact l f b
theorem zJ {a:Sh}{b:Bool} (m:ix a b):∃T:Wy,(T == T)=true/\(T != Value.type "tuple")=b/\∀(M:Model) (h:Heap) (f:Wy) (d:Zf) (as:WH),a.has d->Reads h f d as->Looks M h (typeOf f) T:=by
 cases m with
 | int=>exact⟨.type "int",by decide,by decide,λM h f d as c r=>by obtain⟨i,rfl⟩:=c;cases r;exact .of_pure rfl⟩
 | str=>exact⟨.type "str",by decide,by decide,λM h f d as c r=>by obtain⟨i,rfl⟩:=c;cases r;exact .of_pure rfl⟩
 | vB=>exact⟨.type "tuple",by decide,by decide,λM h f d as c r=>by
   have e:d = .tuple []:=c;subst e;cases r with
   | tuple j g l k=>rw[<-g];exact(Looks.ld j).andThen .now⟩
 | b6 a r=>exact⟨.type "tuple",by decide,by decide,λM h f d as c r=>by
   obtain⟨x,_,rfl,_,_⟩:=c;cases r with
   | tuple j g l k=>rw[<-g];exact(Looks.ld j).andThen .now⟩
theorem zW {a r:Sh}{b:Bool}{A:Zc} (D:ix a b) {ks:WD}{us:WJ}{kds:WI} (I:Inv X pins σ H s) (L:aO ks us) (J:aC X.K H ks kds) (Z:∀d∈kds,(Sh.b6 a r).has d) (yu:∀d∈kds,d.depth<=100)
  (h2:2<=us.length) (hu:A.units+101<cLine) {G:Array Nat->Wx->Prop}
  (h:∀p:Array Nat,p.toList.Perm (Y7 us.length)->(∀i j,i<=j->j<us.length->ltv (kds.getD (p.getD j 0) .none) (kds.getD (p.getD i 0) .none)=false)->G p s) :
  Zh (model X.prog X.w) A (keyKind' us.toArray) (λκ s'=>(kas_sort us.length).kasWp (kas_ask X.prog X.w A κ us) G s') (λ_ _=>False) s:=by
 obtain⟨_,t1,_,t3⟩:=Fm I L J Z;obtain⟨T,Q,S,N⟩:=zJ D;refine kat_kind t1 (by lia) (λf D=>?_) Q ?_
 ·obtain⟨d,as,x,y⟩:=t3 f D;exact N _ _ f d as x y
 rw[S];have l1:us.length=kds.length:=by rw[<-L.length];exact J.length
 have o:=Sh.ok (.b6 a r);have m:∀i,i<us.length->(Sh.b6 a r).has (kds.getD i .none):=λi c=>by
  have e:kds[i]? = some kds[i]:=by simp[<-l1,c]
  (rw[TU,e])
  exact Z _ (Uj _)
 have O:∀i,i<us.length->(kds.getD i .none).depth<=100:=λi c=>by
  have e:kds[i]? = some kds[i]:=by simp[<-l1,c]
  (rw[TU,e])
  exact yu _ (Uj _)
 refine Dn (n:=us.length) (lt:=λi j=>ltv (kds.getD i .none) (kds.getD j .none)) (P:=λs'=>s' = s) ⟨λi c=>o.irr _ (m i c),λi j k c B hk q=>o.neg (m i c) (m j B) (m k hk) q,λi j c B q=>o.asymm (m i c) (m j B) q⟩
  (λi j C s' c B e q=>?_) (by lia) rfl λp s' e hp up=>by subst e;exact h p hp up
 subst e;show Zh (model X.prog X.w) A (keyLt' (tuples' b) (us.getD i .none) (us.getD j .none)) C (λ_ _=>False) s';have z:=J.FQ i (by lia);have v:=J.FQ j (by lia);have W:=jx L i;have R:=jx L j;have l:=m i c;have g:=m j B;have Y:=O i c;have F:=q s' rfl;have E:=o.cmp _ _ l g;have t:=z.lay;have u:=v.lay;revert z v l g Y F E t u;generalize kds.getD i .none=d;generalize kds.getD j .none=e;intro z v l g Y F E t u;obtain⟨x,_,rfl,hx,_⟩:=l;obtain⟨y,_,rfl,hy,_⟩:=g;revert z v W R;generalize ks.getD i .non=vi;generalize ks.getD j .non=vj;generalize us.getD i .none=ui;generalize us.getD j .none=uj;intro W R z v;cases z with
 | tup qi ti=>
  cases v with
  | tup qj tj=>
   cases W;cases R;obtain⟨_,rv,⟨_,ei,_,_,U⟩,_⟩:=I.tuple qi;obtain⟨_,M,⟨oj,ej,cj,nj,dtj⟩,_⟩:=I.tuple qj;obtain⟨as,ra⟩:=I.readsAll ti rv;obtain⟨_,rb⟩:=I.readsAll tj M;rw[ltv]at F;rw[oF]at E;rw[Yj]at Y;refine Bn ei U ej dtj (by simpa using ra) (by simpa using rb) t u E (λd0 e0 h1 h3 hb=>?_) (by lia) F;have e1:x=d0:=by simpa using h1
   have e2:y=e0:=by simpa using h3
   subst e1 e2;cases D with
   | int=>obtain⟨p,rfl⟩:=hx;obtain⟨q,rfl⟩:=hy;exact .inl ⟨p,q,rfl,rfl⟩
   | str=>obtain⟨p,rfl⟩:=hx;obtain⟨q,rfl⟩:=hy;exact .inr ⟨p,q,rfl,rfl⟩
   | vB=>cases hb
   | b6 _ _=>cases hb
theorem Inv.adopt {h':Heap}{t':Nat}{wr:WH}{a:Za}{o:HO} (I:Inv X pins σ H s) (g:∀b∈wr,cg X pins H b) (l:a∈wr) (k:∀b o,b∉wr->s.heap.get? b=some o->h'.get? b=some o)
  (j:bO X.prog X.w (upd H a o) h' a o):Inv X pins σ (upd H a o) { s with heap:=h',toks:=t' }:=by
 have i:∀b u,H b=some u->b∉wr:=λb u e z=>by rw[(g b z).1]at e;cases e
 have d:H a=none:=(g a l).1;refine I.step (g':=s.gens) (d':=s.drawn) (ch:=wr) (λb h=>⟨(g b h).2.2.2.1,(g b h).2.1,(g b h).2.2.2.2.1,(g b h).2.2.2.2.2⟩) (λb o _ _ f e _=>k b o f e) (λb o _ _ f e _=>⟨o.slots,k b o f e⟩)
  (λb B f e n=>by rw[ao (show b≠a fromλz=>f (by rw[z];exact l))];exact n)
  (λb o f e=>⟨o,k b o f e⟩) (λb A e=>by rw[ao (aw e d)];exact e) (λb B u e=>by rw[ao (aw e d)];exact e) (λb _ e=>⟨#[],by rw[ao (aw e d),e];simp⟩) (λm p=>?_) (λb u e=>?_) I.bare
 ·obtain⟨o,t,y,x,r⟩:=p;exact⟨o,t,y,k _ o (λz=>(g _ z).2.1 rfl) x,r⟩
 ·by_cases h:b=a
  ·subst h;rw[ab]at e;cases e;exact j
  ·rw[ao h]at e;refine(I.hok b u e).gv (λc v f q=>k c v ?_ q) (λc q=>by rw[ao (aw q d)];exact q) λc A q=>by rw[ao (aw q d)];exact q
   rcases f with z | z
   ·rw[z];exact i b u e
   ·exact i c _ z
def picked (xs:WD) (p:List Nat):WD:=p.map λi=>xs.getD i .non
theorem lG {xs:WD}{us:WJ} (r:aO xs us):∀p:List Nat,aO (picked xs p) (p.map λi=>us.getD i .none)
 | []=>.nil
 | i::p=>.cons (jx r i) (lG r p)
theorem nE (xs:WD) (p:List Nat):(picked xs p).length=p.length:=by simp[picked]
theorem gQ {α:Type} (us:List α) (d:α):(Y7 us.length).map (λi=>us.getD i d)=us:=by
 apply Vp
 ·simp
 ·intro i h1 h2;simp[h2]
def eQ (kds:WI) (p:List Nat):Prop:=(p.map λi=>kds.getD i .none).Pairwise λa b=>ltv b a=false
theorem yP {kds:WI}{p:Array Nat}{n:Nat} (d:p.toList.length=n) (h:∀i j,i<=j->j<n->ltv (kds.getD (p.getD j 0) .none) (kds.getD (p.getD i 0) .none)=false):eQ kds p.toList:=by
 unfold eQ
 (rw[VP])
 intro i j g c _;simp only[List.getElem_map];have b:i<p.size:=by simpa using g
 have a:j<p.size:=by simpa using c
 have:=h i j (by lia) (by simp at d;lia);have f:p.getD i 0=p[i]:=by simp[Z3,b]
 have e:p.getD j 0=p[j]:=by simp[Z3,a]
 rw[f,e]at this;simpa using this
theorem qT {kds:WI}{n:Nat} (hn:n<2):eQ kds (Y7 n):=by
 unfold eQ
 match n,hn with
 | 0,_=>simp
 | 1,_=>simp
theorem rh {D:Za}{f:Nat}{vs:WJ} (I:Inv X pins σ H s) (i:s.heap.get? D=some (seqObj "list" vs.toArray f)) (g:cg X pins H D) :
  ∃e1,(s.heap.update D (Y8 λ_=>(#[]:WG))).get? D=some (seqObj "list" #[] e1) /\
   ∀h3,h3=((s.heap.update D (Y8 λ_=>(#[]:WG))).push (seqObj "tuple" vs.toArray 0)).push (seqObj "list" #[] 0)->h3.get? D=some (seqObj "list" #[] e1)/\Inv X pins σ H { s with heap:=h3 }:=by
 have a:=get?_update_seq i λ_=>(#[]:WG);have rest:=(Ye s.heap D (Y8 λ_=>(#[]:WG))).2;generalize s.heap.update D (Y8 λ_=>(#[]:WG))=h1 at a rest;refine⟨_,a,λh3 h=>?_⟩;have d:∀c o,h1.get? c=some o->h3.get? c=some o:=λc o e=>h ▸ Wu _ (Wu _ e);refine⟨d D _ a,I.eZ (t':=s.toks) (wr:=[D]) (λc b=>?_) λc o b e=>d c o ((rest c λz=>b (z ▸ Tz.mpr rfl)).trans e)⟩;rw[Tz.mp b];exact g
theorem zR {A:Zc}{D:Za}{O:Nat}{xs:WD}{vs:WJ}{ds:WI}{P:PySem.Fin->Wx->Prop}{E:Wy->Wx->Prop} (I:Inv X pins σ H s) (r:s.heap.get? D=some (seqObj "list" vs.toArray O)) (L:cg X pins H D)
  (N:aO xs vs) (u:∀(s':Wx) (G:Array Nat->Wx->Prop),Inv X pins σ H s'->2<=vs.length->(∀p:Array Nat,p.toList.Perm (Y7 vs.length)->(∀i j,i<=j->j<vs.length->ltv (ds.getD (p.getD j 0) .none) (ds.getD (p.getD i 0) .none)=false)->G p s')->Zh (model X.prog X.w) A (keyKind' vs.toArray) (λκ s''=>(kas_sort vs.length).kasWp (kas_ask X.prog X.w A κ vs) G s'') (λ_ _=>False) s') (J:vs.length<64)
  (h:∀(p:List Nat) (h':Heap),p.Perm (Y7 xs.length)->eQ ds p->Inv X pins σ (upd H D (.lst (picked xs p))) { s with heap:=h' }->P (.done (.ret .none)) { s with heap:=h' }) :
  Zh (model X.prog X.w) A (Builtin.«list.sort» ⟨[.ref D],[]⟩) P E s:=by
 have k:=N.length;obtain⟨_,t,B⟩:=rh I r L;rw[list_sort_plain];refine Ww (listItems_at r rfl (Ww (listUpdate_at r rfl (Ww (seqEpoch_at t rfl (Ww (wpAny_newTuple (Ww (wpAny_newList (Ws ?main) (T2 _))) ?short)))) ?few (T2 _))))
 case short=>show vs.length<=_;rw[sizeLine_eq];lia
 case few=>rw[TL,sizeLine_eq];lia
 case main=>
 show Zh (model X.prog X.w) A _ P E { s with heap:=((s.heap.update D (Y8 λ_=>(#[]:WG))).push (seqObj "tuple" vs.toArray 0)).push (seqObj "list" #[] 0) };generalize hh3:((s.heap.update D (Y8 λ_=>(#[]:WG))).push (seqObj "tuple" vs.toArray 0)).push (seqObj "list" #[] 0)=h3;obtain⟨f,K⟩:=B h3 hh3.symm;have m:∀(p:List Nat) (b:WG),p.Perm (Y7 xs.length)->eQ ds p->b=YT (p.map λi=>vs.getD i Value.none) ->
   P (.done (.ret .none)) { s with heap:=h3.update D (Y8 λ_=>b) }:=λp b l q Y=>by
  have W:=Ye h3 D (Y8 λ_=>b);obtain⟨z,F⟩:∃z,(h3.update D (Y8 λ_=>b)).get? D=some (seqObj "list" b z):=⟨_,get?_update_seq f λ_=>b⟩;have T:p.length=xs.length:=by rw[l.length_eq];simp
  refine h p _ l q (K.adopt (t':=s.toks) (wr:=[D]) (a:=D) (λc C=>by rw[show c=D by simpa using C];exact L) (by simp) (λc o C e=>(W.2 c (by simpa using C)).trans e) ?_);refine⟨by rw[nE,T,sizeLine_eq];lia,p.map λi=>vs.getD i Value.none,z,lG N p,?_⟩;rw[F,Y]
 dsimp only;by_cases d:vs.toArray.size<2
 ·rw[Zn d,Zn d];refine Ww (Wv ?_);refine Ww ?_;show Zh _ _ ((pure ():StateT SortSt Sem Unit).run _) _ _ _;rw[StateT.run_pure];refine Wv ?_;dsimp only;refine Ww (seqEpoch_at f rfl ?_);have v:(arrOf (SortSt.mk' general' (vs.toArray.zip vs.toArray) #[] 7 none)).map (·.2)=vs.toArray:=by
   show(vs.toArray.zip vs.toArray).map (·.2)=vs.toArray
   apply Vb.mp;simp[List.map_snd_zip]
  rw[v];refine Ww (listUpdate_at f rfl ?_ (T2 _) (by show vs.toArray.size<=_;rw[TL,sizeLine_eq];lia))
  (simp only[bne_self_eq_false,Ug,if_false])
  refine Wv (m (Y7 xs.length) _ (Z8 _) (qT (by rw[TL]at d;lia)) ?_);rw[k,gQ]
 ·rw[Zo d,Zo d];have M:2<=vs.length:=by rw[TL]at d;lia
  refine Ww (Wt (u _ (λp s'=>s' = { s with heap:=h3 }/\p.toList.Perm (Y7 vs.length)/\eQ ds p.toList) K M λp l Z=>⟨rfl,l,yP (by rw[l.length_eq];simp) Z⟩) (λκ _ S=>?_) λ_ _ x=>x.elim);refine Ww (Wt (kat_run (Q:=λg s'=>∃p:Array Nat,arrOf g = p.map (kas_item (vs.toArray.zip vs.toArray))/\failedOf g = none/\s' = { s with heap:=h3 }/\p.toList.Perm (Y7 vs.length)/\eQ ds p.toList)
   rfl M J (λR g s' _ a2 a3 U=>⟨R,a2,a3,U⟩) S) ?_ λ_ _ e=>e)
  rintro⟨⟨⟩,g⟩ s' ⟨p,y,n,rfl,l,q⟩;dsimp only;have v:=kat_snds rfl y;rw[v];refine Ww (seqEpoch_at f rfl ?_);refine Ww (listUpdate_at f rfl ?_ (T2 _) (by rw[TL,Tt,l.length_eq,UX,sizeLine_eq];lia));rw[n]
  (simp only[bne_self_eq_false,Ug,if_false])
  exact Wv (m p.toList _ (by rw[k];exact l) q rfl)
def jb (h:Heap) (vs:WJ):Heap:=(h.push (seqObj "list" #[] 0)).update h.objs.size (Y8 (· ++ vs.toArray))
theorem lQ (h:Heap) (vs:WJ):(jb h vs).objs.size=h.objs.size+1:=(Heap.size_update ..).trans (size_push' _ _)
theorem vO (h:Heap) (vs:WJ):((jb h vs).push (seqObj "list" vs.toArray 0)).get? (h.objs.size+1)=some (seqObj "list" vs.toArray 0):=by
 have q:((jb h vs).push (seqObj "list" vs.toArray 0)).get? (jb h vs).objs.size=some (seqObj "list" vs.toArray 0):=Y1 _ rfl
 rwa [lQ]at q
theorem qG (h:Heap) (vs:WJ):∀b o,h.get? b=some o->((jb h vs).push (seqObj "list" vs.toArray 0)).get? b=some o:=λb o q=>
 Wu _ (((Ye (h.push (seqObj "list" #[] 0)) h.objs.size (Y8 (· ++ vs.toArray))).2 b (T5 (Y2 q))).trans (Wu _ q))
def qE (sp:Sp):WD->WD->Hp->(WD->Hp->Prop)->Prop
 | [],ks,H,Q=>Q ks H
 | x::r,ks,H,Q=>sp [x] H (λk H'=>qE sp r (ks++[k]) H' Q) E0
theorem BR {k:Nat}{f D kS:Za}{fd:Zb}{ps:WF}{sp:Sp}{oD:Obj}{xs:WD}{vs:WJ}{M:WD->Hp->Prop}{e0:Nat}{h:Wy->PUnit->Sem (ForInStep PUnit)}{E:Wy->Wx->Prop}{R:PUnit->Wx->Prop}
  (F:ay X.prog X.w X.K X.mg X.base CX0 k f fd ps sp) (hr:bG (k+2) X.A) (hb:Binds X.K fd ps []) (N:D≠kS) (hD:∀v,oD.data ≠ .cell v)
  (jB:∀x (us:WJ) e (s:Wx) (C:Wy->Wx->Prop),us.length<64->s.heap.get? kS=some (seqObj "list" us.toArray e)->Zh (model X.prog X.w) X.A.in1.in1 (call (.ref f) [x]) (λk s'=>∃(us':WJ) (e':Nat),us'.length<64/\s'.heap.get? kS=some (seqObj "list" us'.toArray e')/\C k s') (λ_ _=>False) s ->
   Zh (model X.prog X.w) X.A.in1.in1 (h x ⟨⟩) (λr s'=>r = .yield ⟨⟩/\∃k s1,C k s1/\s' = { s1 with heap:=s1.heap.update kS (Y8 (·.push k)) }) E s)
  (hv:aO xs vs) (a3:vs.length<64) (I:Inv X pins σ H s) (fD:cg X pins H D) (fK:cg X pins H kS) (gD:s.heap.get? D=some oD) (gK:s.heap.get? kS=some (seqObj "list" ([]:WJ).toArray e0)) (hk:qE sp xs [] H M)
  (y:∀s' H' ks us e,Inv X pins σ H' s'->cg X pins H' D->cg X pins H' kS->s'.heap.get? D=some oD->s'.heap.get? kS=some (seqObj "list" us.toArray e)->aO ks us->ks.length=xs.length->M ks H'->R ⟨⟩ s') :
  Zh (model X.prog X.w) X.A.in1.in1 (forIn vs PUnit.unit h) R E s:=by
 have a0:=hv.length;refine ksk_fold (λj s'=>∃H' ks us e,Inv X pins σ H' s'/\cg X pins H' D/\cg X pins H' kS/\s'.heap.get? D=some oD/\s'.heap.get? kS=some (seqObj "list" us.toArray e)/\aO ks us/\ks.length=j/\qE sp (xs.drop j) ks H' M) vs 0 s
  ⟨H,[],[],e0,I,fD,fK,gD,gK,.nil,rfl,hk⟩ (λj x s' hx ⟨H',ks,us,e,t,a,b,l,g,J,L,i⟩=>?_) λs' ⟨H',ks,us,e,t,a,b,l,g,J,L,i⟩=>?_
 ·rw[VW]at i L
  (have hj:j<vs.length:=(UP.mp hx).1)
  have B:j<xs.length:=by lia
  have ex:xs[j]? = some xs[j]:=by simp[B]
  obtain⟨u,hu,ru⟩:=hv.get ex;rw[hx]at hu;cases hu;rw[Um B]at i;have hl:=J.length;have Ip:Inv X (pins++[(D,oD),(kS,seqObj "list" us.toArray e)]) σ H' s':=t.oN λp hp=>by
   (rcases TV.mp hp with z | z)
   ·exact t.pin p (Ua _ z)
   ·rcases TM.mp z with z | z
    ·subst z;exact⟨l,a.1,a.2.1,a.2.2.1,hD⟩
    ·have z':p=(kS,seqObj "list" us.toArray e):=by simpa using z
     subst z';exact⟨g,b.1,b.2.1,b.2.2.1,λv q=>by cases q⟩
  have T:[x].length=ps.length:=F.len _ _ _ _ i;have W:=F.run X.A.in1.in1 X.stack s' H' ⟨[x],[]⟩ [x] [xs[j]] _ E0 (hr.in1.in1) (Ip.ER.in1.in1) (by have:=hb s' [x] t.kIn (by simpa using T);simpa using this) (.cons ru .nil) i;refine Wt (jB x us e s' (λd s1=>∃v H1,Inv X (pins++[(D,oD),(kS,seqObj "list" us.toArray e)]) σ H1 s1/\RelV v d/\qE sp (xs.drop (j+1)) (ks++[v]) H1 M) (by lia) g (wpAny_call (codeAny_mono W λr s1 G=>?_))) (λr _ Z=>?_) λ_ _ z=>z
  ·cases r with
   | error er=>exact G.elim
   | ok fl=>
    cases fl with
    | ret d=>
     obtain⟨v,H1,m,O,S⟩:=Ip.after G;refine⟨us,e,by lia,(m.pin (kS,seqObj "list" us.toArray e) (by simp)).1,v,H1,m,O,S⟩
    | next=>exact False.elim G
    | brk=>exact False.elim G
    | cont=>exact False.elim G
  ·obtain⟨er,d,s1,⟨v,H1,m,O,S⟩,es⟩:=Z;refine⟨er,?_⟩;subst es;have pD:=m.pin (D,oD) (by simp);have pK:=m.pin (kS,seqObj "list" us.toArray e) (by simp);have Y:Inv X pins σ H1 s1:=m.iB;have P:cg X pins H1 D:=⟨pD.2.1,a.2⟩;have n:cg X pins H1 kS:=⟨pK.2.1,b.2⟩;have sb:=Ye s1.heap kS (Y8 (·.push d))
   have ea:us.toArray.push d=(us++[d]).toArray:=by simp
   obtain⟨Q,U⟩:∃Q,(s1.heap.update kS (Y8 (·.push d))).get? kS=some (seqObj "list" (us++[d]).toArray Q):=⟨_,by rw[<-ea];exact get?_update_seq pK.1 (·.push d)⟩
   have I2:Inv X pins σ H1 { s1 with heap:=s1.heap.update kS (Y8 (·.push d)) }:=Y.eZ (t':=s1.toks) (wr:=[kS]) (λc hc=>by rw[show c=kS by simpa using hc];exact n) λc o hc e=>(sb.2 c (by simpa using hc)).trans e
   refine⟨H1,ks++[v],us++[d],Q,I2,P,n,(sb.2 D N).trans pD.1,U,J.append (.cons O .nil),by simp[L],?_⟩;rw[VW];exact S
 ·rw[VW]at i L;rw[UL (by lia)]at i;exact y s' H' ks us e t a b l g J (by lia) i
theorem uD {a r:Sh}{b:Bool}{k:Nat}{f D:Za}{fd:Zb}{ps:WF}{sp:Sp}{n0:Nat} (hf:ix a b) {xs:WD}{vs:WJ}{P:PySem.Fin->Wx->Prop}{E:Wy->Wx->Prop}
  (F:ay X.prog X.w X.K X.mg X.base CX0 k f fd ps sp) (hr:bG (k+2) X.A) (hb:Binds X.K fd ps []) (I:Inv X pins σ H s) (W:s.heap.get? D=some (seqObj "list" vs.toArray n0)) (fD:cg X pins H D)
  (hv:aO xs vs) (N:vs.length<64)
  {Qk:WD->Hp->Prop} (h:qE sp xs [] H Qk) (hQ:∀ks H1,Qk ks H1->∃kds,aC X.K H1 ks kds/\(∀d∈kds,(Sh.b6 a r).has d)/\(∀d∈kds,d.depth<=100) /\
   ∀(p:List Nat) (s':Wx),p.Perm (Y7 xs.length)->eQ kds p->H1 D=none->Inv X pins σ (upd H1 D (.lst (picked xs p))) s'->P (.done (.ret .none)) s') :
  Zh (model X.prog X.w) X.A.in1.in1 (ksk_tree D (.ref f) false) P E s:=by
 have hu:X.A.in1.in1.units+101<cLine:=by show X.A.units+1+1+101<cLine;have:=hr.un;lia
 have m:=hv.length;obtain⟨T,a0,a6⟩:=rh I W fD;unfold ksk_tree;refine Ww (listItems_at W rfl (Ww (listUpdate_at W rfl (Ww (seqEpoch_at a0 rfl (Ww (wpAny_newTuple (Ww (wpAny_newList (Ws ?main) (T2 _))) ?short)))) ?few (T2 _))))
 case short=>show vs.length<=_;rw[sizeLine_eq];lia
 case few=>rw[TL,sizeLine_eq];lia
 case main=>
 show Zh (model X.prog X.w) X.A.in1.in1 (ksk_rest D (.ref f) false vs.toArray T (.ref ((s.heap.update D (Y8 λ_=>(#[]:WG))).push (seqObj "tuple" vs.toArray 0)).objs.size)) P E { s with heap:=((s.heap.update D (Y8 λ_=>(#[]:WG))).push (seqObj "tuple" vs.toArray 0)).push (seqObj "list" #[] 0) };have J:((s.heap.update D (Y8 λ_=>(#[]:WG))).push (seqObj "tuple" vs.toArray 0)).objs.size=s.heap.objs.size+1:=by rw[size_push',Heap.size_update]
 have gK:(((s.heap.update D (Y8 λ_=>(#[]:WG))).push (seqObj "tuple" vs.toArray 0)).push (seqObj "list" #[] 0)).get? (s.heap.objs.size+1)=some (seqObj "list" ([]:WJ).toArray 0):=by
  (rw[<-J];exact Y1 _ rfl)
 rw[J];generalize hh3:((s.heap.update D (Y8 λ_=>(#[]:WG))).push (seqObj "tuple" vs.toArray 0)).push (seqObj "list" #[] 0)=h3 at gK;obtain⟨a9,I3⟩:=a6 h3 hh3.symm;have QS:D<s.heap.objs.size:=Y2 W;have y:D≠s.heap.objs.size+1:=T5 (VQ QS);have fK:cg X pins H (s.heap.objs.size+1):=I.rJ (UN _) (I.hok.fresh (UN _));generalize s.heap.objs.size+1=kS at *;unfold ksk_rest;refine Ww (wpAny_rule ?_)
 first | rw[List.forIn_toArray] | (rw[<-Vd];simp only[List.toList_toArray])
 refine Ww (BR (R:=λ_ s'=>Zh (model X.prog X.w) X.A.in1.in1 (Builtin.List.listItems (.ref kS) >>= λO=>ksk_end D false vs.toArray T (.ref kS) O) P E s') F hr hb y (λv z=>by cases z) (λx us e s' C _ _ hx=>?_) hv N I3 fD fK a9 gK h λs' _ ks us e I' L a7 a8 B rk _ qk=>?_)
 ·refine Ww (wpAny_attempt (Wt hx (λkv ab U=>?_) λ_ _ hF=>hF.elim));obtain⟨_,_,_,aa,c⟩:=U
  try dsimp only
  refine Ww (listUpdate_at aa rfl ?_ (by rw[TL,sizeLine_eq];lia) (TN (VX (VG ..)) (by rw[TL,sizeLine_eq];lia)));exact Wv ⟨rfl,kv,ab,c,rfl⟩
 ·obtain⟨kds,hd,hs,yu,q⟩:=hQ _ _ qk;refine Ww (listItems_at B rfl ?_);have l:us.length=vs.length:=by rw[<-rk.length];lia
  have Pm:∀(S:SortSt) (p:List Nat),(arrOf S).map (·.2)=YT (p.map λi=>vs.getD i Value.none)->failedOf S=none->p.Perm (Y7 xs.length)->eQ kds p->Zh (model X.prog X.w) X.A.in1.in1 (ksk_tail D false T (.ref kS) S) P E s':=λS p lF u n iF=>by
   have sk:=Ye s'.heap kS (Y8 λ_=>(#[]:WG));have t:(s'.heap.update kS (Y8 λ_=>(#[]:WG))).get? D=some (seqObj "list" #[] T):=(sk.2 D y).trans a8;have pl:p.length=xs.length:=by rw[n.length_eq];simp
   unfold ksk_tail
   try dsimp only
   rw[lF];refine Ww (listUpdate_at B rfl ?_ (by rw[TL,sizeLine_eq];lia) (T2 _));refine Ww (wpAny_letGo ?_);refine Ww (seqEpoch_at t rfl ?_);refine Ww (listUpdate_at t rfl ?_ (T2 _) (by simp only[Ug,if_false];rw[TL,Tt,pl,sizeLine_eq];lia));rw[u]
   (simp only[bne_self_eq_false,Ug,if_false])
   refine Wv ?_;have sd:=Ye (s'.heap.update kS (Y8 λ_=>(#[]:WG))) D (Y8 λ_=>YT (p.map λi=>vs.getD i Value.none));obtain⟨c2,a5⟩:∃c2,((s'.heap.update kS (Y8 λ_=>(#[]:WG))).update D (Y8 λ_=>YT (p.map λi=>vs.getD i Value.none))).get? D=some (seqObj "list" (YT (p.map λi=>vs.getD i Value.none)) c2):=⟨_,get?_update_seq t λ_=>YT (p.map λi=>vs.getD i Value.none)⟩;refine q p _ n iF L.1 (I'.adopt (t':=s'.toks) (wr:=[D,kS]) (a:=D) (λc Y=>?_) (by simp) (λc o Y e=>?_) ⟨by rw[nE,pl,sizeLine_eq];lia,p.map λi=>vs.getD i Value.none,c2,lG hv p,a5⟩)
   ·rcases TM.mp Y with z | z
    ·rw[z];exact L
    ·rw[show c=kS by simpa using z];exact a7
   ·exact(sd.2 c (λz=>Y (by simp[z]))).trans ((sk.2 c (λz=>Y (by simp[z]))).trans e)
  unfold ksk_end
  try dsimp only
  (simp only[Ug,if_false])
  by_cases g:vs.toArray.size<2
  ·rw[Zn g,Zn g];refine Ww (Wv ?_);refine Ww ?_;show Zh _ _ ((pure ():StateT SortSt Sem Unit).run _) _ _ _;rw[StateT.run_pure];refine Wv ?_;dsimp only;refine Pm _ (Y7 xs.length) ?_ rfl (Z8 _) (qT (by rw[TL]at g;lia));show(us.toArray.zip vs.toArray).map (·.2)=_
   rw[m,gQ];apply Vb.mp;simp[List.map_snd_zip,l]
  ·rw[Zo g,Zo g];have h2:2<=us.length:=by rw[TL]at g;lia
   refine Ww (Wt (zW (A:=X.A.in1.in1) (G:=λp M=>M=s'/\p.toList.Perm (Y7 us.length)/\eQ kds p.toList) hf I' rk hd hs yu h2 hu λp n up=>⟨rfl,n,yP (by rw[n.length_eq];simp) up⟩) (λ_ _ U=>?_) λ_ _ x=>x.elim);rw[l]at U;refine Ww (Wt (kat_run (ks:=us) (vs:=vs) (Q:=λj M=>∃p:Array Nat,arrOf j = p.map (kas_item (us.toArray.zip vs.toArray))/\failedOf j = none/\M=s'/\p.toList.Perm (Y7 vs.length)/\eQ kds p.toList)
    l (by lia) N (λp' j M _ a2 a3 a4=>⟨p',a2,a3,a4⟩) U) ?_ λ_ _ e=>e)
   rintro⟨⟨⟩,j⟩ M ⟨p,Z,u,rfl,n,iF⟩;dsimp only;exact Pm j p.toList (kat_snds l Z) u (by rw[m];exact n) iF
def HY (K:Wz) (a r:Sh) (sp:Sp):V->Hp->VK->Prop:=λx H Q=>∃l xs,x = .ref l/\SqL K H l xs/\xs.length<64/\qE sp xs [] H λks H1=>
 ∃kds,aC K H1 ks kds/\(∀d∈kds,(Sh.b6 a r).has d)/\(∀d∈kds,d.depth<=100)/\∀(D:Za) (p:List Nat),H1 D=none->p.Perm (Y7 xs.length)->eQ kds p->Q (.ref D) (upd H1 D (.lst (picked xs p)))
theorem AW {a r:Sh}{b:Bool}{k:Nat}{f:Za}{fd:Zb}{ps:WF}{sp:Sp}{x:V}{u:Wy}{Q:VK} (z:ix a b) (F:ay X.prog X.w X.K X.mg X.base CX0 k f fd ps sp) (D:bG (k+2) X.A) (L:Binds X.K fd ps []) (I:Inv X pins σ H s) (B:RelV x u) (h:HY X.K a r sp x H Q) :
  Zh (model X.prog X.w) X.A (call (.builtin "sorted") [u] [(Yk "key",.ref f)]) (EP X pins σ Q) X.xe s:=by
 obtain⟨l,_,rfl,J,_,q⟩:=h;cases B;obtain⟨c,r,y,_⟩:=I.list J;have n:=r.length;refine call_function_entry_kw kind_sorted plain_sorted entry_sorted (ksk_s1 _ _) ?_;unfold Builtin.«sorted»
 (refine Ww (m:=checkCount "sorted" 1 1 _) (Wv ?_))
 refine Ww (collect_list y.isList ?_ (by rw[sizeLine_eq];lia))
 (refine Ww (wpAny_newList ?_ (by rw[sizeLine_eq];lia)))
 have j:=lQ s.heap c;have e:=vO s.heap c;have d:=qG s.heap c;show Zh _ _ _ _ _ { s with heap:=(jb s.heap c).push (seqObj "list" c.toArray 0) };show Zh _ _ (_ >>= λ_=>_) _ _ { s with heap:=(jb s.heap c).push (seqObj "list" c.toArray 0) };rw[show((s.heap.push (seqObj "list" #[] 0)).update s.heap.objs.size (Y8 (· ++ c.toArray))).objs.size=s.heap.objs.size+1 from j]
 generalize(jb s.heap c).push (seqObj "list" c.toArray 0)=h2 at e d ⊢;have M:Inv X pins σ H { s with heap:=h2 }:=I.kept (t':=s.toks) d;have i:H (s.heap.objs.size+1)=none:=I.hok.fresh (UN _);have G:cg X pins H (s.heap.objs.size+1):=I.rJ (UN _) i;refine Ww (Ws (wpAny_call_entry_kw slot_list_sort ⟨_,e,rfl⟩ entry_list_sort ?body (ksk_l1 _ _)))
 case body=>
  show Zh (model X.prog X.w) X.A.in1.in1 (Builtin.«list.sort» ⟨[.ref (s.heap.objs.size+1)],[(Yk "key",.ref f)]⟩) _ _ _;rw[ksk_t1];refine uD (s:={ s with heap:=h2 }) z F D L M e G r (by lia) q λ_ _ ⟨g,P,t,C,N⟩=>⟨g,P,t,C,λp _ E o O v=>?_⟩;refine⟨_,rfl,Wv ⟨_,rfl,?_⟩⟩;exact⟨.ref _,_,v,rfl,N _ p O E o⟩
def Ly (K:Wz) (a r:Sh) (sp:Sp) (ta:TA):TE:=λσ H Q=>ta σ H λvs H1=>∃x,vs=[x]/\HY K a r sp x H1 Q
theorem Fl {a r:Sh}{b:Bool}{k:Nat}{f:Za}{fd:Zb}{ps:WF}{sp:Sp}{e:Expr}{ta:TA}{y:Str}{p d pos j:Pos} (B:ix a b) (F:ay X.prog X.w X.K X.mg X.base CX0 k f fd ps sp) (D:bG (k+2) X.A) (G:Binds X.K fd ps [])
  (v:Gl X "sorted") (o:X.mg "sorted" = none) (m:Gl X y) (l:X.mg y=some (.ref f)) (M:PA X [e] ta) (g:(y == ("__debug__" : Str))=false:=by decide)
  (J:backTo pos (Zi [e] X.env)=(false,eval e X.env)::backTo pos (Zi [] X.env):=by rfl) (E:(backTo pos (Zi [e] X.env)).any (·.1)=false:=by rfl)
  (z:(backToKw pos (keywordEach [⟨some "key",.Name y d,j⟩] X.env)).all (·.1.isSome)=true:=by rfl) (i:(backToKw pos (keywordEach [⟨some "key",.Name y d,j⟩] X.env)).any (·.1.isNone)=false:=by rfl) :
  PE X (.Call (.Name "sorted" p) [e] [⟨some "key",.Name y d,j⟩] pos) (Ly X.K a r sp ta):=by
 intro c s N H Q I h;refine wpAny_Call_Name_kw (fm I v o boot_sorted ?_);refine callWith_kw (thn (M pos c s N H _ I h) λ_ _ ⟨_,_,n,C,t⟩=>?_) J E z i;obtain⟨x,rfl,q⟩:=t;obtain⟨u,rfl,L⟩:=C.one;refine kws_cons (mN n m l (kws_nil ?_) g);exact AW B F D G n L q
end
section
open PySem.SeqAt
open PySem.AutoSeq1 (wpAny_loadPart')
open PySem.MeetsSeq PySem.MeetsSeq2 PySem.MeetsSeq3
theorem index_loop {prog:Zd}{w:Ze}{A:Zc}{E:Wy->Wx->Prop}{s:Wx}{items:WG}{x:Wy}{e:Nat->Bool}{j:Nat} (v:j<items.size) (d:e j=true) (f:∀m,m<j->e m=false) (p:∀i (h:i<items.size),EqAt A s items[i] x (e i))
  {a:Nat->Option PySem.Fin×PUnit->Sem (ForInStep (Option PySem.Fin×PUnit))} (n:∀i u,a i u=(match items[i]? with
   | some y=>do
    let c <-eqBool y x
    if c=true then do
     let r <-retInt i
     pure (ForInStep.done (some r,⟨⟩))
    else pure (ForInStep.yield (none,⟨⟩))
   | _=>pure (ForInStep.yield (none,⟨⟩)))) {Q:Option PySem.Fin×PUnit->Wx->Prop} (q:Q (some (.done (.ret (.int j s.toks))),⟨⟩) { s with toks:=s.toks+1 }) :
  ∀(k i:Nat) (u:Option PySem.Fin×PUnit),i<=j->k=items.size - i->Zh (model prog w) A (forIn (List.range' i k 1) u a) Q E s:=by
 intro k
 induction k with
 | zero=>intro i u t o;lia
 | succ k l=>
  intro i u t o;rw[List.range'_succ,U3,n]
  (have b:i<items.size:=by lia)
  have g:items[i]? = some items[i]:=by simp[b]
  rw[g];refine Ww (Ww (p i b prog w _ _ ?_));cases hei:e i with
  | true=>
   have:i=j:=by
    by_cases z:i<j
    ·rw[f i z]at hei;cases hei
    ·lia
   subst this;rw[Zn rfl];refine Ww ?_;show Zh _ _ (retInt (i:Int)) _ _ s;unfold retInt
   (refine Ww (wpAny_mkInt ?_))
   (exact Wv (Wv (Wv q)))
  | false=>
   have:i≠j:=nn hei d
   rw[Zo TQ];refine Wv ?_;exact l (i+1) _ (by lia) (by lia)
end
section
variable {X:Cx}
def Gq (K:Wz):V->WD->Hp->VK->Prop:=λx vs H Q=>∃p xs y j,x = .ref p/\vs=[y]/\SqT K H p xs/\ie y=true/\xs.all ie=true/\j<xs.length/\eqV (xs.getD j .non) y=true/\(∀m,m<j->eqV (xs.getD m .non) y=false)/\Q (.int j) H
theorem HN:MtR X "tuple.index" (Gq X.K):=by
 intro _ s _ H x _ v _ Q I B M h;obtain⟨p,a,y,j,rfl,rfl,G,t,O,_,D,C,q⟩:=h;cases B;obtain⟨u,rfl,N⟩:=M.one;obtain⟨its,r,⟨⟨_,_,_,_⟩,o,c,n,d⟩,_⟩:=I.tuple G;simp only at c d;subst c d;have E:=r.length;have k:∀i (f:i<its.toArray.size) (A:Zc),SeqAt.EqAt A s its.toArray[i] u (eqV (a.getD i .non) y):=λi f A=>by
  have b:i<its.length:=by simpa using f
  have m:a[i]? = some a[i]:=by simp[E,b]
  obtain⟨w,z,g⟩:=r.get m;have L:its.toArray[i]=w:=by
   have:its[i]? = some its[i]:=by simp[b]
   rw[z]at this;simpa using(Yr this).symm
  have J:a.getD i .non=a[i]:=by rw[TU,m];rfl
  rw[L,J];exact Fi g N (T6.mp O _ (Uj _)) t
 refine wpAny_call_entry F.slot_tuple_index ⟨_,o,rfl⟩ F.entry_tuple_index ?_ (F.args_tuple_index_2 _ _);show Zh _ _ (Builtin.Tuple.tupleItemsOf (.ref p) >>= _) _ _ s;refine Ww ?_
 (unfold Builtin.Tuple.tupleItemsOf)
 refine Ww (wpAny_seqItems o rfl (Wv ?_));show Zh _ _ (forIn [0:min its.toArray.size its.toArray.size] ((none:Option PySem.Fin),PUnit.unit) _ >>= _) _ _ s;rw[Std.Legacy.Range.forIn_eq_forIn_range'];have l:([0:min its.toArray.size its.toArray.size]:Std.Legacy.Range).size=its.toArray.size:=by simp[Std.Legacy.Range.size]
 rw[l];refine Ww (index_loop (items:=its.toArray) (x:=u) (e:=λi=>eqV (a.getD i .non) y) (j:=j) (by rw[TL];lia) D C (λi f=>k i f _) (λi u=>?_) ?_ _ 0 _ (T2 _) rfl)
 ·rfl
 ·refine Wv ⟨_,rfl,?_⟩;exact⟨.int j,H,I.tok _,⟨_,rfl⟩,q⟩
def Lx (K:Wz):WD->Hp->VK->Prop:=λvs H Q=>∃x n t b,vs=[x,.ty n]/\qy K H x t/\kitOne K t (.type n)=some b/\Q (.bl b) H
theorem Aw:ia X (.builtin "isinstance") (Lx X.K):=by
 intro _ s _ H _ _ Q I f h;obtain⟨x,n,t,b,rfl,a,e,q⟩:=h;obtain⟨u,g,rfl,d,c⟩:=vals2 f;obtain rfl:g = Value.type n:=c;exact EN I d a e λ_=>⟨.bl b,H,I.tok _,rfl,q⟩
end
end L2
namespace L2
open PySem PySem.Spec PyProof.Rows
structure bC (K:Wz) (mg:Str->Option Wy) (x:Str) (st:Stmt) (ps:WF) (f:Za) (fd:Zb):Prop where
 fn:Fun K x x st f fd
 bd:Binds K fd ps []
 mg:mg x=some (.ref f)
theorem ae.new {H:Hp}{p:Za}{o:HO} (h:H p=none):ae H (upd H p o):=λb u e=>by rw[ao (aw e h)];exact e
def CN (D:Za) (Pv:WD->St->Hp->Prop):St->Hp->Prop:=λσ H=>∃acc,H D=some (.lst acc)/\Pv acc σ H
section
variable {K:Wz}{g:TG}{tt:TT}{te:TE}{D:Za}{Q:VK}{σ:St}{H:Hp}
theorem pF {J:It} (n:Nat) (a:Nat->WD->St->Hp->Prop) (j:H D=some (.lst [])) (k:a 0 [] σ H)
  (f:∀i acc σ H,i<n->H D=some (.lst acc)->a i acc σ H->J.go i H) (o:∀acc σ H,H D=some (.lst acc)->a n acc σ H->J.stop n H)
  (h:∀i acc σ H x H',i<n->H D=some (.lst acc)->a i acc σ H->J.yld i H x H'->g x σ H' λσ2 H2=>tt σ2 H2 λb H3=>if b=true then te σ2 H3 λv H4=>∃ys,H4 D=some (.lst ys)/\ys.length<Zg/\CN D (a (i+1)) σ2 (upd H4 D (.lst (ys++[v])))else CN D (a (i+1)) σ2 H3)
  (l:∀acc σ H,H D=some (.lst acc)->a n acc σ H->Q (.ref D) H):sP g tt te J D Q σ H:=by
 refine⟨λi m σ H=>m=n - i/\i<=n/\CN D (a i) σ H,⟨n,by simp,T2 _,[],j,k⟩,?_⟩;rintro i m σ H ⟨rfl,_,acc,d,p⟩;by_cases c:i<n
 ·exact .inr ⟨f i acc σ H c d p,CN D (a (i+1)),λσ' H' p'=>⟨n - (i+1),by lia,rfl,c,p'⟩,λx H' y=>h i acc σ H x H' c d p y⟩
 ·have e:i=n:=by lia
  subst e;exact .inl ⟨o acc σ H d p,l acc σ H d p⟩
theorem aN {a:Za}{xs:WD} (c:Nat->WD->St->Hp->Prop) (j:H D=some (.lst [])) (l:c 0 [] σ H) (h:∀i acc σ H,i<=xs.length->H D=some (.lst acc)->c i acc σ H->SqL K H a xs)
  (m:∀i x acc σ H,xs[i]? = some x->H D=some (.lst acc)->c i acc σ H->g x σ H λσ2 H2=>tt σ2 H2 λb H3=>if b=true then te σ2 H3 λv H4=>∃ys,H4 D=some (.lst ys)/\ys.length<Zg/\CN D (c (i+1)) σ2 (upd H4 D (.lst (ys++[v])))else CN D (c (i+1)) σ2 H3)
  (k:∀acc σ H,H D=some (.lst acc)->c xs.length acc σ H->Q (.ref D) H):sP g tt te (Itl K a) D Q σ H:=by
 refine pF xs.length c j l (λi acc σ H f d p=>⟨xs,xs[i],h i acc σ H (UH f) d p,by simp[f]⟩) (λacc σ H d p=>⟨xs,h _ acc σ H (Tw _) d p,Tw _⟩) (λi acc σ H x _ f d p y=>?_) k;obtain⟨e,y⟩:=y;subst e;exact m i x acc σ _ (y xs (h i acc σ _ (UH f) d p)) d p
theorem fL {lo:Int}{n:Nat} (a:Nat->WD->St->Hp->Prop) (f:H D=some (.lst [])) (j:a 0 [] σ H)
  (k:∀i acc σ H,i<n->H D=some (.lst acc)->a i acc σ H->g (.int (lo+i)) σ H λσ2 H2=>tt σ2 H2 λb H3=>if b=true then te σ2 H3 λv H4=>∃ys,H4 D=some (.lst ys)/\ys.length<Zg/\CN D (a (i+1)) σ2 (upd H4 D (.lst (ys++[v])))else CN D (a (i+1)) σ2 H3)
  (h:∀acc σ H,H D=some (.lst acc)->a n acc σ H->Q (.ref D) H):sP g tt te (Itr lo n) D Q σ H:=by
 refine pF n a f j (λi acc σ H d c p=>d) (λacc σ H c p=>Tw _) (λi acc σ H x _ d c p y=>?_) h;obtain⟨e,y⟩:=y;subst e y;exact k i acc σ _ d c p
end
theorem p9 {K:Wz}{sp:Sp}{f:WD->Hp->Prop}{H0:Hp}:∀(xs:WD) (kds:WI) (ks:WD) (dks:WI) (H:Hp),xs.length=kds.length->ae H0 H->aC K H ks dks ->
  (∀(i:Nat) (x:V) (d:Zf) (H:Hp) (Q:VK),xs[i]? = some x->kds[i]? = some d->ae H0 H->(∀r H',ae H H'->Den K H' r d->Q r H')->sp [x] H Q E0)->(∀ks' H',ae H0 H'->aC K H' ks' (dks++kds)->f ks' H')->qE sp xs ks H f
 | [],[],ks,dks,H,_,hs,hd,_,hq=>hq ks H hs (by simpa using hd)
 | x::xs,d::kds,ks,dks,H,hl,hs,hd,hsp,hq=>by
  refine hsp 0 x d H _ rfl rfl hs λr H' g dr=>?_;refine p9 xs kds (ks++[r]) (dks++[d]) H' (by simpa using hl) (hs.trans g) ((hd.same g).append (.cons dr .nil)) (λi y e a Q c b=>hsp (i+1) y e a Q (by simpa using c) (by simpa using b)) λks' a c b=>hq ks' a c (by simpa using b)
def LR (sc osc:Scope) (N N':WF) (n:Nat) (fi:List Nat):Bool:=
 decide (sc.kind = .function) && decide (∀y∈sc.names,y.2 = .local->sc.names.lookup y.1=some .local)
 && decide (∀y∈sc.names,y.2 = .free->osc.names.lookup y.1=some .cell\/osc.names.lookup y.1=some .free)
 && decide (N'.length=n+fi.length)
 && (Y7 fi.length).all λj=>match fi[j]? with
  | some k=>match N'[n+j]? with
   | some x=>decide (N[k]? = some x) && decide (sc.names.lookup x=some .free) && decide ((x,NameKind.cell)∉sc.names)
   | none=>false
  | none=>false
theorem bj {X:Cx}{d:Scope}{N':WF}{n:Nat}{fi:List Nat} (osc:Scope) (N:WF) (h:LR d osc N N' n fi=true) (l:X.env.scope=osc:=by rfl) (g:X.N=N:=by rfl):lS X d N' n fi:=by
 subst l g;simp only[LR,Ub,decide_eq_true_eq]at h;obtain⟨⟨⟨⟨p,i⟩,f⟩,o⟩,m⟩:=h;refine⟨p,i,f,o,λj k b=>?_⟩;have c:j<fi.length:=by
  rcases Ur j fi.length with q | q
  ·exact q
  ·rw[Ux q]at b;cases b
 have a:=T6.mp m j (Uo.mpr c);rw[b]at a;dsimp only at a;cases e:N'[n+j]? with
 | none=>rw[e]at a;cases a
 | some x=>
  rw[e]at a;simp only[Ub,decide_eq_true_eq]at a;exact⟨x,rfl,a.1.1,a.1.2,a.2⟩
def lim (H H':Hp):Hp:=λb=>match H b with | some (.lst _)=>none | _=>H' b
def wo (D:Za) (H:Hp):Hp:=λb=>if b=D then none else H b
section
variable {H H' H1 H2 H3:Hp}{D E p b:Za}{o u:HO}{xs ys:WD}
theorem bw (h:∀zs,H b≠some (.lst zs)):lim H H' b=H' b:=by
 unfold lim
 split
 ·rename_i zs e;exact(h zs e).elim
 ·rfl
theorem cf (h:H p=none):lim H H' p=H' p:=bw λzs e=>by rw[h]at e;cases e
theorem cE:ae (lim H H') H':=λb o e=>by
 unfold lim at e
 split at e
 ·cases e
 ·exact e
theorem fQ (h:lim H H' b=some o):∀zs,H b≠some (.lst zs):=λzs e=>by
 simp only[lim,e]at h;cases h
theorem bQ (h:ae H1 H2):ae (lim H H1) (lim H H2):=λb o e=>by
 rw[bw (fQ e)];exact h b o (cE b o e)
def LL (H H':Hp):Prop:=∀b ys,H b=some (.lst ys)->∃zs,H' b=some (.lst zs)
theorem ae.ll (h:ae H H'):LL H H':=λb ys e=>⟨ys,h b _ e⟩
theorem cW (h:LL H H1):ae (lim H1 H2) (lim H H2):=λb o e=>by
 rw[bw]
 ·exact cE b o e
 ·intro zs q;obtain⟨z2,q2⟩:=h b zs q;exact fQ e z2 q2
theorem av (h:b≠D):wo D H b=H b:=by simp[wo,h]
theorem Zp {H:Hp}{c a0:Za}{q:Option HO} (h0:c≠a0) (e:H c=q):(wo a0 H) c=q:=by rw[av h0];exact e
theorem Zq {H:Hp}{c a0 a1:Za}{q:Option HO} (h0:c≠a0) (h1:c≠a1) (e:H c=q):(wo a0 (wo a1 H)) c=q:=by rw[av h0,av h1];exact e
theorem Zr {H:Hp}{c a0 a1 a2:Za}{q:Option HO} (h0:c≠a0) (h1:c≠a1) (h2:c≠a2) (e:H c=q):(wo a0 (wo a1 (wo a2 H))) c=q:=by rw[av h0,av h1,av h2];exact e
theorem cu:wo D H D=none:=by simp[wo]
theorem aZ (h:wo D H b=some o):b≠D/\H b=some o:=by
 unfold wo at h
 split at h
 ·cases h
 ·rename_i q;exact⟨q,h⟩
theorem bA:ae (wo D H) H:=λb o e=>(aZ e).2
theorem iK (h:ae H1 H2):ae (wo D H1) (wo D H2):=λb o e=>by
 rw[av (aZ e).1];exact h b o (aZ e).2
theorem Bx:wo D (upd H D o)=wo D H:=by
 funext b
 by_cases e:b=D
 ·subst e;rw[cu,cu]
 ·rw[av e,av e,ao e]
theorem An:ae (wo D H) (upd H D o):=λb u e=>by rw[ao (aZ e).1];exact(aZ e).2
theorem bI (h:ae (wo D H1) H2) (g:ae (wo D H2) H3):ae (wo D H1) H3:=λb o e=>g b o (Zp ((aZ e).1) (h b o e))
theorem Fc (h:H D=some (.lst ys)):ae (lim H H') (wo D H'):=λb o e=>by
 have hb:b≠D:=λq=>by subst q;exact fQ e _ h
 rw[av hb];exact cE b o e
theorem mI (h:H D=some (.lst ys)):lim H (upd H' D o)=lim H H':=by
 funext b
 by_cases e:b=D
 ·subst e;simp only[lim,h]
 ·unfold lim;rw[ao e]
theorem fU (h:H D=none) (s:ae H H'):ae H (wo D H'):=λb o e=>by
 rw[av (aw e h)];exact s b o e
theorem B9 (s:ae H H') (h:H' D=some (.lst ys)):LL (upd H D o) H':=λb zs e=>by
 by_cases q:b=D
 ·subst q;exact⟨ys,h⟩
 ·rw[ao q]at e;exact⟨zs,s b _ e⟩
theorem aI {α:Type}{xs:List α}{i:Nat}{x:α} (h:xs[i]? = some x):i<xs.length:=by
 rcases Ur i xs.length with q | q
 ·exact q
 ·rw[Ux q]at h;cases h
theorem cZ {α β:Type}{xs:List α}{i:Nat}{x:α} (h:xs[i]? = some x) (f:α->β):(xs.take (i+1)).map f=(xs.take i).map f++[f x]:=by
 rw[T4,h];simp
theorem aA (h:H D=none) (s:ae H H'):ae H (upd H' D o):=λb u e=>by
 rw[ao (aw e h)];exact s b u e
end
theorem cC {i:Nat}{x:V}{σ:St}{H:Hp}{F G:St->Hp->Prop} (h:F (σ.set i (some x)) H):aX i x σ H λσ2 H2=>MY σ2 H2 λb H3=>if b=true then F σ2 H3 else G σ2 H3:=by
 show(if true=true then F (σ.set i (some x)) H else G (σ.set i (some x)) H);rw[Zn rfl];exact h
theorem small {n:Nat} (h:n<10000000):n<Zg:=by rw[sizeLine_eq];exact T9 h (by decide)
end L2
namespace L2
open PySem PySem.Spec PyProof.Rows PySem.Builtin PySem.Builtin.Str
theorem SqT.lim {K:Wz}{H H0 H':Hp}{a:Za}{xs:WD} (b:ae H H0) (c:ae H H') (h:SqT K H a xs):SqT K (L2.lim H0 H') a xs:=by
 rcases h with(h | ⟨o,h⟩) | h
 ·exact .inl (.inl (by rw[bw λzs e=>by rw[b _ _ h]at e;cases e];exact c _ _ h))
 ·exact .inl (.inr ⟨o,by rw[bw λzs e=>by rw[b _ _ h]at e;cases e];exact c _ _ h⟩)
 ·exact .inr h
def j8 (K:Wz):WD->Hp->VK->Prop:=λxs H Q=>∃p ys,xs=[.ref p]/\(SqL K H p ys\/SqT K H p ys)/\∀l,H l=none->Q (.ref l) (upd H l (.lst ys))
theorem fG {X:Cx}:ia X (.type "list") (j8 X.K):=yc
theorem i0:bootBuiltins "list" = some (.type "list"):=by decide +kernel
theorem mj:bootBuiltins "sorted" = some (.builtin "sorted"):=by decide +kernel
theorem cK {n:Nat}:∀(l:WI),(∀d∈l,d.depth<=n)->Y3 l<=n
 | [],_=>T2 _
 | d::r,h=>by
  have c:=h d (TH ..);have a:=cK r λe b=>h e (TC _ b);unfold Y3;exact Nat.max_le.mpr ⟨c,a⟩
theorem Kx {z:Str}{i c:Nat} (hz:Y5 z=true) (h:z.cps[i]? = some c):Y5 ⟨#[c]⟩=true:=by
 unfold Y5 at hz ⊢;rw[VT]at hz;have a:i<z.cps.size:=by
  rcases Ur i z.cps.size with q | q
  ·exact q
  ·rw[UM q]at h;cases h
 have b:=hz i a;rw[Uc a]at h;cases h;simpa using b
theorem vV {z:Str} (h:∀c∈z.cps,c<1114112):Y5 z=true:=by
 unfold Y5;rw[VT];intro i hi;simpa using h _ (Array.getElem_mem hi)
theorem mM {z:Str} (h:Y5 z=true):∀c∈z.cps,c<1114112:=by
 unfold Y5 at h;intro c hc;obtain⟨i,hi,rfl⟩:=Array.mem_iff_getElem.mp hc;rw[VT]at h;simpa using h i hi
theorem Ef {z:Str}{a b:Nat} (hz:Y5 z=true):Y5 (strSub z a b)=true/\(strSub z a b).length<=z.length:=by
 unfold strSub;constructor
 ·refine vV λc d=>?_;refine mM hz c ?_;obtain⟨i,_,rfl⟩:=Array.mem_iff_getElem.mp d;simp only[Array.getElem_extract];exact Array.getElem_mem _
 ·show(Array.extract _ _ _).size<=z.cps.size;rw[VN];lia
theorem Au {z y:Str} (hz:Y5 z=true):∀x∈Y6 z y,Y5 x=true/\x.length<=z.length:=by
 intro x a;have b:x∈[z]->Y5 x=true/\x.length<=z.length:=λh=>by
  simp only[Tz]at h;subst h;exact⟨hz,Tw _⟩
 unfold Y6 at a
 split at a
 ·exact b a
 ·split at a
  ·exact b a
  ·unfold partsBetween at a;simp only[Tv]at a;obtain⟨p,_,rfl⟩:=a;exact Ef hz
theorem Be {z y:Str}:1<=(Y6 z y).length/\(Y6 z y).length<=z.length+2:=by
 have a:=StrLaws.occ_length_le z y 0 z.length (z.length+1);unfold Y6
 split
 ·simp
 ·split
  ·simp
  ·rw[length_partsBetween];lia
theorem C7 {y:Str} (b:Y5 y=true):∀(xs:WF) (acc:Array Nat),(∀x∈xs,Y5 x=true)->(∀c∈acc,c<1114112)->∀c∈xs.foldl (λacc p=>acc++y.cps++p.cps) acc,c<1114112
 | [],acc,_,h=>h
 | x::r,acc,hx,h=>by
  refine C7 b r _ (λz d=>hx z (TC _ d)) λc a=>?_;rcases VB.mp a with a | a
  ·rcases VB.mp a with a | a
   ·exact h c a
   ·exact mM b c a
  ·exact mM (hx x (TH ..)) c a
theorem yY {y:Str}{m:Nat}:∀(xs:WF) (acc:Array Nat),(∀x∈xs,x.length<=m)->(xs.foldl (λacc p=>acc++y.cps++p.cps) acc).size<=acc.size+xs.length * (m+y.length)
 | [],acc,_=>by simp
 | x::r,acc,hx=>by
  have b:=yY (y:=y) r (acc++y.cps++x.cps) λz a=>hx z (TC _ a);have d:x.cps.size<=m:=hx x (TH ..);have c:(acc++y.cps++x.cps).size=acc.size+y.cps.size+x.cps.size:=by simp;lia
  have e:y.length=y.cps.size:=rfl;simp only[List.foldl_cons,TR,Nat.add_mul,Nat.one_mul]at b ⊢;lia
theorem Cw {y:Str}{m:Nat} (e:Y5 y=true) {xs:WF} (h:∀x∈xs,Y5 x=true/\x.length<=m):Y5 (YH y xs)=true/\(YH y xs).length<=xs.length * (m+y.length):=by
 cases xs with
 | nil=>exact⟨by show Y5 Yh=true;decide +kernel,T2 _⟩
 | cons x r=>
  have d:=h x (TH ..);have c:∀z∈r,Y5 z=true/\z.length<=m:=λz a=>h z (TC _ a);refine⟨vV (C7 e r x.cps (λz a=>(c z a).1) (mM d.1)),?_⟩;have f:=yY (y:=y) (m:=m) r x.cps λz a=>(c z a).2;have g:x.cps.size<=m:=d.2;show(List.foldl (λ(b:Array Nat) (p:Str)=>b++y.cps++p.cps) x.cps r).size<=(x::r).length * (m+y.length);simp only[TR,Nat.add_mul,Nat.one_mul]at f ⊢;lia
theorem Ik {m:Nat}:∀{xs:WF},(∀x∈xs,x.length<=m)->(xs.map (·.length)).sum<=xs.length * m
 | [],_=>by simp
 | x::r,h=>by
  have b:=Ik λz a=>h z (TC x a);have c:=h x (TH ..);simp only[TX,Uw,TR,Nat.add_mul,Nat.one_mul]at b ⊢;lia
theorem mx {y:Str}{m:Nat}{xs:WF} (h:∀x∈xs,x.length<=m) (hb:xs.length * m+xs.length * y.length<=16777216):JoinOk y xs=true:=by
 have h1:=Ik h;exact joinOk_of (by lia)
section
variable {K:Wz}{tt:TT}{D:Za}{Q:VK}{H:Hp}
theorem jy {K:Wz}{H:Hp}:∀{l:WF},(∀x∈l,Y5 x=true)->aC K H (l.map V.str) (l.map PyData.str)
 | [],_=>.nil
 | x::r,h=>.cons (.str (h x (TH ..))) (jy λy hy=>h y (TC _ hy))
end
end L2
namespace L2
open PySem PySem.Spec PyProof.Rows
def Itz (K:Wz) (a b:Za):It:=
 ⟨λi H=>∃xs ys x y,SqL K H a xs/\SqL K H b ys/\xs[i]? = some x/\ys[i]? = some y,
   λi H x H'=>∃p u v,H p=none/\(∀xs,SqL K H a xs->xs[i]? = some u)/\(∀ys,SqL K H b ys->ys[i]? = some v)/\x = .ref p/\H' = upd H p (.tup [u,v]),
   λi H=>∃xs ys,SqL K H a xs/\SqL K H b ys/\(xs.length<=i\/ys.length<=i)⟩
theorem Gy {P:Zd}{w:Ze}{K:Wz}{Nb:List Expr}{k:Nat}{pos:Pos} (a b z TI TO i1 i2:Za) (D:ZipApart z TI TO i1 i2 a b) :
  Turn P w K (.Tuple Nb k pos) (Itz K a b) [z,TI,TO,i1,i2] z (λi h=>IsZip h z TI TO .none/\IsPair h TI (.ref i1) (.ref i2)/\(∃u v,IsPair h TO u v)/\h.IsListIter i1 a i/\h.IsListIter i2 b i) where
 mem:=by simp
 obj:=λi h n c M=>by
  obtain⟨A,f,⟨u,v,j⟩,⟨o1,e1,_,g1⟩,⟨o2,e2,_,g2⟩⟩:=n;simp only[TM,UR,or_false]at M;rcases M with rfl | rfl | rfl | rfl | rfl
  ·exact⟨_,A,λv q=>by cases q⟩
  ·exact⟨_,f,λv q=>by cases q⟩
  ·exact⟨_,j,λv q=>by cases q⟩
  ·exact⟨o1,e1,λv q=>by rw[g1]at q;cases q⟩
  ·exact⟨o2,e2,λv q=>by rw[g2]at q;cases q⟩
 keep:=λi h h' n m=>by
  obtain⟨A,f,⟨u,v,j⟩,F,J⟩:=n;exact⟨m z (by simp) _ A,m TI (by simp) _ f,⟨u,v,m TO (by simp) _ j⟩,F.at λo e=>m i1 (by simp) o e,J.at λo e=>m i2 (by simp) o e⟩
 item:=by
  intro X R V hK M i t s σ H E I N n hg;subst R V hK;obtain⟨xs,ys,x,y,O,r,G,hy⟩:=hg;obtain⟨Q,rv,p,_⟩:=I.list O;obtain⟨Z,C,U,_⟩:=I.list r;obtain⟨u,hu,ru⟩:=rv.get G;obtain⟨v,hv,W⟩:=C.get hy;obtain⟨A,f,⟨u0,v0,j⟩,F,J⟩:=n;have l:∀{b:Za}{o:Obj},s.heap.get? b=some o->b<s.heap.objs.size:=λe=>Y2 e;have T:=l A;have SJ:=l f;have S0:=l j;have aa:i1<s.heap.objs.size:=by obtain⟨_,e,_⟩:=F;exact l e
  have a8:i2<s.heap.objs.size:=by obtain⟨_,e,_⟩:=J;exact l e
  refine wpAny_pyNext_zip_item D A f j F J p.isList U.isList (x:=u) (y:=v) (by simpa using hu) (by simpa using hv) λh' a1 a2 a3 a4 a5 _ m=>?_;refine⟨_,rfl,?_⟩;refine wpAny_letOwnedTupleGo_zip a1 λg S L=>?_;have a7:H s.heap.objs.size=none:=I.hok.fresh (Tw _);have a0:g.get? s.heap.objs.size=some { cls:=.type "tuple",data:=.seq #[u,v] }:=(L.2 _ (Vl T)).trans a5;have I2:Inv X t σ (upd H s.heap.objs.size (.tup [x,y])) { s with heap:=g }:=I.pV (t':=s.toks) (wr:=[z,TI,TO,i1,i2]) N (λc o d ec=>by
    have n1:c≠z:=λq=>d (by simp[q]);have n2:c≠TO:=λq=>d (by simp[q]);have n3:c≠i1:=λq=>d (by simp[q]);have n4:c≠i2:=λq=>d (by simp[q]);exact(L.2 c n1).trans (m c o n1 n2 n3 n4 ec)) (Tw _) ⟨by show 2<=Zg;decide,[u,v],.cons ru (.cons W .nil),⟨_,a0,rfl,_,rfl⟩⟩
  refine⟨.ref s.heap.objs.size,_,I2,rfl,⟨_,x,y,a7,λzs B=>by rw[I.tu B O];exact G,λzs B=>by rw[I.tu B r];exact hy,rfl,rfl⟩,⟨S,?_,⟨u,v,?_⟩,?_,?_⟩,λc d=>?_⟩
  ·exact(L.2 _ D.TIz).trans (m _ _ D.TIz D.TITO D.TIi1 D.TIi2 f)
  ·exact(L.2 _ D.TOz).trans a2
  ·exact a3.at λo e=>(L.2 _ D.i1z).trans e
  ·exact a4.at λo e=>(L.2 _ D.i2z).trans e
  ·have Y:c≠s.heap.objs.size:=by
    simp only[TM,UR,or_false]at d;rcases d with rfl | rfl | rfl | rfl | rfl <;> exact T5 (by assumption)
   rw[ao Y];exact(N c d).1
 done:=by
  intro X R V hK M i t s σ H E I N n hg;subst R V hK;obtain⟨xs,ys,O,r,G⟩:=hg;obtain⟨Q,rv,p,_⟩:=I.list O;obtain⟨Z,C,U,_⟩:=I.list r;have hl:=rv.length;have a9:=C.length;obtain⟨A,f,⟨u0,v0,j⟩,F,J⟩:=n;refine wpAny_pyNext_zip_end (I.ok.hd M) D A f j F J p.isList U.isList ?_ λh' m=>⟨rfl,I.eZ (t':=s.toks) (wr:=[z,TI,TO,i1,i2]) N λc o d e=>m c o (λq=>d (by simp[q])) (λq=>d (by simp[q])) (λq=>d (by simp[q])) (λq=>d (by simp[q])) e⟩;rcases G with G | G
  ·exact .inl (by simp;lia)
  ·exact .inr (by simp;lia)
 self:=λ_ _ _ _ _ n h=>wpAny_pyIter_zip n.1 h
section
variable {X:Cx}
def QK (K:Wz) (ta:TA):TI:=λσ H R=>ta σ H λvs H1=>∃a b,vs=[.ref a,.ref b]/\(∃xs,SqL K H1 a xs)/\(∃ys,SqL K H1 b ys)/\R (Itz K a b) H1
theorem tE {v:List Expr}{k:Nat}{MP:Pos}{a b:Expr}{ta:TA}{p pos:Pos} (A:Gl X "zip") (y:X.mg "zip" = none) (F:PA X [a,b] ta) (x:Zi [a,b] X.env=(false,eval a X.env)::Zi [b] X.env:=by rfl) (l:(backTo pos (Zi [b] X.env)).any (·.1)=false:=by rfl):PI X (.Tuple v k MP) (.Call (.Name "zip" p) [a,b] [] pos) (QK X.K ta):=by
 intro d s J H R I h;refine Call_ (fm I A y boot_zip (Yp (thn (F pos d s J H _ I h) λ_ s1 ⟨_,G,g,m,z⟩=>?_) x l));obtain⟨a,b,e,⟨_,C⟩,⟨_,o⟩,q⟩:=z;subst e;obtain⟨_,_,rfl,m,B⟩:=vals2 m;cases m;cases B;obtain⟨_,_,r,_⟩:=g.list C;obtain⟨_,_,f,_⟩:=g.list o;have N : @LT.lt Nat _ a s1.heap.objs.size:=by obtain⟨_,e,_⟩:=r.isList;exact Y2 e
 have M : @LT.lt Nat _ b s1.heap.objs.size:=by obtain⟨_,e,_⟩:=f.isList;exact Y2 e
 refine call_zip_2 r.isList f.isList λ_ t n j L E _ w=>wpAny_pyIter_zip t ?_;have D:ZipApart (s1.heap.objs.size+4) (s1.heap.objs.size+2) (s1.heap.objs.size+3) s1.heap.objs.size (s1.heap.objs.size+1) a b:=by constructor <;> (show((_:Nat)≠_)) <;> lia
 refine⟨s1.heap.objs.size+4,[s1.heap.objs.size+4,s1.heap.objs.size+2,s1.heap.objs.size+3,s1.heap.objs.size,s1.heap.objs.size+1],_,_,G,rfl,g.kept (t':=s1.toks) w,Gy a b _ _ _ _ _ D,⟨t,n,⟨_,_,j⟩,L,E⟩,λc u=>?_,q⟩;have i:s1.heap.objs.size<=c:=by
  simp only[TM,UR,or_false]at u;rcases u with rfl | rfl | rfl | rfl | rfl <;> first | exact Tw _ | exact Nat.le_add_right _ _
 exact g.rJ i (g.hok.fresh i)
end
section
variable {K:Wz}{g:TG}{tt:TT}{te:TE}{D:Za}{Q:VK}{σ:St}{H:Hp}
theorem ul {a b:Za}{xs ys:WD} (c:Nat->WD->St->Hp->Prop) (l:H D=some (.lst [])) (s:c 0 [] σ H) (j:∀i acc σ H,H D=some (.lst acc)->c i acc σ H->SqL K H a xs/\SqL K H b ys)
  (k:∀i x y acc σ H p,xs[i]? = some x->ys[i]? = some y->H D=some (.lst acc)->c i acc σ H->H p=none->g (.ref p) σ (upd H p (.tup [x,y])) λσ2 H2=>tt σ2 H2 λb H3=>if b=true then te σ2 H3 λv H4=>∃ys,H4 D=some (.lst ys)/\ys.length<Zg/\CN D (c (i+1)) σ2 (upd H4 D (.lst (ys++[v])))else CN D (c (i+1)) σ2 H3)
  (A:∀acc σ H,H D=some (.lst acc)->c (min xs.length ys.length) acc σ H->Q (.ref D) H):sP g tt te (Itz K a b) D Q σ H:=by
 refine pF (min xs.length ys.length) c l s (λi acc σ H z d p=>?_) (λacc σ H d p=>?_) (λi acc σ H x _ z d p y=>?_) A
 ·obtain⟨h,f⟩:=j i acc σ H d p;have o:i<xs.length:=by lia
  have w:i<ys.length:=by lia
  exact⟨xs,ys,xs[i],ys[i],h,f,by simp[o],by simp[w]⟩
 ·obtain⟨h,f⟩:=j _ acc σ H d p;exact⟨xs,ys,h,f,by lia⟩
 ·obtain⟨q,u,v,r,t,n,e,m⟩:=y;subst e m;obtain⟨h,f⟩:=j i acc σ H d p;exact k i u v acc σ _ q (t xs h) (n ys f) d p r
theorem CK {a b:Za}{xs ys:WD}{tb:TS}{D:Ends} (c:Nat->St->Hp->Prop) (t:c 0 σ H) (n:∀i σ H,c i σ H->SqL K H a xs/\SqL K H b ys)
  (k:∀i x y σ H p,xs[i]? = some x->ys[i]? = some y->c i σ H->H p=none->g (.ref p) σ (upd H p (.tup [x,y])) λσ2 H2=>tb { D with nx:=c (i+1),ct:=c (i+1),bk:=D.nx } σ2 H2) (A:∀σ H,c (min xs.length ys.length) σ H->D.nx σ H) :
  ∃W:Nat->Nat->St->Hp->Prop,(∃m,W 0 m σ H)/\∀i m σ H,W i m σ H ->
   ((Itz K a b).stop i H/\D.nx σ H)\/((Itz K a b).go i H/\∃N:St->Hp->Prop,(∀σ' H',N σ' H'->∃m',m' < m/\W (i+1) m' σ' H')/\∀x H',(Itz K a b).yld i H x H'->g x σ H' λσ2 H2=>tb { D with nx:=N,ct:=N,bk:=D.nx } σ2 H2):=by
 refine⟨λi m σ H=>m=min xs.length ys.length - i/\i<=min xs.length ys.length/\c i σ H,⟨_,rfl,T2 _,t⟩,?_⟩;rintro i m σ H ⟨rfl,_,p⟩;obtain⟨h,d⟩:=n i σ H p;by_cases f:i<min xs.length ys.length
 ·have r:i<xs.length:=by lia
  have z:i<ys.length:=by lia
  refine .inr ⟨⟨xs,ys,xs[i],ys[i],h,d,by simp[r],by simp[z]⟩,c (i+1),λσ' H' j=>⟨min xs.length ys.length - (i+1),by lia,rfl,f,j⟩,λx H' y=>?_⟩;obtain⟨q,u,v,s,w,o,e,l⟩:=y;subst e l;exact k i u v σ _ q (w xs h) (o ys d) p s
 ·have e:i=min xs.length ys.length:=by lia
  subst e;exact .inl ⟨⟨xs,ys,h,d,by lia⟩,A σ H p⟩
end
section
variable {X:Cx}
def J0:V->WD->Hp->VK->Prop:=λx vs H Q=>∃z y,x = .str z/\vs=[.str y]/\z.length<=Zg/\Q (.str (Z0 z y)) H
theorem Em:MtR X "str.strip" J0:=by
 intro _ s _ H x _ v _ Q I b d h;obtain⟨z,y,rfl,rfl,c,q⟩:=h;obtain⟨t,rfl⟩:=b;obtain⟨u,rfl,a,rfl⟩:=d.one;exact SC.stripChars (λa k=>⟨.str _,H,I.tok _,⟨_,rfl⟩,q⟩) c
def MT:V->WD->Hp->VK->Prop:=λx vs H Q=>∃z y,x = .str z/\vs=[.str y]/\z.length<=Zg/\Q (.str (Txt.removeprefix z y)) H
theorem FF:MtR X "str.removeprefix" MT:=by
 intro _ s _ H x _ v _ Q I b d h;obtain⟨z,y,rfl,rfl,c,q⟩:=h;obtain⟨t,rfl⟩:=b;obtain⟨u,rfl,a,rfl⟩:=d.one;exact SC.removeprefix (λa k=>⟨.str _,H,I.tok _,⟨_,rfl⟩,q⟩) c
theorem nJ:∀{bs:List Bool}{us:WJ},aO (bs.map V.bl) us->us=bs.map Value.bool
 | [],_,h=>by cases h;rfl
 | b::r,_,h=>by
  cases h with
  | cons h1 t=>
   obtain rfl:=h1;rw[nJ t];rfl
theorem range_all (bs:List Bool):(Y7 bs.length).all (λi=>bs.getD i true)=bs.all id:=by
 (rw[Ue,T6,T6])
 constructor
 ·intro h x c;obtain⟨i,b,rfl⟩:=UU.mp c
  (have:=h i (Uo.mpr b))
  simpa[Yx,Tu b]using this
 ·intro h i b
  (have a:=Uo.mp b)
  have:=h bs[i] (Uj a);simpa[Yx,Tu a]using this
theorem range_any (bs:List Bool):(Y7 bs.length).any (λi=>bs.getD i true)=bs.any id:=by
 (rw[Ue,UC,UC])
 constructor
 ·rintro⟨i,b,h⟩
  (have a:=Uo.mp b)
  refine⟨bs[i],Uj a,?_⟩;simpa[Yx,Tu a]using h
 ·rintro⟨x,c,h⟩;obtain⟨i,b,rfl⟩:=UU.mp c;exact⟨i,Uo.mpr b,by simpa[Yx,Tu b]using h⟩
def FO (K:Wz):WD->Hp->VK->Prop:=λxs H Q=>∃(p:Za) (bs:List Bool),xs=[.ref p]/\SqL K H p (bs.map V.bl)/\Q (.bl (bs.all id)) H
def O9 (K:Wz):WD->Hp->VK->Prop:=λxs H Q=>∃(p:Za) (bs:List Bool),xs=[.ref p]/\SqL K H p (bs.map V.bl)/\Q (.bl (bs.any id)) H
theorem rn {P:Zd}{w:Ze}{A:Zc} (bs:List Bool):TruthOf P w A (λi v=>(bs.map Value.bool).toArray[i]? = some v) (λi=>bs.getD i true):=by
 intro i v s Q E f d;have a:(bs.map Value.bool)[i]? = some v:=by simpa using f
 rw[TF]at a;cases e:bs[i]? with
 | none=>rw[e]at a;cases a
 | some b=>
  rw[e]at a;cases a;refine wpAny_truthy_bool ?_;have:bs.getD i true=b:=by simp[Yx,e]
  have c:Q (bs.getD i true) s:=d
  rwa [this]at c
theorem pE (m:X.calm=true):ia X (.builtin "all") (FO X.K):=by
 intro _ s _ H _ _ Q I r h;obtain⟨p,bs,rfl,k,q⟩:=h;obtain⟨u,rfl,g⟩:=vals1 r;cases g;obtain⟨_,l,a,_⟩:=I.list k;have e:=nJ l;subst e;have j:p≠s.heap.objs.size:=by obtain⟨_,e,_⟩:=a.isList;exact T5 (Y2 e)
 refine call_all_walk (wpAny_pyIter_list a.isList ?_);refine⟨s.heap.objs.size,_,_,_,_,_,_,rfl,Walks.list (A:=X.A.in1) (show X.A.in1.handled=none from I.ok.hd m) s.heap.objs.size p j (bs.map Value.bool).toArray,⟨⟨_,Y1 _ rfl,rfl,rfl⟩,a.isList.push _⟩,rn bs,λ_ i d=>?_⟩;have f:(bs.map Value.bool).toArray.size=bs.length:=by simp
 rw[f,range_all];refine⟨.bl _,H,I.kept (t':=i) λb o e=>d b o (λc=>?_) (Wu _ e),rfl,q⟩;simp only[Tz]at c;exact absurd (Y2 e) (by rw[c];exact Uz _)
theorem Ig (m:X.calm=true):ia X (.builtin "any") (O9 X.K):=by
 intro _ s _ H _ _ Q I r h;obtain⟨p,bs,rfl,k,q⟩:=h;obtain⟨u,rfl,g⟩:=vals1 r;cases g;obtain⟨_,l,a,_⟩:=I.list k;have e:=nJ l;subst e;have j:p≠s.heap.objs.size:=by obtain⟨_,e,_⟩:=a.isList;exact T5 (Y2 e)
 refine call_any_walk (wpAny_pyIter_list a.isList ?_);refine⟨s.heap.objs.size,_,_,_,_,_,_,rfl,Walks.list (A:=X.A.in1) (show X.A.in1.handled=none from I.ok.hd m) s.heap.objs.size p j (bs.map Value.bool).toArray,⟨⟨_,Y1 _ rfl,rfl,rfl⟩,a.isList.push _⟩,rn bs,λ_ i d=>?_⟩;have f:(bs.map Value.bool).toArray.size=bs.length:=by simp
 rw[f,range_any];refine⟨.bl _,H,I.kept (t':=i) λb o e=>d b o (λc=>?_) (Wu _ e),rfl,q⟩;simp only[Tz]at c;exact absurd (Y2 e) (by rw[c];exact Uz _)
theorem xR:bootBuiltins "all" = some (.builtin "all"):=by decide +kernel
theorem MZ:bootBuiltins "any" = some (.builtin "any"):=by decide +kernel
end
end L2
namespace L2
open PySem PySem.Spec PyProof.Rows PySem.W
def vJ (K:Wz) (sp:Sp) (l:Za) (xs:WD):WD->V->V->Hp->VK->Prop
 | [],b,_,H,Q=>SqL K H l xs/\Q b H
 | x::r,b,kb,H,Q=>SqL K H l xs/\sp [x] H (λk H'=>∃d e,Den K H' k d/\Den K H' kb e/\oF d e=true/\d.depth<=100/\if ltv d e=true then vJ K sp l xs r x k H' Q else vJ K sp l xs r b kb H' Q) E0
section
variable {X:Cx}{pins:List (Za×Obj)}{σ:St}{H:Hp}{s:Wx}
theorem Eg (a v d:Wy):argsOk "min" ⟨[a],[(Yk "key",v),(Yk "default",d)]⟩:=by unfold argsOk;kernel_rfl
def wk (X:Cx) (pins:List (Za×Obj)) (σ:St) (f:Za) (sp:Sp):Prop:=∀(more:List (Za×Obj)) (H:Hp) (s:Wx) (x:V) (u:Wy) (Q:VK),Inv X (pins++more) σ H s->RelV x u->sp [x] H Q E0 ->
 codeAny (model X.prog X.w) X.A.in1 (.call (.ref f) ⟨[u],[]⟩) (CR CX0 X.stack X.prog X.w H s Q E0) s
theorem HE {k:Nat}{f:Za}{fd:Zb}{ps:WF}{sp:Sp} (F:ay X.prog X.w X.K X.mg X.base CX0 k f fd ps sp) (b:bG (k+1) X.A) (d:Binds X.K fd ps []):wk X pins σ f sp:=λ_ H s x u Q I c h=>by
 have a:[u].length=ps.length:=F.len _ _ _ _ h;exact F.run X.A.in1 X.stack s H ⟨[u],[]⟩ [u] [x] _ E0 b.in1 I.ER.in1 (by have:=d s [u] I.kIn (by simpa using a);simpa using this) (.cons c .nil) h
theorem wR {f I S:Za}{sp:Sp}{oI oS:Obj}{x:V}{u:Wy}{Q:VK} (C:wk X pins σ f sp)
  (m:∀v,oI.data ≠ .cell v) (hS:∀v,oS.data ≠ .cell v) (k:Inv X pins σ H s) (d:cg X pins H I) (c:cg X pins H S) (F:s.heap.get? I=some oI) (D:s.heap.get? S=some oS) (y:RelV x u) (h:sp [x] H Q E0)
  {R:Wy->Wx->Prop}{E:Wy->Wx->Prop} (b:∀v kv H1 s1,Inv X pins σ H1 s1->cg X pins H1 I->cg X pins H1 S->s1.heap.get? I=some oI->s1.heap.get? S=some oS->RelV v kv->Q v H1->R kv s1) :
  Zh (model X.prog X.w) X.A.in1 (call (.ref f) [u]) R E s:=by
 have l:Inv X (pins++[(I,oI),(S,oS)]) σ H s:=k.oN λp B=>by
  rcases TV.mp B with q | q
  ·exact k.pin p (Ua _ q)
  ·rcases TM.mp q with q | q
   ·subst q;exact⟨F,d.1,d.2.1,d.2.2.1,m⟩
   ·have t:p=(S,oS):=by simpa using q
    subst t;exact⟨D,c.1,c.2.1,c.2.2.1,hS⟩
 have e:=C [(I,oI),(S,oS)] H s x u _ l y h;refine wpAny_call (codeAny_mono e λr s1 a=>?_);cases r with
 | error _=>exact a.elim
 | ok n=>
  cases n with
  | ret kv=>
   obtain⟨v,H1,g,z,o⟩:=l.after a;have i:=g.pin (I,oI) (by simp);have j:=g.pin (S,oS) (by simp);exact b v kv H1 s1 g.iB ⟨i.2.1,d.2⟩ ⟨j.2.1,c.2⟩ i.1 j.1 z o
  | next=>exact False.elim a
  | brk=>exact False.elim a
  | cont=>exact False.elim a
theorem DZ {k:Nat}{f I S l:Za}{sp:Sp}{xs:WD}{kw:List (Str×Wy)}{Q:VK}{R:Result->Wx->Prop} (C:wk X pins σ f sp) (hr:bG (k+1) X.A) (a:X.calm=true)
  (O:l≠I) (G:S≠I) (hR:∀v u H' s',Inv X pins σ H' s'->RelV v u->Q v H'->R (.ok (.ret u)) s') :
  ∀(r:WD) (j:Nat) (b kb:V) (H:Hp) (s:Wx) (ub uk:Wy) (c:Nat),r=xs.drop j->j<=xs.length->Inv X pins σ H s->cg X pins H I->cg X pins H S->s.heap.get? S=some (seqObj "list" #[ub,uk] c)->s.heap.IsListIter I l j->RelV b ub->RelV kb uk->vJ X.K sp l xs r b kb H Q ->
   codeAny (model X.prog X.w) X.A (.builtin "min.loop" ⟨[.ref I,.ref f,.ref S],kw⟩) R s:=by
 (have vN:(toString "min" ++ toString ".loop" : String) = "min.loop" :=by decide)
 intro r
 induction r with
 | nil=>
  intro j b kb H s ub uk c g hj D fI fS P E rb rk h;obtain⟨hq,q⟩:=h;obtain⟨m,rv,pl,_⟩:=D.list hq;have M:=rv.length;have i:xs.length<=j:=VD.mp g.symm;have W:=Walks.list (prog:=X.prog) (w:=X.w) (A:=X.A.in1) (show X.A.in1.handled=none from D.ok.hd a) I l O m.toArray
  (refine codeAny_builtin PySem.F.entry_min_loop ?_)
  (rw[Yg Yt _])
  show Zh _ X.A.in1 (seqItems? (.ref S) >>= _) _ _ _
  (refine Ww (wpAny_seqItems P rfl ?_))
  show Zh _ X.A.in1 (tryCatch (pyNext (.ref I)) _ >>= _) _ _ _;refine Ww (wpAny_tryCatch (W.done _ _ _ ⟨by rw[TL,show m.length=j by lia];exact E,pl.isList⟩ λh' t n=>?_));have L:=n S _ (by simpa using G) P;have sb:=Ye h' S (Y8 λ_=>(#[]:WG));show Zh _ X.A.in1 (updateSeq S (λ_=>#[]) >>= _) _ _ _;refine Ww ?_;refine wpAny_updateSeq L rfl (Ww (wpAny_letGo (Wv ?_)));have I1:Inv X pins σ H { s with heap:=h',toks:=t }:=D.eZ (wr:=[I]) (λc a=>by rw[show c=I by simpa using a];exact fI) λc o a e=>n c o a e;exact hR b ub H _ (I1.eZ (t':=t) (wr:=[S]) (λc a=>by rw[show c=S by simpa using a];exact fS) λc o a e=>(sb.2 c (by simpa using a)).trans e) rb q
 | cons x r ih=>
  intro j b kb H s ub uk c g hj D fI fS P E rb rk h;obtain⟨hq,q⟩:=h;obtain⟨m,rv,pl,_⟩:=D.list hq;have M:=rv.length;have i:j<xs.length:=by
   rcases Ur j xs.length with z | z
   ·exact z
   ·rw[UL z]at g;cases g
  have a4:xs[j]? = some x:=by
   rw[Um i]at g;injection g with e1 e2;rw[Tu i,<-e1]
  have T:r=xs.drop (j+1):=by
   rw[Um i]at g;injection g with e1 e2
  have W:=Walks.list (prog:=X.prog) (w:=X.w) (A:=X.A.in1) (show X.A.in1.handled=none from D.ok.hd a) I l O m.toArray
  (refine codeAny_builtin PySem.F.entry_min_loop ?_)
  (rw[Yg Yt _])
  show Zh _ X.A.in1 (seqItems? (.ref S) >>= _) _ _ _
  (refine Ww (wpAny_seqItems P rfl ?_))
  show Zh _ X.A.in1 (tryCatch (pyNext (.ref I)) _ >>= _) _ _ _;refine Ww (wpAny_tryCatch (W.item j _ _ _ (by rw[TL];lia) ⟨E,pl.isList⟩ λv h' t hP qh n=>?_));obtain⟨u,hu,ru⟩:=rv.get a4;have hv:v=u:=by
   have:m[j]? = some v:=by simpa using hP
   rw[hu]at this;cases this;rfl
  subst hv;have L:=n S _ (by simpa using G) P;have I1:Inv X pins σ H { s with heap:=h',toks:=t }:=D.eZ (wr:=[I]) (λc a=>by rw[show c=I by simpa using a];exact fI) λc o a e=>n c o a e;obtain⟨oI,eI,cI,dI⟩:=qh.1;show Zh _ X.A.in1 (tryCatch (holding [v] (call (.ref f) [v])) _ >>= _) _ _ _;refine Ww (wpAny_tryCatch (Ws (wR C (oI:=oI) (oS:=seqObj "list" #[ub,uk] c) (λz q=>by rw[dI]at q;cases q) (λz q=>by cases q) I1 fI fS eI L ru q λkv p H2 J Z U y Y B N q2=>?_)));obtain⟨d,e,dk,de,ck,yu,q3⟩:=q2;obtain⟨a3,a5⟩:=Z.reads dk N;obtain⟨a6,a0⟩:=Z.reads de rk;have Kp:J.heap.IsListIter I l (j+1):=⟨oI,Y,cI,dI⟩;have a8:X.A.in1.units+d.depth<cLine:=by show X.A.units+1+d.depth<cLine;have:=hr.un;lia
  show Zh _ X.A.in1 (tryCatch (holding [v,p] (richCompare .Lt p uk >>= _)) _ >>= _) _ _ _;refine Ww (wpAny_tryCatch (Ws (Ww (uE 100 d e yu ck X.A.in1 J p uk a3 a6 a5 a0 dk.lay de.lay a8 _ _ _ _ ?_))))
  (refine Ww (Ws (wpAny_truthy_bool ?_)))
  (refine Ww (wpAny_letGo (Wv ?_)))
  cases hb':ltv d e with
  | true=>
   rw[hb',Zn rfl]at q3;have sb:=Ye J.heap S (Y8 λ_=>#[v,p]);obtain⟨c2,a7⟩:∃c2,(J.heap.update S (Y8 λ_=>#[v,p])).get? S=some (seqObj "list" #[v,p] c2):=⟨_,get?_update_seq B λ_=>#[v,p]⟩;simp only[if_true];refine Ww ?_;refine wpAny_updateSeq B rfl (Ww (wpAny_letGo ?_));rw[vN];have I3:Inv X pins σ H2 { J with heap:=J.heap.update S (Y8 λ_=>#[v,p]) }:=Z.eZ (t':=J.toks) (wr:=[S]) (λc a=>by rw[show c=S by simpa using a];exact y) λc o a e=>(sb.2 c (by simpa using a)).trans e;exact Wv ⟨plainId_quiet Yt _,ih (j+1) x kv H2 _ v p c2 T i I3 U y a7 ⟨oI,(sb.2 I G.symm).trans Y,cI,dI⟩ ru N q3⟩
  | false=>
   rw[hb',Zo (by decide)]at q3
   (simp only[Ug,if_false])
   refine Ww (wpAny_letGo ?_);rw[vN];exact Wv ⟨plainId_quiet Yt _,ih (j+1) b kb H2 _ ub uk c T i Z U y B Kp rb rk q3⟩
def wL (K:Wz) (sp:Sp):V->Hp->VK->Prop:=λx H Q=>∃l xs,x = .ref l/\SqL K H l xs/\match xs with
 | []=>Q .non H
 | y::r=>sp [y] H (λk H'=>vJ K sp l xs r y k H' Q) E0
theorem DQ {k:Nat}{f a Sa l:Za}{sp:Sp}{y:V}{r:WD}{kw:List (Str×Wy)}{Q:VK}{R:Result->Wx->Prop} (C:wk X pins σ f sp) (hr:bG (k+1) X.A) (b:X.calm=true)
  (p:l≠a) (g:Sa≠a) (hR:∀v u H' s',Inv X pins σ H' s'->RelV v u->Q v H'->R (.ok (.ret u)) s') (I:Inv X pins σ H s) (U:cg X pins H a) (fS:cg X pins H Sa) (O:s.heap.get? Sa=some (seqObj "list" #[] 0)) (gI:s.heap.IsListIter a l 0) (hq:SqL X.K H l (y::r)) (q:sp [y] H (λk H'=>vJ X.K sp l (y::r) r y k H' Q) E0) :
  codeAny (model X.prog X.w) X.A (.builtin "min.loop" ⟨[.ref a,.ref f,.ref Sa],kw⟩) R s:=by
 (have vN:(toString "min" ++ toString ".loop" : String) = "min.loop" :=by decide)
 obtain⟨h,S,pl,_⟩:=I.list hq;have j:=S.length;have W:=Walks.list (prog:=X.prog) (w:=X.w) (A:=X.A.in1) (show X.A.in1.handled=none from I.ok.hd b) a l p h.toArray
 (refine codeAny_builtin PySem.F.entry_min_loop ?_)
 (rw[Yg Yt _])
 show Zh _ X.A.in1 (seqItems? (.ref Sa) >>= _) _ _ _
 (refine Ww (wpAny_seqItems O rfl ?_))
 show Zh _ X.A.in1 (tryCatch (pyNext (.ref a)) _ >>= _) _ _ _;refine Ww (wpAny_tryCatch (W.item 0 _ _ _ (by rw[TL,<-j];exact Nat.succ_pos _) ⟨gI,pl.isList⟩ λv h' B hP qh x=>?_));obtain⟨u,hu,T⟩:=S.get (i:=0) rfl;have hv:v=u:=by
  have:h[0]? = some v:=by simpa using hP
  rw[hu]at this;cases this;rfl
 subst hv;have G:=x Sa _ (by simpa using g) O;have I1:Inv X pins σ H { s with heap:=h',toks:=B }:=I.eZ (wr:=[a]) (λc b=>by rw[show c=a by simpa using b];exact U) λc o b e=>x c o b e;obtain⟨oI,eI,cI,Y⟩:=qh.1;show Zh _ X.A.in1 (tryCatch (holding [v] (call (.ref f) [v])) _ >>= _) _ _ _;refine Ww (wpAny_tryCatch (Ws (wR C (oI:=oI) (oS:=seqObj "list" #[] 0) (λz q=>by rw[Y]at q;cases q) (λz q=>by cases q) I1 U fS eI G T q λZ d N n I2 D m E t J q2=>?_)));have P:=Ye n.heap Sa (Y8 λ_=>#[v,d]);obtain⟨L,M⟩:∃L,(n.heap.update Sa (Y8 λ_=>#[v,d])).get? Sa=some (seqObj "list" #[v,d] L):=⟨_,get?_update_seq t λ_=>#[v,d]⟩;show Zh _ X.A.in1 (updateSeq Sa (λ_=>#[v,d]) >>= _) _ _ _;refine Ww ?_;refine wpAny_updateSeq t rfl ?_;rw[vN];have I3:Inv X pins σ N { n with heap:=n.heap.update Sa (Y8 λ_=>#[v,d]) }:=I2.eZ (t':=n.toks) (wr:=[Sa]) (λc b=>by rw[show c=Sa by simpa using b];exact m) λc o b e=>(P.2 c (by simpa using b)).trans e;exact Wv ⟨plainId_quiet Yt _,DZ (Q:=Q) C hr b p g hR r 1 y Z N _ v d L rfl (by simp) I3 D m M ⟨oI,(P.2 a g.symm).trans E,cI,Y⟩ T J q2⟩
structure JL (X:Cx) (pins:List (Za×Obj)) (σ:St) (H:Hp) (s:Wx) (l:Za) (h0:Heap) (Ia Sa:Za):Prop where
 gI:h0.get? Ia=some { cls:=.type "list_iterator",data:=.fields #[.ref l,.int 0 0] }
 gS:h0.get? Sa=some (seqObj "list" #[] 0)
 keep:∀b o,s.heap.get? b=some o->h0.get? b=some o
 inv:Inv X pins σ H { s with heap:=h0 }
 fI:cg X pins H Ia
 fS:cg X pins H Sa
 ne:l≠Ia
 two:Sa≠Ia
theorem HC {l:Za} (I:Inv X pins σ H s) (h:l<s.heap.objs.size) :
  JL X pins σ H s l ((s.heap.push { cls:=.type "list_iterator",data:=.fields #[.ref l,.int 0 0] }).push (seqObj "list" #[] 0)) s.heap.objs.size (s.heap.push { cls:=.type "list_iterator",data:=.fields #[.ref l,.int 0 0] }).objs.size:=by
 have c:=λ(o:Obj) (b:Za) (g:Obj) (e:s.heap.get? b=some g)=>Wu o e;have first:=Y1 s.heap (o:={ cls:=.type "list_iterator",data:=.fields #[.ref l,.int 0 0] }) rfl
 have a:=size_push' s.heap { cls:=.type "list_iterator",data:=.fields #[.ref l,.int 0 0] };replace c:=c { cls:=.type "list_iterator",data:=.fields #[.ref l,.int 0 0] };generalize s.heap.push { cls:=.type "list_iterator",data:=.fields #[.ref l,.int 0 0] }=h1 at c first a
 have f:s.heap.objs.size<=h1.objs.size:=by rw[a];exact UN _
 have d:∀b o,s.heap.get? b=some o->(h1.push (seqObj "list" #[] 0)).get? b=some o:=λb o e=>Wu _ (c b o e);exact{ gI:=Wu _ first,gS:=Y1 _ rfl,keep:=d,inv:=I.kept (t':=s.toks) d,fI:=I.rJ (Tw _) (I.hok.fresh (Tw _)),fS:=I.rJ f (I.hok.fresh f),ne:=T5 h,two:=by rw[a];exact Nat.succ_ne_self _ }
theorem tJ {k:Nat}{f:Za}{sp:Sp}{x:V}{u:Wy}{Q:VK} (C:wk X pins σ f sp) (N:bG (k+1) X.A) (a:X.calm=true) (p:Inv X pins σ H s) (L:RelV x u) (h:wL X.K sp x H Q) :
  Zh (model X.prog X.w) X.A (call (.builtin "min") [u] [(Yk "key",.ref f),(Yk "default",.none)]) (EP X pins σ Q) X.xe s:=by
 (have U:(toString "min" ++ toString ".loop" : String) = "min.loop" :=by decide)
 obtain⟨l,M,rfl,B,q⟩:=h;cases L;obtain⟨its,T,i,_⟩:=p.list B;have d:=T.length;have v:l<s.heap.objs.size:=by obtain⟨_,e,_⟩:=i.isList;exact Y2 e
 refine kmk_tree PySem.F.kind_min PySem.F.plain_min PySem.F.entry_min (Eg _ _ _) ?_;show Zh _ X.A.in1 (Builtin.Builtins.bindParams "min" ["key","default"] 0 ⟨[],[(Yk "key",.ref f),(Yk "default",.none)]⟩ >>= _) _ _ s;refine Ww (wpAny_of_eq (show Builtin.Builtins.bindParams "min" ["key","default"] 0 ⟨[],[(Yk "key",.ref f),(Yk "default",.none)]⟩=pure [some (.ref f),some .none]from rfl) ?_);refine Ww (Wv ?_);refine Ww (wpAny_pyIter_list i.isList ?_);refine Ww (wpAny_newList ?_ (T2 _):Zh _ _ _ _ _ _);rw[U];have two:=HC (X:=X) (l:=l) p v;generalize(s.heap.push { cls:=.type "list_iterator",data:=.fields #[.ref l,.int 0 0] }).push (seqObj "list" #[] 0)=h0 at two ⊢;generalize(s.heap.push { cls:=.type "list_iterator",data:=.fields #[.ref l,.int 0 0] }).objs.size=Sa at two ⊢;generalize s.heap.objs.size=Ia at two ⊢;obtain⟨G,z,m,D,E,R,g,n⟩:=two;have j:h0.IsList l its.toArray:=i.isList.at λo e=>m l o e
 (refine Wv ⟨plainId_quiet Yt _,?_⟩)
 cases M with
 | nil=>
  have W:=Walks.list (prog:=X.prog) (w:=X.w) (A:=X.A.in1) (show X.A.in1.handled=none from p.ok.hd a) Ia l g its.toArray
  (refine codeAny_builtin PySem.F.entry_min_loop ?_)
  (rw[Yg Yt _])
  show Zh _ X.A.in1 (seqItems? (.ref Sa) >>= _) _ _ _
  (refine Ww (wpAny_seqItems z rfl ?_))
  show Zh _ X.A.in1 (tryCatch (pyNext (.ref Ia)) _ >>= _) _ _ _;refine Ww (wpAny_tryCatch (W.done _ _ _ ⟨⟨_,(by rw[G]),rfl,by rw[TL,<-d];rfl⟩,j⟩ λO b t=>?_));have Z:Inv X pins σ H { s with heap:=O,toks:=b }:=Inv.eZ (s:={ s with heap:=h0 }) (t':=b) (wr:=[Ia]) D (λc a=>by rw[show c=Ia by simpa using a];exact E) λc o a e=>t c o a e
  (refine Ww (wpAny_rule (Wv ?_)))
  exact⟨.non,H,Z,rfl,q⟩
 | cons y r=>
  exact DQ (Q:=Q) C N a g n (λY _ P _ I S J=>⟨Y,P,I,S,J⟩) D E R z ⟨_,G,rfl,rfl⟩ B q
theorem DM {k:Nat}{f:Za}{fd:Zb}{ps:WF}{sp:Sp}{x:V}{u:Wy}{Q:VK} (F:ay X.prog X.w X.K X.mg X.base CX0 k f fd ps sp) (a:bG (k+1) X.A) (d:Binds X.K fd ps []) (e:X.calm=true) (b:Inv X pins σ H s) (c:RelV x u) (h:wL X.K sp x H Q) :
  Zh (model X.prog X.w) X.A (call (.builtin "min") [u] [(Yk "key",.ref f),(Yk "default",.none)]) (EP X pins σ Q) X.xe s:=tJ (HE F a d) a e b c h
def Nt (K:Wz) (sp:Sp) (ta:TA):TE:=λσ H Q=>ta σ H λvs H1=>∃x,vs=[x]/\wL K sp x H1 Q
end
theorem GK:bootBuiltins "min" = some (.builtin "min"):=by decide +kernel
section
variable {X:Cx}
theorem IU {k:Nat}{f:Za}{fd:Zb}{ps:WF}{sp:Sp}{e:Expr}{ta:TA}{y:Str}{d:Nat}{p c pos j l a:Pos} (F:ay X.prog X.w X.K X.mg X.base CX0 k f fd ps sp) (C:bG (k+1) X.A) (E:Binds X.K fd ps []) (N:X.calm=true)
  (v:Gl X "min") (r:X.mg "min" = none) (n:Gl X y) (m:X.mg y=some (.ref f)) (L:PA X [e] ta) (g:(y == ("__debug__" : Str))=false:=by decide)
  (G:backTo pos (Zi [e] X.env)=(false,eval e X.env)::backTo pos (Zi [] X.env):=by rfl) (D:(backTo pos (Zi [e] X.env)).any (·.1)=false:=by rfl)
  (z:(backToKw pos (keywordEach [⟨some "key",.Name y c,j⟩,⟨some "default",.Constant .none d l,a⟩] X.env)).all (·.1.isSome)=true:=by rfl) (i:(backToKw pos (keywordEach [⟨some "key",.Name y c,j⟩,⟨some "default",.Constant .none d l,a⟩] X.env)).any (·.1.isNone)=false:=by rfl) :
  PE X (.Call (.Name "min" p) [e] [⟨some "key",.Name y c,j⟩,⟨some "default",.Constant .none d l,a⟩] pos) (Nt X.K sp ta):=by
 intro b s M H Q I h;refine wpAny_Call_Name_kw (fm I v r GK ?_);refine callWith_kw (thn (L pos b s M H _ I h) λ_ _ ⟨_,_,o,B,t⟩=>?_) G D z i;obtain⟨x,rfl,q⟩:=t;obtain⟨u,rfl,J⟩:=B.one;refine kws_cons (mN o n m (kws_cons (Constant_none (kws_nil ?_))) g);exact DM F C E N o J q
end
def fT:Zf->Nat->Nat->WI->Nat
 | _,i,_,[]=>i
 | db,i,j,d::r=>if ltv d db=true then fT d j (j+1) r else fT db i (j+1) r
def cq:WI->Nat
 | []=>0
 | d::r=>fT d 0 1 r
theorem n5 {S:Zf->Prop} (o:uf S):∀(r:WI) (all:WI) (db:Zf) (i j:Nat),(∀d∈all,S d)->all.drop j=r->i<j->all[i]? = some db->(∀(m:Nat) (d:Zf),m<j->all[m]? = some d->ltv d db=false)->(∀(m:Nat) (d:Zf),m<i->all[m]? = some d->ltv db d=true) ->
  ∃d,all[fT db i j r]? = some d/\(∀(m:Nat) (e:Zf),all[m]? = some e->ltv e d=false)/\∀(m:Nat) (e:Zf),m<fT db i j r->all[m]? = some e->ltv d e=true
 | [],all,db,i,j,hS,hd,hij,hi,h1,h2=>by
  have n:all.length<=j:=VD.mp hd;exact⟨db,hi,λm e a=>h1 m e (T9 (aI a) n) a,h2⟩
 | d::r,all,db,i,j,hS,hd,hij,hi,h1,h2=>by
  have f:j<all.length:=by
   rcases Ur j all.length with z | z
   ·exact z
   ·rw[UL z]at hd;cases hd
  have l:=Um f;rw[hd]at l;injection l with e1 e2;have c:all[j]? = some d:=by rw[Tu f,e1]
  have g:S d:=hS d (TB c);have q:S db:=hS db (TB hi);unfold fT;by_cases b:ltv d db=true
  ·rw[Zn b];have k:∀m e,m<j->all[m]? = some e->ltv d e=true:=λm e h a=>by
    have p:S e:=hS e (TB a);rcases o.neg g p q b with z | z
    ·exact z
    ·rw[h1 m e h a]at z;cases z
   refine n5 o r all d j (j+1) hS e2.symm (Vo _) c (λm e h a=>?_) k;rcases Ur m j with z | z
   ·exact o.asymm g (hS e (TB a)) (k m e z a)
   ·have:m=j:=by lia
    subst this;rw[c]at a;cases a;exact o.irr d g
  ·rw[Zo b];refine n5 o r all db i (j+1) hS e2.symm (VQ hij) hi (λm e h a=>?_) h2;rcases Ur m j with z | z
   ·exact h1 m e z a
   ·have:m=j:=by lia
    subst this;rw[c]at a;cases a;exact Uh.mpr b
theorem tz {S:Zf->Prop} (o:uf S) {all:WI} (hS:∀d∈all,S d) (a:all≠[]) :
  ∃d,all[cq all]? = some d/\(∀(m:Nat) (e:Zf),all[m]? = some e->ltv e d=false)/\∀(m:Nat) (e:Zf),m<cq all->all[m]? = some e->ltv d e=true:=by
 cases all with
 | nil=>exact(a rfl).elim
 | cons d r=>
  refine n5 o r (d::r) d 0 1 hS rfl Nat.zero_lt_one rfl (λm e c b=>?_) (λm e c b=>absurd c (Nat.not_lt_zero _));have:m=0:=by lia
  subst this;cases b;exact o.irr d (hS d (TH ..))
theorem G6 {K:Wz}{sp:Sp}{Q:VK}{H0:Hp}{l:Za}{xs:WD}{S:Zf->Prop} (o:uf S) (I:SqL K H0 l xs):∀(r:WD) (kr:WI) (i j:Nat) (b kb:V) (db:Zf) (H:Hp),r.length=kr.length->ae H0 H->Den K H kb db->S db->(∀d∈kr,S d/\d.depth<=100)->xs.drop j=r->xs[i]? = some b ->
  (∀(m:Nat) (x:V) (d:Zf) (H:Hp) (Q:VK),r[m]? = some x->kr[m]? = some d->ae H0 H->(∀k H',ae H H'->Den K H' k d->Q k H')->sp [x] H Q E0)->(∀H',ae H0 H'->Q (xs.getD (fT db i j kr) .non) H')->vJ K sp l xs r b kb H Q:=by
 intro r
 induction r with
 | nil=>
  intro kr i j b kb db H p s A B hS a D f v;cases kr with
  | nil=>exact⟨s.seq I,by have:=v H s;simpa[fT,Yx,D]using this⟩
  | cons d kr=>cases p
 | cons x r G=>
  intro kr i j b kb db H p s A B hS a D f v;cases kr with
  | nil=>cases p
  | cons d kr=>
   have q:j<xs.length:=by
    rcases Ur j xs.length with z | z
    ·exact z
    ·rw[UL z]at a;cases a
   have J:=Um q;rw[a]at J;injection J with e1 e2;have E:xs[j]? = some x:=by rw[Tu q,e1]
   have F:=hS d (TH ..);refine⟨s.seq I,f 0 x d H _ rfl rfl s λk H' u n=>⟨d,db,n,A.same u,o.cmp d db F.1 B,F.2,?_⟩⟩;have t:∀e∈kr,S e/\e.depth<=100:=λe L=>hS e (TC _ L);by_cases c:ltv d db=true
   ·rw[Zn c];refine G kr j (j+1) x k d H' (by simpa using p) (s.trans u) n F.1 t e2.symm E (λm y e g w C h=>f (m+1) y e g w (by simpa using C) (by simpa using h)) λg h=>?_;have:=v g h;unfold fT at this
    rwa [Zn c]at this
   ·rw[Zo c];refine G kr i (j+1) b kb db H' (by simpa using p) (s.trans u) (A.same u) B t e2.symm D (λm y e g w C h=>f (m+1) y e g w (by simpa using C) (by simpa using h)) λg h=>?_;have:=v g h;unfold fT at this
    rwa [Zo c]at this
theorem vW {K:Wz}{sp:Sp}{Q:VK}{H:Hp}{l:Za}{xs:WD}{kds:WI}{S:Zf->Prop} (o:uf S) (f:SqL K H l xs) (c:xs.length=kds.length) (hS:∀d∈kds,S d/\d.depth<=100)
  (a:∀(m:Nat) (x:V) (d:Zf) (H2:Hp) (Q:VK),xs[m]? = some x->kds[m]? = some d->ae H H2->(∀k H',ae H2 H'->Den K H' k d->Q k H')->sp [x] H2 Q E0) (h:xs=[]->Q .non H) (n:xs≠[]->∀H',ae H H'->Q (xs.getD (cq kds) .non) H'):wL K sp (.ref l) H Q:=by
 refine⟨l,xs,rfl,f,?_⟩;cases xs with
 | nil=>exact h rfl
 | cons x r=>
  cases kds with
  | nil=>cases c
  | cons d q=>
   refine a 0 x d H _ rfl rfl (ae.refl _) λk H' j g=>?_;refine G6 o f r q 0 1 x k d H' (by simpa using c) j g (hS d (TH ..)).1 (λe i=>hS e (TC _ i)) rfl rfl (λm y e H2 p s b=>a (m+1) y e H2 p (by simpa using s) (by simpa using b)) λH2 b=>?_;exact n (by intro z;cases z) H2 b
end L2
namespace L2
open PySem PySem.Spec PyProof.Rows
section
variable {X:Cx}
def dC (K:Wz):WD->Hp->VK->Prop:=λxs H Q=>∃p ys,xs=[.ref p]/\(SqL K H p ys\/SqT K H p ys)/\Q (.int ys.length) H
theorem be:ia X (.builtin "len") (dC X.K):=xt
theorem m9:bootBuiltins "isinstance" = some (.builtin "isinstance"):=by decide +kernel
theorem Hq:bootBuiltins "str" = some (.type "str"):=by decide +kernel
theorem tQ:bootBuiltins "tuple" = some (.type "tuple"):=by decide +kernel
theorem BO {K:Wz}{a:Za}{x y:V}{σ:St}{H:Hp}{F G:St->Hp->Prop} (c:SqT K H a [x,y]) (h:F ((σ.set 0 (some x)).set 1 (some y)) H) :
  uP K 2 (dh (aX 0) (dh (aX 1) sY)) (.ref a) σ H λσ2 H2=>MY σ2 H2 λb H3=>if b=true then F σ2 H3 else G σ2 H3:=by
 refine⟨a,_,rfl,c,rfl,_,_,rfl,_,_,rfl,rfl,?_⟩;show(if true=true then F ((σ.set 0 (some x)).set 1 (some y)) H else G ((σ.set 0 (some x)).set 1 (some y)) H);rw[Zn rfl];exact h
end
theorem A7 {X:Cx}{K:Wz}{o e:Expr}{es:List Expr}{to:TE}{t:TA}{name:Str}{apos cT:Pos}{T id:String}{r:V->WD->Hp->VK->Prop} (k:X.K=K) (pa:PlainAttrs T) (slot:Slot T name id) (a:typeOf (.builtin id)=pure (.type "method_descriptor")) (i:MtR X id r) (j:PE X o to) (b:PA X (e::es) t)
  (g:attributeBase o name X.env (eval o X.env)=eval o X.env:=by rfl)
  (f:((backTo cT (Zi (e::es) X.env)).all (λx=>!x.1) && (backToKw cT (keywordEach [] X.env)).all (λx=>x.1.isSome)
   && decide ((e::es).length+([]:List Keyword).length+(if ([]:List Keyword).isEmpty then 0 else 1)<30))=true:=by rfl)
  (d:(apos.endLine == cT.line)=true:=by rfl) (h:Zi (e::es) X.env=(false,eval e X.env)::Zi es X.env:=by rfl) (c:(backTo cT (Zi es X.env)).any (·.1)=false:=by rfl) :
  PE X (.Call (.Attribute o name apos) (e::es) [] cT) (tBM K T r to t):=by
 subst k;exact fu pa slot a i j b g f d h c
def P7 (sc osc:Scope):Scope:={ sc with names:=sc.names.map λ(n,k)=>if (k == .free && osc.kind == .function && osc.names.lookup n == some .cell)then(n,.cell)else(n,k) }
theorem Dx {c:Cx}{d a:Scope}{b N':WF}{n:Nat}{fi:List Nat}{s:Wx}{H:Hp}{fp:WH} (osc:Scope) (h:LR d (P7 a osc) b N' n fi=true) (e:c.env.scope=osc:=by rfl):lS (fB c a b s H fp) d N' n fi:=by
 subst e;exact bj (P7 a c.env.scope) b h rfl rfl
theorem SqT.Ou {K:Wz}{H0 b H':Hp}{a:Za}{xs:WD} (f:LL H0 b) (s:ae b H') (h:SqT K b a xs):SqT K (L2.lim H0 H') a xs:=by
 have c:∀o:HO,b a=some o->(∀zs,o ≠ .lst zs)->∀zs,H0 a≠some (.lst zs):=λo i g zs e=>by
  obtain⟨d,q⟩:=f a zs e;rw[i]at q;cases q;exact g d rfl
 rcases h with(h | ⟨o,h⟩) | h
 ·exact .inl (.inl (by rw[bw (c _ h λzs z=>by cases z)];exact s _ _ h))
 ·exact .inl (.inr ⟨o,by rw[bw (c _ h λzs z=>by cases z)];exact s _ _ h⟩)
 ·exact .inr h
section
variable {X:Cx}
end
section
open PySem.SeqAt
open PySem.AutoSeq1 (wpAny_loadPart')
open PySem.MeetsSeq PySem.MeetsSeq2 PySem.MeetsSeq3
end
section
open PySem.SeqAt
open PySem.MeetsSeq PySem.MeetsSeq2 PySem.MeetsSeq3
variable {X:Cx}
end
section
variable {X:Cx}
def ON (K:Wz) (neg:Bool):R2:=λx y H Q=>∃(xs:WI) (d:Zf),Den K H y (.list xs)/\Den K H x d/\d.depth<=100/\Q (.bl (if neg then !xs.any λe=>Y9 e d else xs.any λe=>Y9 e d)) H
theorem yH {k:Nat}{A:Zc} (hr:bG k A) {a b:Nat} (h:b<=100):A.units+1+min a b<cLine:=by
 have h1:=hr.un;have h2:=Nat.min_le_right a b;lia
theorem Ec {k:Nat} (i:bG k X.A):OpR X (compareOp .NotIn) (ON X.K true):=by
 intro _ s _ H x y v u Q I e c h;obtain⟨_,d,a,b,j,q⟩:=h;obtain⟨_,g⟩:=I.reads a c;obtain⟨_,f⟩:=I.reads b e;exact SeqAt.notIn_list_reads g f (by simpa[PyData.canLay0]using a.lay) b.lay (yH i j) ⟨.bl _,H,I,rfl,q⟩
end
end L2
namespace L2
open PySem PySem.Spec PyProof.Rows PySem.MeetsSeq PySem.MeetsSeq2 PySem.MeetsSeq3
section
variable {X:Cx}
def rC (K:Wz):R2:=λx y H Q=>∃l b xs zs,x = .ref l/\y = .ref b/\SqL K H l xs/\SqL K H b zs/\xs.length+zs.length<=Zg/\∀p,H p=none->Q (.ref p) (upd H p (.lst (xs++zs)))
theorem kJ:OpR X (binaryOp .Add) (rC X.K):=by
 intro _ s _ H x y v u Q I z G h;obtain⟨l,b,_,_,rfl,rfl,A,C,_,q⟩:=h;cases z;cases G;obtain⟨c,r,w,_⟩:=I.list A;obtain⟨a,m,i,_⟩:=I.list C;have J:=r.length;have L:=m.length;obtain⟨⟨_,E,_,B⟩,n,k,p,_,o⟩:=w;obtain⟨⟨_,j,_,g⟩,D,d,f,_,e⟩:=i;simp only at p o f e;subst p o f e;have t:c.toArray++a.toArray=(c++a).toArray:=by simp
 refine concat_meets ⟨_,k,rfl⟩ ⟨_,d,rfl⟩ noFill_list_add seq_list_add PySem.F.slot_list_add PySem.F.entry_list_add (PySem.F.args_list_add_2 _ _) (list_addW l b c.toArray a.toArray n D E j B g (by simp;lia)) ⟨k,d,?_⟩;rw[t];exact⟨.ref _,_,I.Q3 (t':=s.toks) (r.append m) (by rw[TJ];lia),rfl,q _ I.fresh⟩
end
end L2
namespace L2
open PySem PySem.Spec PyProof.Rows
section
variable {prog:Zd}{w:Ze}{A:Zc}{E:Wy->Wx->Prop}{s:Wx}
end
section
variable {X:Cx}{tg:Expr}
end
section
variable {X:Cx}{elt tg iter tg2 SA:Expr}{ifs SQ:List Expr}{scope:Scope}{pos:Pos}
end
end L2
namespace L2
open PySem PySem.Spec PyProof.Rows PySem.W
section
variable {X:Cx}{pins:List (Za×Obj)}{σ:St}{H:Hp}{s:Wx}
end
section
variable {X:Cx}
end
theorem Nr {P:Zd}{w:Ze}{k:Key}{u:Wy} (h:(bh P w).is k u=true):RelV (kV k) u:=by
 rcases bV (show sO k u=true from h)with⟨i,t,rfl,rfl⟩ | ⟨x,t,rfl,rfl⟩
 ·exact⟨t,rfl⟩
 ·exact⟨t,rfl⟩
section
variable {X:Cx}{tg:Expr}
end
section
variable {X:Cx}{pins:List (Za×Obj)}{σ:St}{H:Hp}{s:Wx}
end
end L2
namespace L2
open PySem PySem.Spec PyProof.Rows
section
variable {X:Cx}
end
def tR:Zf->Str
 | .str x=>x
 | d=>d.shown
structure Di (d:Zf):Prop where
 Ku:d.showable=true
 nod:d.hasDict=false
 dep:d.depth<=100
 len:(∀x,d ≠ .str x)->d.shown.length<=Zg
def MM (K:Wz):WD->Hp->VK->Prop:=λvs H Q=>∃x d,vs=[x]/\Den K H x d/\Di d/\Q (.str (tR d)) H
theorem Dj:bootBuiltins "str" = some (.type "str"):=by decide +kernel
section
variable {X:Cx}
theorem wc {k:Nat} (m:bG k X.A):ia X (.type "str") (MM X.K):=by
 intro j s z H _ _ Q I v h;obtain⟨x,d,rfl,l,c,q⟩:=h;obtain⟨u,rfl,f⟩:=vals1 v;have B:=m.un;have g:∀a d,Den X.K H (.ref a) d->(∀x,d ≠ .str x)->Di d->Q (.str d.shown) H->Zh (model X.prog X.w) X.A (call (.type "str") [.ref a]) (EP X j z Q) X.xe s:=λa d l y c q=>by
  obtain⟨_,r⟩:=I.reads (u:=.ref a) l rfl;refine str_of_reads (h₀:=s.heap) r c.Ku (λe=>by rw[c.nod]at e;cases e) m.gd (by have:=c.dep;lia) (λb o e=>e) (λ_ u p n=>?_) (c.len y);exact⟨.str d.shown,H,I.kept (t':=p) n,⟨u,rfl⟩,q⟩
 cases l with
 | non=>cases f;exact P.str_of_none ⟨.str "None",H,I.tok _,⟨_,rfl⟩,by simpa only[tR,PyData.shown]using q⟩
 | bl b=>cases f;exact P.str_of_bool ⟨.str (if b then "True" else "False" : Str),H,I.tok _,⟨_,rfl⟩,by simpa only[tR,PyData.shown]using q⟩
 | int i=>
  obtain⟨t,rfl⟩:=f;exact P.str_of_int (by simpa[PyData.showable]using c.Ku) ⟨.str (toString i:String),H,I.tok _,⟨_,rfl⟩,by simpa only[tR,PyData.shown]using q⟩
 | str h=>
  obtain⟨t,rfl⟩:=f;exact P.str_of_str ⟨.str _,H,I,⟨_,rfl⟩,q⟩
 | lst h t=>
  cases f;exact g _ _ (.lst h t) (λ_ e=>by cases e) c q
 | tup h t=>
  cases f;exact g _ _ (.tup h t) (λ_ e=>by cases e) c q
end
section
variable {X:Cx}
structure PAj (X:Cx) (es:List Expr) (t:TA):Prop where
 go:PA X es t
structure PSj (X:Cx) (st:Stmt) (t:TS):Prop where
 go:PS X st t
structure Tj (X:Cx) (st:List Stmt) (t:TS):Prop where
 go:PSs X st t
end
theorem wa {x:V}:∀{xs:WD}{us:WJ},aO xs us->xs.all ie=true->us.countP (eqU x)=xs.countP λy=>eqV y x
 | _,_,.nil,_=>rfl
 | y::xs,u::us,.cons r t,f=>by
  rw[Vt,Ub]at f;rw[US,US,Cb r f.1,wa t f.2]
def Im (K:Wz):V->WD->Hp->VK->Prop:=λx vs H Q=>∃p xs y,x = .ref p/\vs=[y]/\SqL K H p xs/\ie y=true/\xs.all ie=true/\Q (.int (xs.countP λz=>eqV z y:Nat)) H
theorem G8 {X:Cx}:MtR X "list.count" (Im X.K):=by
 intro _ s _ H x _ v _ Q I i k h;obtain⟨p,_,y,rfl,rfl,j,d,b,q⟩:=h;cases i;obtain⟨u,rfl,l⟩:=k.one;obtain⟨a,r,g,_⟩:=I.list j;obtain⟨o,n,c,t,m,e⟩:=g;cases o;cases t;cases m;cases e;refine call_meets Z1 ⟨_,c,rfl⟩ PySem.F.entry_list_count (PySem.F.args_list_count_2 _ _) (SeqAt.list_countAt p a.toArray n _ _ u (eqU y)) ⟨c,λw f=>oH l d r b w (by simpa using f),?_⟩;refine⟨.int _,H,I.tok _,⟨_,rfl⟩,?_⟩;rw[show a.toArray.toList=a from rfl,wa r b];exact q
section
variable {X:Cx}{pins:List (Za×Obj)}{σ:St}{H:Hp}{s:Wx}{a:Za}{kvs:List (Key×V)}{k:Key}{x:V}{u r:Wy}{A:Zc}{E:Wy->Wx->Prop}
theorem Iu {Q:Wy->Wx->Prop} (I:Inv X pins σ H s) (e:H a=some (.dK kvs)) (p:RelV (kV k) u) (l:RelV x r) (t:kvs.length<Zg)
  (h1:∀v,jr kvs k=some v->∀w' s',Inv X pins σ H s'->RelV v w'->Q w' s') (h2:jr kvs k=none->∀s',Inv X pins σ (upd H a (.dK (putK kvs k x))) s'->Q r s') :
  Zh (model X.prog X.w) A (call (.builtin "dict.setdefault") [.ref a,u,r]) Q E s:=by
 obtain⟨z,f,o,c,g⟩:=OD I.hok e;have b:=c.val k;refine call_meetsIn PySem.F.slot_dict_setdefault g.typeIs PySem.F.entry_dict_setdefault (PySem.F.args_dict_setdefault_3 _ _ _) (kt_meets_setdefault (bh X.prog X.w) a (K9 p) f r)
  ⟨o,g,by rw[<-c.length];exact z,λw' h=>?_,λj i d m=>?_⟩
 ·rw[h]at b;cases q:jr kvs k with
  | none=>rw[q]at b;exact absurd b (by simp[kB])
  | some v=>rw[q]at b;exact h1 v q _ _ (I.tok _) b
 ·rw[j]at b;cases q:jr kvs k with
  | some v=>rw[q]at b;exact absurd b (by simp[kB])
  | none=>
   have n:∃q,i.get? a=some q:=let ⟨q,_,_,hq,_⟩:=d;⟨q,hq⟩;exact h2 q _ (Cf I (by rw[e];exact True.intro) m n (Na (by have:=AE kvs k x;lia) f (c.put k l) d))
end
def Of (td ty tx:TE):TE:=λσ H Q=>td σ H λx H1=>∃a,x = .ref a/\IsD H1 a/\ty σ H1 λy H2=>tx σ H2 λz H3=>∃kvs k,H3 a=some (.dK kvs)/\y=kV k/\kvs.length<Zg /\
 (∀v,jr kvs k=some v->Q v H3)/\(jr kvs k=none->Q z (upd H3 a (.dK (putK kvs k z))))
section
variable {X:Cx}{o e f:Expr}{apos cT:Pos}{td ty tx:TE}
theorem KA (B:PE X o td) (N:PE X e ty) (E:PE X f tx) (m:M2 X o "setdefault" apos e f cT):PE X (.Call (.Attribute o "setdefault" apos) [e,f] [] cT) (Of td ty tx):=by
 intro b s i H Q I h;refine wpAny_Call_method m.base m.few m.line PySem.F.plainAttrs_dict PySem.F.slot_dict_setdefault PySem.F.type_dict_setdefault (thn (B b s i H _ I h) λu T ⟨x,P,l,D,a,A,d,r⟩=>?_);subst A;obtain rfl:u=Value.ref a:=D;obtain⟨K,M,_⟩:=FN l d;refine⟨K,M,?_⟩;rw[m.Gj];refine YM rfl (Calls.evalArgs_plain (YE (thn (N b T i P _ l r) λ_ w ⟨y,p,O,U,R⟩=>
  YE (thn (E b w i p _ O R) λ_ _ ⟨z,C,t,j,_,k,n,L,G,q3,q⟩=>YS ?_))))
 subst L;exact Iu t n U j G (λv V _ J g c=>⟨v,C,g,c,q3 v V⟩) λS J g=>⟨z,_,g,j,q S⟩
end
theorem KV.vals {kvs:List (Key×V)}{vs:List (Key×Wy)} (r:KV kvs vs):aO (kvs.map (·.2)) (vs.map (·.2)):=by
 induction r with
 | nil=>exact .nil
 | cons h _ ih=>exact .cons h.2 ih
def tLV (td:TE):TE:=λσ H Q=>td σ H λx H1=>∃a kvs,x = .ref a/\Rd H1 a (.dK kvs)/\∀p,H1 p=none->Q (.ref p) (upd H1 p (.lst (kvs.map (·.2))))
section
variable {X:Cx}{x:Str}{p apos cT pos:Pos}{o:Expr}{td:TE}
theorem Gc (T:X.calm=true) (G:Gl X x) (C:X.mg x=none) (Y:bootBuiltins x=some (.type "list")) (E:PE X o td)
  (R:x ≠ "__name__" :=by decide) (f:(x == ("__debug__" : Str))=false:=by decide) (J:attributeBase o "values" X.env (eval o X.env)=eval o X.env:=by rfl) (S:(apos.endLine == cT.line)=true:=by rfl)
  (n:Zi [Expr.Call (.Attribute o "values" apos) [] [] cT] X.env=(false,eval (Expr.Call (.Attribute o "values" apos) [] [] cT) X.env)::Zi [] X.env:=by rfl) :
  PE X (.Call (.Name x p) [.Call (.Attribute o "values" apos) [] [] cT] [] pos) (tLV td):=by
 intro b s U H Q I h;refine wpAny_Call_Name_kw (fm I G C Y ?_ R f);refine Yp ?_ n rfl;rw[n];refine YE (wpAny_Call_method0_late J S (thn (E b s U H _ I h) λu A ⟨y,_,e,V,a,kvs,M,d,D⟩=>?_));subst M;obtain rfl:u=Value.ref a:=V;obtain⟨L,N,_⟩:=FN e (.inl ⟨kvs,d⟩);obtain⟨z,P,g,c,m⟩:=Iy e.hok d;refine⟨"dict","dict.values",PySem.F.plainAttrs_dict,PySem.F.slot_dict_values,PySem.F.type_dict_values,L,N,YM rfl (PySem.evalArgs_none ?_)⟩;refine call_meetsIn PySem.F.slot_dict_values m.typeIs PySem.F.entry_dict_values (PySem.F.args_dict_values_1 _) (meets_dict_values (bh X.prog X.w) a P) ⟨⟨g,m⟩,YS ?_⟩;obtain⟨ep,k⟩:=(m.push { cls:=.type "dict_values",data:=.fields #[.ref a] }).dictAt;have r:=e.kept (t':=A.toks) (h':=A.heap.push { cls:=.type "dict_values",data:=.fields #[.ref a] }) λ_ _ q=>Wu _ q;have Z:=c.length;refine PySem.W.kdl_call (PySem.W.kdl_values (knd:=bh X.prog X.w) (kvs:=g) (ep:=ep)) (e.ok.hd T) ⟨⟨_,Y1 _ rfl,rfl,rfl⟩,k⟩ (by lia) λh' _ i K B hS t=>?_;have l:i.toList=g.map (·.2):=PySem.W.kdl_vals_eq i.toList (by rw[T3];exact t.1) λj v O=>t.2 j v (by rw[<-Up];exact O)
 refine⟨.ref _,_,r.laid (o:=.lst (kvs.map (·.2))) B (Tw _) ⟨by rw[Tt];exact z,i.toList,K,by rw[l];exact c.vals,by rw[Array.toArray_toList];exact hS⟩,rfl,D _ (r.hok.fresh (Tw _))⟩
end
section
open SetTable
def way (t:Zj) (h:Int):Nat->Probe
 | 0=>t.probeStart h
 | n+1=>t.advance (way t h n)
end
section
open SetTable
variable {mask:Nat}
end
section
variable {P:Zd}{w:Ze}{A:Zc}{E:Wy->Wx->Prop}{s:Wx}
abbrev tK (P:Zd) (w:Ze):=tupleKind (bh P w)
variable {kf:Za->Int×Str}{a x:Za}{o:Obj}{es:Array (Int×Wy)}{ep:Nat}{t:Zj}
def hK (P:Zd) (w:Ze) (k:Int×Str):Int:=(tK P w).hash [.inl k.1,.inr k.2]
end
def vZ:Wy->Str
 | .str x _=>x
 | _=>Yh
theorem Ke (t:Zj) (es:Array (Int×Wy)) (h:Int) (x:Wy):(layNew t es h x).2.1.led=t.led:=by
 unfold layNew
 split
 ·simp only[SetTable.put,SetTable.orStandIn,SetTable.standIn]
  repeat (first | rfl | split)
 ·rfl
theorem vY (t:Zj) (es:Array (Int×Wy)) (n:Nat):(relayAll t es n).2.1.led=t.led/\(t.plain=false->(relayAll t es n).2.1.plain=false):=by
 unfold relayAll
 split
 ·rename_i t' order e;simp only[SetTable.relaid,SetTable.laid]at e;have:t'.led=t.led/\t'.plain=t.plain:=by
   cases h:SetTable.layClean (SetTable.sizeAbove n - 1) (es.map (·.1))with
   | none=>rw[h]at e;cases e
   | some o=>
    rw[h]at e;cases e;exact⟨rfl,rfl⟩
  dsimp only
  split
  ·exact⟨this.1,λz=>by rw[this.2];exact z⟩
  ·exact⟨rfl,λ_=>rfl⟩
 ·exact⟨rfl,λ_=>rfl⟩
section
variable {P:Zd}{w:Ze}
def kW (P:Zd) (w:Ze) (byT:Bool) (h:Heap) (a:Za) (us:WF):Prop:=∃o es ep t,h.get? a=some o/\o.ExactSet/\o.data = .set es ep t/\ElemsOf (bh P w) es.toList/\es.size<scanBound/\t.fits es.size=true/\t.led=(!byT)/\(us≠[]->t.plain=false)/\(∀e∈es.toList,∃x tk,e.2 = .str x tk)/\(es.toList.map λe=>vZ e.2).Perm us
theorem kW.keep {byT:Bool}{h h':Heap}{a:Za}{us:WF} (x:kW P w byT h a us) (k:∀o,h.get? a=some o->h'.get? a=some o):kW P w byT h' a us:=by
 obtain⟨o,c,b,t,d,r⟩:=x;exact⟨o,c,b,t,k o d,r⟩
theorem AV {byT:Bool}{h:Heap}{a:Za} (c:h.get? a=some { cls:=.type "set",dict:=none,data:=.set #[] 0 (.fresh 0 0 (!byT)) }):kW P w byT h a []:=
 ⟨_,#[],0,_,c,⟨rfl,rfl,rfl⟩,rfl,(λe b=>by simp at b),by decide,by rfl,rfl,λz=>(z rfl).elim,(λe b=>by simp at b),by simp⟩
theorem kj {byT:Bool}{h:Heap}{a:Za}{o:Obj}{es b:Array (Int×Wy)}{ep:Nat}{t t':Zj}{us:WF} (m:h.get? a=some o) (d:o.ExactSet) (f:o.data = .set es ep t)
  (c:ElemsOf (bh P w) b.toList) (j:b.size<scanBound) (i:t'.fits b.size=true) (n:t'.led = !byT) (g:us≠[]->t'.plain=false) (k:∀e∈b.toList,∃x tk,e.2 = .str x tk) (l:(b.toList.map λe=>vZ e.2).Perm us) :
  (h.update a (Obj.putSet b t')).get? a=some { o with data:=.set b (ep+1) t' }/\kW P w byT (h.update a (Obj.putSet b t')) a us:=by
 have q:=Heap.get?_update_self (Obj.putSet b t') m (by rw[putSet_of b t' f];rfl);rw[putSet_of b t' f]at q;exact⟨q,_,b,ep+1,t',q,d,rfl,c,j,i,n,g,k,l⟩
variable {s:Wx}{A:Zc}{E:Wy->Wx->Prop}
theorem HI {byT:Bool}{h:Heap}{a:Za}{us:WF}{x:Str}{es:Array (Int×Wy)} (f:∀e∈es.toList,∃x tk,e.2 = .str x tk) (g:(es.toList.map λe=>vZ e.2).Perm us):(∃e∈es.toList,(bh P w).is (.inr x) e.2=true)↔x∈us:=by
 rw[<-g.mem_iff,Tv];constructor
 ·rintro⟨e,d,c⟩;obtain⟨tk,b⟩:=Nr c;exact⟨e,d,by rw[b];rfl⟩
 ·rintro⟨e,d,c⟩;obtain⟨y,tk,b⟩:=f e d;rw[b]at c;have:y=x:=c;refine⟨e,d,?_⟩;rw[b,this];exact iN P w x tk
theorem GW {byT:Bool}{a:Za}{us:WF}{x:Str}{tk:Tok}{Q:Bool->Wx->Prop} (hS:kW P w byT s.heap a us) (N2:us.length+1<scanBound)
  (h:∀h' b,Yw a s.heap h'->kW P w byT h' a (if x∈us then us else us++[x])->Q b { s with heap:=h' }) :
  Zh (model P w) A (setAddHashed a (.str x tk) ((bh P w).hash (.inr x))) Q E s:=by
 obtain⟨o,u,_,t,I,n,K,D,hb,hf,hl,_,hs,W⟩:=id hS;have JB:(bh P w).is (.inr x) (.str x tk)=true:=iN P w x tk;have v:(Value.str x tk).scannable=true:=rfl;have hn:u.size=us.length:=by
  have:=W.length_eq;rw[Tt,T3]at this;exact this
 have a0:u.size+1<scanBound:=hn ▸ N2;have i:=byScan_of v hb D;unfold setAddHashed;refine Ws ?_;unfold setAddHashedIn;refine Ww (wpAny_setState_of I K hf ?_);dsimp only;rw[i,Zn rfl];unfold setAddByScan;refine Ww (Ww (wpAny_rule (Ww (wpAny_setScan_of JB I K hf D ?_))));have NY:=HI (P:=P) (w:=w) (byT:=byT) (h:=s.heap) (a:=a) (x:=x) hs W;cases hr:List.findIdx? (λe=>(bh P w).is (.inr x) e.2) u.toList with
 | some j=>
  dsimp only;obtain⟨hj,Y,_⟩:=List.findIdx?_eq_some_iff_getElem.mp hr;have H:x∈us:=NY.mp ⟨u.toList[j],Uj hj,Y⟩;have N:=h s.heap false (Heap.SameBut.refl a s.heap) (by rw[Zn H];exact hS);exact Wv (Wv N)
 | none=>
  dsimp only;have H:x∉us:=λz=>by
   obtain⟨e,F,hk⟩:=NY.mpr z;have:=List.findIdx?_eq_none_iff.mp hr e F;rw[hk]at this;cases this
  have B:∀(b:Bool) {s₁:Wx}{Q':Unit->Wx->Prop},Q' () s₁->Zh (model P w) A (match b with | true=>rule "set.scan.the-table-gave-way" | false=>pure ()) Q' E s₁:=
   λb _ _ q=>match b with
    | true=>wpAny_rule q
    | false=>Wv q
  have C:=layNew_perm t u ((bh P w).hash (.inr x)) (.str x tk);have T:=layNew_fits t u ((bh P w).hash (.inr x)) (.str x tk);have U:=Ke t u ((bh P w).hash (.inr x)) (.str x tk);generalize layNew t u ((bh P w).hash (.inr x)) (.str x tk)=L at C T U ⊢;obtain⟨es1,m,_,_⟩:=L;dsimp only at C T U ⊢;rw[VS]at C;have R:ElemsOf (bh P w) es1.toList:=(D.push JB v).perm C;have r:∀e∈es1.toList,∃x tk,e.2 = .str x tk:=λe F=>by
   rcases TV.mp (C.mem_iff.mp F)with z | z
   ·exact hs e z
   ·rw[Tz.mp z];exact⟨x,tk,rfl⟩
  have p:(es1.toList.map λe=>vZ e.2).Perm (us++[x]):=by
   refine(C.map _).trans ?_;rw[TK];exact W.append_right _
  have J:es1.size<scanBound:=by rw[<-T3,C.length_eq,TJ,T3];simpa using a0
  refine Ww (B _ ?_);have S:∀h',Yw a s.heap h'->kW P w byT h' a (us++[x])->Q true { s with heap:=h' }:=λh' sb hx=>h h' true sb (by rw[Zo H];exact hx);have pk:plainKind (.str x tk)=false:=rfl;have X:({ m with plain:=false }:Zj).fits es1.size=true/\({ m with plain:=false }:Zj).led=(!byT)/\({ m with plain:=false }:Zj).plain=false:=⟨SetTable.fits_plain_off T,U.trans hl,rfl⟩;have V:m.plain=false->m.fits es1.size=true/\m.led=(!byT)/\m.plain=false:=λz=>⟨T,U.trans hl,z⟩;cases hpl:m.plain
  ·have c:=V hpl;clear V X;rw[Zo (by decide)];refine Ww (Wv ?_);simp only[if_true];generalize m=t2 at c ⊢;obtain⟨d,y⟩:=kj (P:=P) (w:=w) (us:=us++[x]) I n K R J c.1 c.2.1 (λ_=>c.2.2) r p;have k:=Ye s.heap a (Obj.putSet es1 t2);refine Ww (wpAny_storeSet_of I K ?_ (fits_of_scanBound J));refine wpAny_ite_split (λ_=>?_) λ_=>Wv (Wv (S _ k y));obtain⟨g,O⟩:=And.intro (relayAll_perm t2 es1 (YO es1.size)) (relayAll_fits t2 es1 (YO es1.size));obtain⟨f,l⟩:=vY t2 es1 (YO es1.size);generalize relayAll t2 es1 (YO es1.size)=Z at g O f l ⊢;have M:Z.1.size<scanBound:=by
    have e:=g.length_eq;rw[T3,T3]at e;rw[e];exact J
   obtain⟨_,G⟩:=kj (P:=P) (w:=w) (us:=us++[x]) d n rfl (R.perm g) M O (f.trans c.2.1) (λ_=>l c.2.2) (λe F=>r e (g.mem_iff.mp F)) ((g.map _).trans p);refine Ww (B _ (Ww (wpAny_storeSet_of d rfl ?_ (fits_of_scanBound M))));exact Wv (Wv (S _ (k.trans (Ye _ a _)) G))
  ·have c:=X;clear V X;rw[Zn rfl,hashByValue_scannable 8 v];refine Ww (Wv ?_);simp only[pk,Ug,if_false];generalize({ m with plain:=false }:Zj)=t2 at c ⊢;obtain⟨d,y⟩:=kj (P:=P) (w:=w) (us:=us++[x]) I n K R J c.1 c.2.1 (λ_=>c.2.2) r p;have k:=Ye s.heap a (Obj.putSet es1 t2);refine Ww (wpAny_storeSet_of I K ?_ (fits_of_scanBound J));refine wpAny_ite_split (λ_=>?_) λ_=>Wv (Wv (S _ k y));obtain⟨g,O⟩:=And.intro (relayAll_perm t2 es1 (YO es1.size)) (relayAll_fits t2 es1 (YO es1.size));obtain⟨f,l⟩:=vY t2 es1 (YO es1.size);generalize relayAll t2 es1 (YO es1.size)=Z at g O f l ⊢;have M:Z.1.size<scanBound:=by
    have e:=g.length_eq;rw[T3,T3]at e;rw[e];exact J
   obtain⟨_,G⟩:=kj (P:=P) (w:=w) (us:=us++[x]) d n rfl (R.perm g) M O (f.trans c.2.1) (λ_=>l c.2.2) (λe F=>r e (g.mem_iff.mp F)) ((g.map _).trans p);refine Ww (B _ (Ww (wpAny_storeSet_of d rfl ?_ (fits_of_scanBound M))));exact Wv (Wv (S _ (k.trans (Ye _ a _)) G))
def eU:WF->WF->WF
 | us,[]=>us
 | us,x::r=>eU (if x∈us then us else us++[x]) r
theorem DC:∀(zs us:WF),(eU us zs).length<=us.length+zs.length
 | [],us=>Tw _
 | x::r,us=>by
  have:=DC r (if x∈us then us else us++[x]);unfold eU
  split at this
  ·rw[if_pos ‹_›];simp at *;lia
  ·rw[if_neg ‹_›];simp at *;lia
theorem gW:∀(zs us:WF),us.Nodup->(eU us zs).Nodup
 | [],us,h=>h
 | y::r,us,h=>by
  unfold eU;refine gW r _ ?_
  split
  ·exact h
  ·rename_i hn;exact Vg.mpr ⟨h,by simp,λa c b d e=>hn (by rw[Tz.mp d]at e;rw[<-e];exact c)⟩
theorem Ed {byT:Bool}{R:Result->Wx->Prop}{I:Za}{fp wr:WH}{G:Array GenState->Array GenState->Prop}{n:Nat}{K:Nat->Wy->Prop}{St:Nat->Wx->Prop} (W:WalksS P w A.in1 I fp wr G n K St) (S:Za) (j:S∉fp)
  (zs:WF) (hz:zs.length=n) (Q:∀i v,K i v->∃x t,zs[i]? = some x/\v = .str x t) (q:n+1<scanBound) :
  ∀(r:WF) (i:Nat) (s:Wx) (us:WF),r=zs.drop i->i<=n->us.length<=i->St i s->kW P w byT s.heap S us ->
   (∀s',Moved (S::wr) G s s'->kW P w byT s'.heap S (eU us r)->R (.ok (.ret .none)) s') ->
   codeAny (model P w) A (.builtin "set.update.loop" ⟨[.ref S,.ref I],[]⟩) R s:=by
 have d:S∉wr:=mt (W.sub S) j;have L:=λb (z:b∈wr)=>TC S z;intro r
 induction r with
 | nil=>
  intro i s us c T B a hS C;have E:i=n:=by
   have:=VD.mp c.symm;lia
  subst E;refine codeAny_builtin PyProof.Rows.F.entry_set_update_loop ?_;rw[Yg YL _];refine Ww (m:=pyNext (.ref I)) (W.done s _ _ a λs' f=>?_);exact Wv (C s' (f.mono L) (hS.keep λo e=>f.heap S _ d e))
 | cons x r M=>
  intro i s us c T B a hS C;have p:i<zs.length:=by
   rcases Ur i zs.length with z | z
   ·exact z
   ·rw[UL z]at c;cases c
  have l:zs[i]? = some x/\r=zs.drop (i+1):=by
   rw[Um p]at c;injection c with e1 e2;exact⟨by rw[Tu p,<-e1],e2⟩
  refine codeAny_builtin PyProof.Rows.F.entry_set_update_loop ?_;rw[Yg YL _];refine Ww (m:=pyNext (.ref I)) (W.item i s _ _ (by lia) a λv s' O N f=>?_);obtain⟨_,t,g,rfl⟩:=Q i v O;rw[l.1]at g;cases g;have D:kW P w byT s'.heap S us:=hS.keep λo e=>f.heap S _ d e;show Zh _ A.in1 (holding [Value.str x t] (setAdd S (.str x t)) >>= _) _ _ s';refine Ww (Ws ?_);unfold setAdd;refine Ws ?_;refine Ww ((bh P w).pyHash (k:=.inr x) (iN P w x t) ?_);refine GW (s:={ s' with toks:=s'.toks+1 }) D (by lia) λh' b J u=>?_;refine Wv ⟨plainId_quiet YL _,M (i+1) _ _ l.2 (by lia) ?_ (W.frame _ s' _ _ N (UN _) λb q o e=>?_) u λH V U=>?_⟩
  ·split
   ·lia
   ·simp;lia
  ·rw[J.2 b (λh:b=S=>j (by rw[<-h];exact q))];exact e
  ·have first:=f.mono L
   have y:=first.then_heap (UN s'.toks) (h':=h') λb o q e=>(J.2 b λz=>q (z ▸ TH)).trans e;exact C H (Moved.trans W.gtrans y V) U
def i5 (w:Ze):Bool:=w.params.followText "set-order"
def Ew (w:Ze):Obj:={ cls:=.type "set",dict:=none,data:=.set #[] 0 (.fresh 0 0 (!i5 w)) }
theorem JY (a:Wy) {Q₁:Wy->Wx->Prop} (h:Q₁ (.ref s.heap.objs.size) { s with heap:=s.heap.push (Ew w) }) :
  codeAny (model P w) A (.call (.builtin "set.__new__") ⟨[.type "set",a],[]⟩) (wants Q₁ E) s:=by
 have c:∀b,b=(!i5 w)->Q₁ (.ref s.heap.objs.size) { s with heap:=s.heap.push { cls:=.type "set",dict:=none,data:=.set #[] 0 (.fresh 0 0 b) } }:=λb e=>by subst e;exact h
 refine codeAny_of_tree (Ww (m:=checkBuiltinCall "set.__new__" ⟨[.type "set",a],[]⟩) (wpAny_of_eq (PySem.F.newCall_set_1 a) (Wv ⟨plainId_quiet PySem.F.plain_set_new _,codeAny_builtin PySem.F.entry_set_new ?_⟩)));rw[Yg PySem.F.plain_set_new _];unfold Builtin.«set.__new__» Builtin.Frozenset.newClass;have f:=sub_set_self;clear h;obtain⟨_,g,d,_,_⟩:=s;dsimp only at c ⊢
 wp_walk
 refine wpAny_askSetting (Wv ?_);dsimp only;simp only[newObj];exact Ww (wpAny_alloc (Wv (Wv (c _ rfl))))
theorem HR {l a:Za}{items:WG}{zs:WF}{Q:PySem.Fin->Wx->Prop} (R:A.handled=none) (q:s.heap.IsList l items) (hi:aO (zs.map V.str) items.toList) (C:items.size+1<scanBound) (D:s.heap.get? a=some (Ew w)) (p:l≠a)
  (h:∀(h':Heap) (tk:Nat),kW P w (i5 w) h' a (eU [] zs)->(∀b o,b≠a->s.heap.get? b=some o->h'.get? b=some o)->Q (.done (.ret .none)) { s with heap:=h',toks:=tk }) :
  Zh (model P w) A (Builtin.«set.__init__» ⟨[.ref a,.ref l],[]⟩) Q E s:=by
 have hT:s.TypeIs (.ref a) "set" :=⟨_,D,rfl⟩;obtain⟨L,n,f,_,g⟩:=id q;obtain⟨_,_,_,_⟩:=L;simp only at f g;subst f g;have U:=PySem.F.sub_list_set;have W:=PySem.F.sub_list_frozenset;have M:(Value.type "list" == Value.type "dict")=false:=by decide
 have r:s.heap.get? a=some { cls:=.type "set",dict:=none,data:=.set #[] 0 (.fresh 0 0 (!i5 w)) }:=D;unfold Builtin.«set.__init__» noKeywords Builtin.Frozenset.updateFrom;generalize hPI:pyIter=PI
 wp_walk
 subst hPI;refine wpAny_pyIter_list q (Ww (wpAny_runValue ?_));have H:l<s.heap.objs.size:=Y2 n;have G:a<s.heap.objs.size:=Y2 D;have c:zs.length=items.size:=by have:=hi.length;rw[Tt,T3]at this;exact this
 refine Ed (byT:=i5 w) ((Walks.list (show A.in1.handled=none from R) s.heap.objs.size l (T5 H) items).toS) a (by simp only[TM,UR,or_false,not_or];exact⟨T5 G,p.symm⟩) zs c (λi v T=>?_) C zs 0 _ [] rfl (T2 _) (Tw _)
  ⟨⟨_,Y1 _ rfl,rfl,rfl⟩,q.push _⟩ (AV (Wu _ r)) λN j B=>?_
 ·have d:items.toList[i]? = some v:=by rw[Up];exact T
  have m:i<zs.length:=by rw[c];rw[Up]at d;exact(Array.getElem?_eq_some_iff.mp d).1
  obtain⟨x,I⟩:∃x,zs[i]? = some x:=⟨zs[i],Tu m⟩;obtain⟨u,J,O⟩:=hi.get (i:=i) (x:=.str x) (by rw[TF,I];rfl);rw[d]at J;cases J;obtain⟨t,rfl⟩:=O;exact⟨x,t,I,rfl⟩
 ·obtain⟨h',K,S,k,y⟩:=N;obtain rfl:K = s.gens:=j.gens;obtain rfl:S = s.drawn:=j.drawn;obtain rfl:y = s.os:=j.os;refine Wv (Wv (h h' k B λb o C e=>j.heap b o (λz=>?_) (Wu _ e)));rcases TM.mp z with z | z
  ·exact C z
  ·exact absurd (Y2 e) (by rw[Tz.mp z];exact Uz _)
theorem vw {l:Za}{items:WG}{zs:WF}{Q:Wy->Wx->Prop} (y:A.handled=none) (n:s.heap.IsList l items) (hi:aO (zs.map V.str) items.toList) (x:items.size+1<scanBound)
  (h:∀(h':Heap) (tk:Nat),kW P w (i5 w) h' s.heap.objs.size (eU [] zs)->(∀b o,s.heap.get? b=some o->h'.get? b=some o)->Q (.ref s.heap.objs.size) { s with heap:=h',toks:=tk }) :
  Zh (model P w) A (call (.type "set") [.ref l]) Q E s:=by
 obtain⟨c,_,_⟩:=PySem.F.called_set.mro;have B:=PySem.F.called_set.made;have D:=PySem.F.called_set.sub;have G:=PySem.F.called_set.notType;have C:=PySem.F.called_set.canCreate;have t:=PySem.F.typeCall_set_1 (.ref l);refine wpAny_call (codeAny_of_tree (show Zh _ _ (callAny (.type "set") _) _ _ _ from Wv ⟨Code.quiet_builtin _ (by decide +kernel),codeAny_builtin PySem.F.entry_type_call ?_⟩));rw[Around.under_plain (weight_type_call_type "set" [.ref l] []) rfl]
 repeat any_goals (first | assumption | wp_step)
 refine codeAny_mono (JY (P:=P) (w:=w) (.ref l) (E:=E) (Q₁:=λj d=>j = .ref s.heap.objs.size/\d={ s with heap:=s.heap.push (Ew w) }) ⟨rfl,rfl⟩) λr d k=>?_;cases r with
 | error e=>exact k
 | ok q=>
  cases q with
  | ret j=>
   obtain⟨rfl,rfl⟩:=k;have hS:(s.heap.push (Ew w)).get? s.heap.objs.size=some (Ew w):=Y1 _ rfl;have hT:Shared.TypeIs { s with heap:=s.heap.push (Ew w) } (.ref s.heap.objs.size) "set" :=⟨_,hS,rfl⟩;have z:=PySem.F.called_set.init.lookup;have v:=PySem.F.called_set.init.bind (.ref s.heap.objs.size)
   repeat any_goals (first | assumption | wp_step)
   refine codeAny_mono (codeAny_call_builtin (R:=wants (λr f=>r = .none/\Q (.ref s.heap.objs.size) f) E) PySem.F.called_set.init.plain PySem.F.entry_set_init (check_set_init_1 hT ?_)) λi f a=>?_
   ·have m:l<s.heap.objs.size:=by obtain⟨_,e,_⟩:=n;exact Y2 e
    refine HR (A:=A.in1.in1) y (n.push _) hi x hS (T5 m) λh' tk u p=>?_;exact⟨rfl,h h' tk u λb o e=>p b o (T5 (Y2 e)) (Wu _ e)⟩
   ·cases i with
    | error e=>exact a
    | ok g=>
     cases g with
     | ret r=>
      obtain⟨rfl,_⟩:=a
      repeat any_goals (first | assumption | wp_step)
     | _=>exact a.elim
  | _=>exact k.elim
end
end L2
namespace L2
open PySem PySem.Spec PyProof.Rows PySem.W
namespace SF
theorem slot_next:Slot "set_iterator" "__next__" "set_iterator.__next__" :=
 .of (owner:= "set_iterator") (n:= "__next__") (by rw[typeLookup_type,builtinLookup_eq_fast];kernel_rfl) (by decide +kernel) (by decide +kernel) (by decide +kernel) (by first | exact .inl (by decide +kernel) | exact .inr (by decide +kernel)) (by rw[isSubtype_type];kernel_rfl)
theorem vG:Slot "set_iterator" "__iter__" "set_iterator.__iter__" :=
 .of (owner:= "set_iterator") (n:= "__iter__") (by rw[typeLookup_type,builtinLookup_eq_fast];kernel_rfl) (by decide +kernel) (by decide +kernel) (by decide +kernel) (by first | exact .inl (by decide +kernel) | exact .inr (by decide +kernel)) (by rw[isSubtype_type];kernel_rfl)
theorem entry_next:entryFor table "set_iterator.__next__" = some Builtin.«set_iterator.__next__»:=entryFor_of_tree (by kernel_rfl)
theorem args_next (a:Wy):argsOk "set_iterator.__next__" ⟨[a],[]⟩:=by unfold argsOk;kernel_rfl
theorem EQ (a:Wy):argsOk "set_iterator.__iter__" ⟨[a],[]⟩:=by unfold argsOk;kernel_rfl
theorem tZ:entryFor table "set.__iter__" = some Builtin.«frozenset.__iter__»:=entryFor_alias (id':= "frozenset.__iter__") (by kernel_rfl) rfl (by decide +kernel) (by kernel_rfl)
theorem Bf:entryFor table "set_iterator.__iter__" = some Builtin.«dict_keyiterator.__iter__»:=entryFor_alias (id':= "dict_keyiterator.__iter__") (by kernel_rfl) rfl (by decide +kernel) (by kernel_rfl)
end SF
section
variable {P:Zd}{w:Ze}{A:Zc}{E:Wy->Wx->Prop}{s:Wx}
theorem yo {M:Model}{a:Source}{n:Nat}{Q:Nat->Wx->Prop} (b:n≠0) (h:∀i d,i<n->Q i { s with drawn:=d }):Zh M A (choose a n) Q E s:=λc p hc=>by
 unfold choose;rw[Sem.wp_choose];exact⟨b,h _ _ (Nat.mod_lt _ (Nat.pos_of_ne_zero b))⟩
theorem nI {α:Type}:∀(l:List α) (i:Nat) (h:i<l.length),(l[i]::l.eraseIdx i).Perm l
 | [],_,h=>by cases h
 | x::r,0,_=>Z8 _
 | x::r,i+1,h=>by
  have a:=nI r i (by simpa using h);exact(List.Perm.swap _ _ _).trans (List.Perm.cons _ a)
theorem kK {M:Model}{α:Type}:∀(n:Nat) (xs:List α) (s:Wx) {Q:List α->Wx->Prop},xs.length=n->(∀ys d,ys.Perm xs->Q ys { s with drawn:=d })->Zh M A (drawOrder n xs) Q E s
 | 0,xs,s,Q,hn,h=>by
  have:xs=[]:=U7.mp hn;subst this;exact Wv (h [] s.drawn (Z8 _))
 | n+1,[],s,Q,hn,h=>by cases hn
 | n+1,x::xs,s,Q,hn,h=>by
  unfold drawOrder;refine Ww (yo (by simp) λi d a=>?_);rw[Tu a];dsimp only;refine Ww (kK n _ _ (by rw[VL a];simpa using hn) λys c b=>Wv (h _ c ?_));exact(List.Perm.cons _ b).trans (nI _ i a)
def l6 (first:Wy) (i:Nat) (a:Za) (n ep:Nat):Obj:={ cls:=.type "set_iterator",data:=.fields #[first,.int i 0,.ref a,.int n 0,.int ep 0] }
structure SAt (h:Heap) (a:Za) (es:Array (Int×Wy)) (ep:Nat) (t:Zj):Prop where
 ob:∃o,h.get? a=some o/\o.ExactSet/\o.data = .set es ep t
 ft:t.fits es.size=true
theorem d9 {a:Za}{es:Array (Int×Wy)}{ep:Nat}{tb:Zj}{Q:Array (Int×Wy)->Wx->Prop} (b:SAt s.heap a es ep tb) (h:Q es s):Zh (model P w) A (setEntries a) Q E s:=by
 obtain⟨o,d,_,c⟩:=b.ob;exact Ww (wpAny_setState_of d c b.ft (Wv h))
theorem mS (n:Nat):¬ (((n:Int) != (n:Int))=true):=by simp
theorem z9 {M:Model}{α:Type}{R:α->Wx->Prop} (c:A.handled=none) (h:∀h' e o,(∀b o,s.heap.get? b=some o->h'.get? b=some o)->h'.get? e=some o->o.cls = .type "StopIteration" -> E (.ref e) { s with heap:=h' }):Zh M A (newExc (.type "StopIteration") [] >>= λe=>(raiseNew e:Sem α)) R E s:=by
 refine Ww ?_;unfold newExc newTuple;refine Ww (wpAny_newObj_type ?_ (by size_fits));have a:(firstArgMember (.type "StopIteration") []:Sem Wy)=pure Value.none:=by first | rfl | (unfold firstArgMember;rfl)
 rw[a];refine Ww (Wv (wpAny_newObj_type ?_ (by size_fits)));unfold raiseNew;refine Ww (wpAny_handled ?_);rw[c];exact Ww (Wv (wpAny_throw (h _ _ _ (λb o e=>Wu _ (Wu _ e)) (Y1 _ rfl) rfl)))
theorem oO {it a:Za}{first:Wy}{i n ep:Nat}{Q:Option Wy->Wx->Prop} (d:s.heap.get? it=some (l6 first i a n ep))
  (h:Zh (model P w) A.in1 (Builtin.«set_iterator.__next__» ⟨[.ref it],[]⟩) (λf s'=>∃v,f = .done (.ret v)/\Q (some v) s') (λe s'=>∃b o,e = .ref b/\s'.heap.get? b=some o/\o.cls = .type "StopIteration" /\ Q none s') s) :
  Zh (model P w) A (pyNext (.ref it)) Q E s:=by
 have c:s.TypeIs (.ref it) "set_iterator" :=⟨_,d,rfl⟩;unfold pyNext;refine Ww (wpAny_attempt (wpAny_callSpecial?_slot (name:=Yk "__next__") c SF.slot_next (wpAny_call_entry SF.slot_next c SF.entry_next ?_ (SF.args_next _))));refine Wt h (λf s' ⟨v,e,q⟩=>?_) λe s' ⟨b,o,g,k,j,q⟩=>?_
 ·exact⟨v,e,Wv q⟩
 ·subst g;exact Ww (wpAny_isInstance (T:= "StopIteration") (b:=true) ⟨o,k,j⟩ isSubtype_stop (Wv q))
theorem my {it a:Za}{first x:Wy}{i n ep k:Nat}{vs:WG}{Q:Unit->Wx->Prop} (b:s.heap.get? it=some { cls:=.type "set_iterator",data:=.fields vs }) (d:k<vs.size)
  (h:∀h',Yw it s.heap h'->h'.get? it=some { cls:=.type "set_iterator",data:=.fields (vs.setIfInBounds k x) }->Q () { s with heap:=h' }):Zh (model P w) A (setField (.ref it) k x) Q E s:=
 wpAny_setField_rec b d λh' e c=>h h' c e
theorem yX {it a:Za}{slot i ep nx:Nat}{x:Wy}{es:Array (Int×Wy)}{tb:Zj}{Q:Option Wy->Wx->Prop} (b:s.heap.get? it=some (l6 (.int slot 0) i a es.size ep)) (g:SAt s.heap a es ep tb)
  (e:∀(A:Zc) (E:Wy->Wx->Prop) (R:Option (Wy×Nat)->Wx->Prop),R (some (x,nx)) s->Zh (model P w) A (setNext a slot i ep) R E s)
  (h:∀h',Yw it s.heap h'->h'.get? it=some (l6 (.int nx 0) (i+1:Nat) a es.size ep)->Q (some x) { s with heap:=h' }):Zh (model P w) A (pyNext (.ref it)) Q E s:=by
 refine oO b ?_;unfold Builtin.«set_iterator.__next__»;refine Ww (Wv ?_);refine Ww (wpAny_fieldsOf b rfl ?_);show Zh _ _ (setEntries a >>= _) _ _ _;refine Ww (d9 g ?_);rw[Zo (mS es.size)];show Zh _ _ (setNext a slot i ep >>= _) _ _ _;refine Ww (e _ _ _ ?_);dsimp only;refine Ww (my (a:=a) (first:=x) (i:=i) (n:=0) (ep:=ep) b (by simp) λ_ d j=>?_);refine Ww (my (a:=a) (first:=x) (i:=i) (n:=0) (ep:=ep) j (by simp) λf c k=>?_);exact Wv ⟨x,rfl,h f (d.trans c) k⟩
theorem zV {it a:Za}{slot i ep:Nat}{es:Array (Int×Wy)}{tb:Zj}{Q:Option Wy->Wx->Prop} (j:A.handled=none) (c:s.heap.get? it=some (l6 (.int slot 0) i a es.size ep)) (q:SAt s.heap a es ep tb)
  (f:∀(A:Zc) (E:Wy->Wx->Prop) (R:Option (Wy×Nat)->Wx->Prop),R none s->Zh (model P w) A (setNext a slot i ep) R E s)
  (h:∀h',(∀b o,b≠it->s.heap.get? b=some o->h'.get? b=some o)->Q none { s with heap:=h' }):Zh (model P w) A (pyNext (.ref it)) Q E s:=by
 refine oO c ?_;unfold Builtin.«set_iterator.__next__»;refine Ww (Wv ?_);refine Ww (wpAny_fieldsOf c rfl ?_);show Zh _ _ (setEntries a >>= _) _ _ _;refine Ww (d9 q ?_);rw[Zo (mS es.size)];show Zh _ _ (setNext a slot i ep >>= _) _ _ _;refine Ww (f _ _ _ ?_);dsimp only;refine Ww (my (a:=a) (first:=.none) (i:=i) (n:=0) (ep:=ep) c (by simp) λt d _=>?_);refine z9 (s:={ s with heap:=t }) (show A.in1.handled=none from j) λh' e o l r m=>⟨e,o,rfl,r,m,h h' λb g k p=>l b g ((d.2 b k).trans p)⟩
theorem Eb {it a T:Za}{i ep k:Nat}{hx:Int}{x:Wy}{ps:List Nat}{es:Array (Int×Wy)}{tb:Zj}{oT:Obj}{g:Nat}{Q:Option Wy->Wx->Prop} (b:s.heap.get? it=some (l6 (.ref T) i a es.size ep)) (d:SAt s.heap a es ep tb)
  (hT:s.heap.get? T=some oT) (p:oT.data = .seq (ps.map λ(j:Nat)=>rawInt j).toArray g) (e:ps[i]? = some k) (q:es[k]? = some (hx,x)) (h:∀h',Yw it s.heap h'->h'.get? it=some (l6 (.ref T) (i+1:Nat) a es.size ep)->Q (some x) { s with heap:=h' }) :
  Zh (model P w) A (pyNext (.ref it)) Q E s:=by
 refine oO b ?_;unfold Builtin.«set_iterator.__next__»;refine Ww (Wv ?_);refine Ww (wpAny_fieldsOf b rfl ?_);show Zh _ _ (setEntries a >>= _) _ _ _;refine Ww (d9 d ?_);rw[Zo (mS es.size)];show Zh _ _ (seqItems? (.ref T) >>= _) _ _ _;refine Ww (wpAny_seqItems hT p ?_);have l:(ps.map λ(j:Nat)=>rawInt j).toArray[(i:Int).toNat]? = some (.int k 0):=by
  rw[Us,Vf,TF,e];rfl
 dsimp only;rw[l];dsimp only;refine Ww ?_;unfold setNextDrawn;obtain⟨o,r,_,f⟩:=d.ob;refine Ww (wpAny_setState_of r f d.ft ?_);dsimp only;rw[Zo (by simp)];refine Ww (Wv ?_);rw[Us,q];refine Wv ?_;refine Ww (my (a:=a) (first:=x) (i:=i) (n:=0) (ep:=ep) b (by simp) λt c m=>?_);exact Wv ⟨x,rfl,h t c m⟩
theorem DR {it a T:Za}{i ep:Nat}{ps:List Nat}{es:Array (Int×Wy)}{tb:Zj}{oT:Obj}{q:Nat}{Q:Option Wy->Wx->Prop} (z:A.handled=none) (c:s.heap.get? it=some (l6 (.ref T) i a es.size ep)) (k:SAt s.heap a es ep tb)
  (hT:s.heap.get? T=some oT) (y:oT.data = .seq (ps.map λ(j:Nat)=>rawInt j).toArray q) (p:ps[i]? = none) (h:∀h',(∀b o,b≠it->s.heap.get? b=some o->h'.get? b=some o)->Q none { s with heap:=h' }) :
  Zh (model P w) A (pyNext (.ref it)) Q E s:=by
 refine oO c ?_;unfold Builtin.«set_iterator.__next__»;refine Ww (Wv ?_);refine Ww (wpAny_fieldsOf c rfl ?_);show Zh _ _ (setEntries a >>= _) _ _ _;refine Ww (d9 k ?_);rw[Zo (mS es.size)];show Zh _ _ (seqItems? (.ref T) >>= _) _ _ _;refine Ww (wpAny_seqItems hT y ?_);have m:(ps.map λ(j:Nat)=>rawInt j).toArray[(i:Int).toNat]? = none:=by
  rw[Us,Vf,TF,p];rfl
 dsimp only;rw[m];dsimp only;refine Ww (my (a:=a) (first:=.none) (i:=i) (n:=0) (ep:=ep) c (by simp) λ_ f x=>?_);refine Ww (my (a:=a) (first:=.none) (i:=i) (n:=0) (ep:=ep) x (by simp) λt d _=>?_);refine z9 (s:={ s with heap:=t }) (show A.in1.handled=none from z) λh' e o g l B=>⟨e,o,rfl,l,B,h h' λb r u v=>g b r (((f.trans d).2 b u).trans v)⟩
theorem mH {α:Type} (next:Nat->Nat):∀(n k:Nat) (l:List α) (out:Array α),l.length=n->((pickOrder.go next n k l out).toList).Perm (out.toList++l)
 | 0,k,l,out,hn=>by
  have:l=[]:=U7.mp hn;subst this;unfold pickOrder.go;simp
 | n+1,k,l,out,hn=>by
  unfold pickOrder.go;have a:next k % l.length<l.length:=Nat.mod_lt _ (by lia);rw[Tu a];dsimp only;refine(mH next n (k+1) _ _ (by rw[VL a];lia)).trans ?_;rw[VS,UZ];exact List.Perm.append_left _ (nI l _ a)
theorem oM {a:Za}{slot i ep:Nat}{es:Array (Int×Wy)}{tb:Zj}{R:Option (Wy×Nat)->Wx->Prop} (d:i5 w=true) (b:SAt s.heap a es ep tb)
  (h:R (((pickOrder (w.params.setOrder a ep) es)[i]?).map λe=>(e.2,slot)) s):Zh (model P w) A (setNext a slot i ep) R E s:=by
 obtain⟨o,f,_,c⟩:=b.ob;unfold setNext setsByText;refine Ww (wpAny_setState_of f c b.ft ?_);dsimp only;refine Ww (Ww (wpAny_askSetting (Wv ?_)));show Zh _ _ (if i5 w=true then _ else _) _ _ _;rw[Zn d,Zo (by simp)];refine Ww ?_;unfold setWalk setsByText;refine Ww (wpAny_setState_of f c b.ft ?_);dsimp only;refine Ww (Ww (wpAny_askSetting (Wv ?_)));show Zh _ _ (if i5 w=true then _ else _) _ _ _;rw[Zn d];exact Ww (wpAny_askSetting (Wv (Wv h)))
theorem qQ {a:Za}{slot i ep:Nat}{es:Array (Int×Wy)}{tb:Zj}{R:Option (Wy×Nat)->Wx->Prop} (d:i5 w=false) (e:tb.led=true) (h1:es.size<=1) (b:SAt s.heap a es ep tb)
  (h:R (match es[Z9 tb.place slot]?,tb.place[Z9 tb.place slot]? with | some (_,x),some j=>some (x,j+1) | _,_=>none) s):Zh (model P w) A (setNext a slot i ep) R E s:=by
 obtain⟨o,f,_,c⟩:=b.ob;unfold setNext setsByText;refine Ww (wpAny_setState_of f c b.ft ?_);dsimp only;refine Ww (Ww (wpAny_askSetting (Wv ?_)));show Zh _ _ (if i5 w=true then _ else _) _ _ _;rw[Zo (by rw[d];decide)];refine Ww (Wv ?_);show Zh _ _ (if (!tb.plain && decide (es.size > 1))=true then _ else _) _ _ _;rw[Zo (by simp;lia)];refine Ww ?_;show Zh _ _ (if (!tb.led && !es.isEmpty)=true then _ else _) _ _ _;rw[Zo (by simp[e])];exact Wv (Wv h)
theorem uR (xs:Array Nat) (h:xs.size<=1):Z9 xs 0=0:=by
 unfold Z9;have:xs.size=0\/xs.size=1:=by lia
 rcases this with e | e
 ·rw[e];rfl
 ·rw[e];show YU xs 0 1 0 1=0;unfold YU;simp[YU]
theorem BU (j:Nat):Z9 #[j] (j+1)=1:=by
 unfold Z9;show YU #[j] (j+1) 1 0 1=1;unfold YU;simp[YU]
structure Handed (es:Array (Int×Wy)) (vs:WJ):Prop where
 perm:vs.Perm (es.toList.map (·.2))
theorem eD {h h':Heap}{a:Za}{es:Array (Int×Wy)}{ep:Nat}{t:Zj} (x:SAt h a es ep t) (k:∀o,h.get? a=some o->h'.get? a=some o):SAt h' a es ep t:=by
 obtain⟨o,e,r⟩:=x.ob;exact⟨⟨o,k o e,r⟩,x.ft⟩
theorem tD {it a:Za}{first:Wy}{i n ep:Nat}{Q:Wy->Wx->Prop} (c:s.heap.get? it=some (l6 first i a n ep)) (h:Q (.ref it) s):Zh (model P w) A (pyIter (.ref it)) Q E s:=by
 have b:s.TypeIs (.ref it) "set_iterator" :=⟨_,c,rfl⟩;refine wpAny_pyIter_slot b SF.vG (wpAny_call_entry SF.vG b SF.Bf ?_ (SF.EQ _));exact Wv ⟨_,rfl,"set_iterator",_,b,SF.slot_next.lookup,h⟩
theorem Es {it a:Za}{ep:Nat}{es:Array (Int×Wy)}{tb:Zj} (r:A.handled=none) (l:a≠it) (d:i5 w=true) :
  Walks P w A it [it,a] [it] es.size (λi v=>((pickOrder (w.params.setOrder a ep) es).toList.map (·.2))[i]? = some v) (λi h=>h.get? it=some (l6 (.int 0 0) i a es.size ep)/\SAt h a es ep tb) where
 sub:=λb d=>by rw[Tz.mp d];exact .head _
 frame:=λi h g c k=>⟨k it (by simp) _ c.1,eD c.2 λo e=>k a (by simp) o e⟩
 item:=λi s Q E _ c n=>by
  have q:(pickOrder (w.params.setOrder a ep) es).size=es.size:=by
   have:=(mH (w.params.setOrder a ep) es.size 0 es.toList #[] (by simp)).length_eq;unfold pickOrder;simpa using this
  have f:i<(pickOrder (w.params.setOrder a ep) es).size:=by lia
  refine yX (slot:=0) (nx:=0) (x:=(pickOrder (w.params.setOrder a ep) es)[i].2) c.1 c.2 (λA E R m=>oM d c.2 (by rw[Uc f];exact m)) λg p j=>?_;refine n _ g s.toks ?_ ⟨j,eD c.2 λo e=>(p.2 a l).trans e⟩ λb o d e=>(p.2 b (by simpa using d)).trans e;rw[TF,Up,Uc f];rfl
 done:=λs Q E c n=>by
  have q:(pickOrder (w.params.setOrder a ep) es).size=es.size:=by
   have:=(mH (w.params.setOrder a ep) es.size 0 es.toList #[] (by simp)).length_eq;unfold pickOrder;simpa using this
  refine zV (slot:=0) r c.1 c.2 (λA E R m=>oM d c.2 (by rw[UM (by lia)];exact m)) λg k=>n g s.toks λb o d e=>k b o (by simpa using d) e
 self:=λi s Q E c h=>tD c.1 h
theorem Bw {it a T:Za}{ep z:Nat}{oT:Obj}{ps:List Nat}{es:Array (Int×Wy)}{tb:Zj} (B:A.handled=none) (n:a≠it) (m:T≠it) (p:ps.Perm (Y7 es.size)) (u:oT.data = .seq (ps.map λ(j:Nat)=>rawInt j).toArray z) :
  Walks P w A it [it,a,T] [it] es.size (λi v=>(ps.map λk=>(es.getD k (0,.none)).2)[i]? = some v) (λi h=>h.get? it=some (l6 (.ref T) i a es.size ep)/\SAt h a es ep tb/\h.get? T=some oT) where
 sub:=λb f=>by rw[Tz.mp f];exact .head _
 frame:=λi h g c k=>⟨k it (by simp) _ c.1,eD c.2.1 λo e=>k a (by simp) o e,k T (by simp) _ c.2.2⟩
 item:=λi s Q E _ c r=>by
  have y:ps.length=es.size:=by rw[p.length_eq];simp
  have d:i<ps.length:=by lia
  have t:ps[i]<es.size:=by have:=p.mem_iff.mp (Uj d);simpa using this
  refine Eb (hx:=es[ps[i]].1) (x:=es[ps[i]].2) c.1 c.2.1 c.2.2 u (Tu d) (Uc t) λg q l=>?_;refine r _ g s.toks ?_ ⟨l,eD c.2.1 λo e=>(q.2 a n).trans e,(q.2 T m).trans c.2.2⟩ λb o f e=>(q.2 b (by simpa using f)).trans e;rw[TF,Tu d,Option.map_some];simp[Z3,t]
 done:=λs Q E c r=>by
  have y:ps.length=es.size:=by rw[p.length_eq];simp
  refine DR B c.1 c.2.1 c.2.2 u (Ux (by lia)) λg k=>r g s.toks λb o f e=>k b o (by simpa using f) e
 self:=λi s Q E c h=>tD c.1 h
theorem Iz {it a:Za}{ep:Nat}{es:Array (Int×Wy)}{tb:Zj} (D:A.handled=none) (q:a≠it) (d:i5 w=false) (t:tb.led=true) (h1:es.size<=1) (g:tb.fits es.size=true) :
  Walks P w A it [it,a] [it] es.size (λi v=>(es.toList.map (·.2))[i]? = some v) (λi h=>h.get? it=some (l6 (.int (if i=0 then 0 else tb.place.getD 0 0+1:Nat) 0) i a es.size ep)/\SAt h a es ep tb) where
 sub:=λb d=>by rw[Tz.mp d];exact .head _
 frame:=λi h m c k=>⟨k it (by simp) _ c.1,eD c.2 λo e=>k a (by simp) o e⟩
 item:=λi s Q E y c r=>by
  obtain rfl:i=0:=by lia
  have p:tb.place.size=es.size:=by simp only[SetTable.fits,Ub,beq_iff_eq]at g;exact g.1
  have B:=uR tb.place (by lia);have f:0<tb.place.size:=by lia
  refine yX (slot:=0) (nx:=tb.place[0]+1) (x:=es[0].2) c.1 c.2 (λA E R l=>qQ d t h1 c.2 (by rw[B,Uc y,Uc f];exact l)) λm u n=>?_;refine r _ m s.toks ?_ ⟨?_,eD c.2 λo e=>(u.2 a q).trans e⟩ λb o d e=>(u.2 b (by simpa using d)).trans e
  ·rw[TF,Up,Uc y];rfl
  ·rw[n];simp[Z3,f]
 done:=λs Q E c r=>by
  have p:tb.place.size=es.size:=by simp only[SetTable.fits,Ub,beq_iff_eq]at g;exact g.1
  refine zV D c.1 c.2 (λA E R l=>qQ d t h1 c.2 ?_) λm k=>r m s.toks λb o d e=>k b o (by simpa using d) e;rcases Ur 0 es.size with z | z
  ·have F:es.size=1:=by lia
   obtain⟨j,C⟩:∃j,tb.place = #[j]:=by
    match hq:tb.place,(show tb.place.size=1 by lia)with
    | ⟨[j]⟩,_=>exact⟨j,rfl⟩
   rw[Zo (by lia),C];have:(#[j]:Array Nat).getD 0 0=j:=rfl;rw[this,BU,UM (by lia)];exact l
  ·rw[Zn (by lia),uR tb.place (by lia),UM z];exact l
 self:=λi s Q E c h=>tD c.1 h
theorem yN {a:Za}{es:Array (Int×Wy)}{ep:Nat}{tb:Zj}{Q:Bool->Wx->Prop} (b:SAt s.heap a es ep tb) (h:Q (!i5 w && (!tb.plain && decide (es.size > 1))) s):Zh (model P w) A (setDrawn a) Q E s:=by
 obtain⟨o,d,_,c⟩:=b.ob;unfold setDrawn setsByText;refine Ww (wpAny_setState_of d c b.ft ?_);dsimp only;exact Ww (Ww (wpAny_askSetting (Wv (Wv h))))
theorem AS {es:Array (Int×Wy)}{ps:List Nat} (b:ps.Perm (Y7 es.size)):(ps.map λk=>(es.getD k (0,.none)).2).Perm (es.toList.map (·.2)):=by
 refine(b.map _).trans ?_;have e:(Y7 es.size).map (λk=>(es.getD k (0,.none)).2)=es.toList.map (·.2):=by
  apply List.ext_getElem?;intro i;rw[TF,TF];by_cases a:i<es.size
  ·rw[List.getElem?_range a];simp[Z3,a]
  ·rw[Ux (by simp;lia),Ux (by simp;lia)];rfl
 rw[e]
theorem HF {a:Za}{us:WF}{Q:Wy->Wx->Prop} (Y:A.handled=none) (hS:kW P w (i5 w) s.heap a us)
  (h:∀(I:Za) (vs:WJ) (h':Heap) (d:Drawn) (fp:WH) (St:Nat->Heap->Prop),(∀b o,s.heap.get? b=some o->h'.get? b=some o)->(∀b∈fp,b=a\/s.heap.objs.size<=b)->s.heap.objs.size<=I->vs.length=us.length->(∃us':WF,us'.Perm us/\aO (us'.map V.str) vs) ->
   Walks P w A I fp [I] vs.length (λi v=>vs[i]? = some v) St->St 0 h'->Q (.ref I) { s with heap:=h',drawn:=d }) :
  Zh (model P w) A (pyIter (.ref a)) Q E s:=by
 obtain⟨o,es,ep,t,D,G,U,_,q,M,hl,hp,hs,Z⟩:=id hS;have j:SAt s.heap a es ep t:=⟨⟨o,D,G,U⟩,M⟩;have hT:s.TypeIs (.ref a) "set" :=⟨o,D,G.1⟩;have S:es.size=us.length:=by
  have:=Z.length_eq;rw[Tt,T3]at this;exact this
 have g:∀vs:WJ,vs.Perm (es.toList.map (·.2))->vs.length=us.length/\∃us':WF,us'.Perm us/\aO (us'.map V.str) vs:=λvs y=>by
  refine⟨by rw[y.length_eq,Tt,T3,S],vs.map vZ,((y.map vZ).trans (by rw[T7];exact Z)),?_⟩;have gy:∀v∈vs,∃x tk,v = .str x tk:=λv R=>by
   obtain⟨e,he,rfl⟩:=Tv.mp (y.mem_iff.mp R);exact hs e he
  clear y
  induction vs with
  | nil=>exact .nil
  | cons v r ih=>
   obtain⟨x,tk,rfl⟩:=gy v (.head _);exact .cons ⟨tk,rfl⟩ (ih λv y=>gy v (.tail _ y))
 refine wpAny_pyIter_slot hT PySem.F.slot_set_iter (wpAny_call_entry PySem.F.slot_set_iter hT SF.tZ ?_ (PySem.F.args_set_iter_1 _));unfold Builtin.«frozenset.__iter__»;refine Ww (Wv ?_);refine Ww (m:=Builtin.Frozenset.sizeOf a) (Ww (d9 j (Wv ?_)));refine Ww (yN j ?_);dsimp only;have u:a<s.heap.objs.size:=Y2 D;by_cases n:(!i5 w && (!t.plain && decide (es.size > 1)))=true
 ·rw[Zn n];refine Ww (kK es.size _ s (by simp) λK d l=>?_);refine Ww (wpAny_newTuple ?_ (by rw[Tt,l.length_eq,UX,sizeLine_eq];unfold scanBound at q;lia));have J:(s.heap.push { cls:=.type "tuple",data:=.seq (K.map λ(i:Nat)=>rawInt i).toArray }).get? s.heap.objs.size=some { cls:=.type "tuple",data:=.seq (K.map λ(i:Nat)=>rawInt i).toArray }:=Y1 _ rfl;generalize hh1:s.heap.push { cls:=.type "tuple",data:=.seq (K.map λ(i:Nat)=>rawInt i).toArray }=h1 at J ⊢;have X:∀b o,s.heap.get? b=some o->h1.get? b=some o:=λb o e=>by rw[<-hh1];exact Wu _ e
  have Qe:SAt h1 a es ep t:=eD j (X a);have N:h1.objs.size=s.heap.objs.size+1:=by rw[<-hh1,YZ]
  refine Ww (wpAny_setEpoch_of (s:={ s with heap:=h1,drawn:=d }) (X a o D) U M ?_);refine Ww (wpAny_newObj_type ?_ (by size_fits));have f:(h1.push (l6 (.ref s.heap.objs.size) (0:Nat) a es.size ep)).get? h1.objs.size=some (l6 (.ref s.heap.objs.size) (0:Nat) a es.size ep):=Y1 _ rfl;have p:∀b o,h1.get? b=some o->(h1.push (l6 (.ref s.heap.objs.size) (0:Nat) a es.size ep)).get? b=some o:=λb o e=>Wu _ e;obtain⟨H,L⟩:=g _ (AS l);have c:(K.map λk=>(es.getD k (0,Value.none)).2).length=es.size:=by rw[Tt,l.length_eq,UX]
  have W:=Bw (P:=P) (w:=w) (A:=A) (it:=h1.objs.size) (a:=a) (T:=s.heap.objs.size) (ep:=ep) (tb:=t) Y (T5 (by rw[N];exact VQ u)) (T5 (by rw[N];exact Vo _)) l (oT:={ cls:=.type "tuple",data:=.seq (K.map λ(i:Nat)=>rawInt i).toArray }) rfl;rw[<-c]at W;refine Wv ⟨_,rfl,"set_iterator",_,⟨_,f,rfl⟩,SF.slot_next.lookup,?_⟩;refine h h1.objs.size _ _ d [h1.objs.size,a,s.heap.objs.size] _ (λb o e=>p b o (X b o e)) (λb q=>?_) (by rw[N];exact UN _) H L W ⟨?_,eD Qe (p a),p _ _ J⟩
  ·simp only[TM,UR,or_false]at q;rcases q with e | e | e
   ·exact .inr (by rw[e,N];exact UN _)
   ·exact .inl e
   ·exact .inr (by rw[e];exact Tw _)
  ·rw[c];exact f
 ·rw[Zo n];refine Ww (Wv ?_);refine Ww (wpAny_setEpoch_of D U M ?_);refine Ww (wpAny_newObj_type ?_ (by size_fits));have f:(s.heap.push (l6 (.int (0:Nat) 0) (0:Nat) a es.size ep)).get? s.heap.objs.size=some (l6 (.int (0:Nat) 0) (0:Nat) a es.size ep):=Y1 _ rfl;have p:∀b o,s.heap.get? b=some o->(s.heap.push (l6 (.int (0:Nat) 0) (0:Nat) a es.size ep)).get? b=some o:=λb o e=>Wu _ e;refine Wv ⟨_,rfl,"set_iterator",_,⟨_,f,rfl⟩,SF.slot_next.lookup,?_⟩;have C:∀b∈[s.heap.objs.size,a],b=a\/s.heap.objs.size<=b:=λb q=>by
   simp only[TM,UR,or_false]at q;rcases q with e | e
   ·exact .inr (by rw[e];exact Tw _)
   ·exact .inl e
  cases hbt:i5 w with
  | true=>
   have B:(pickOrder (w.params.setOrder a ep) es).toList.Perm es.toList:=by
    have:=mH (w.params.setOrder a ep) es.size 0 es.toList #[] (by simp);unfold pickOrder;simpa using this
   obtain⟨H,L⟩:=g _ (B.map (·.2))
   have c:((pickOrder (w.params.setOrder a ep) es).toList.map (·.2)).length=es.size:=by rw[Tt,B.length_eq,T3]
   have W:=Es (P:=P) (w:=w) (A:=A) (it:=s.heap.objs.size) (a:=a) (ep:=ep) (es:=es) (tb:=t) Y (T5 u) hbt;rw[<-c]at W;refine h s.heap.objs.size _ _ s.drawn [s.heap.objs.size,a] _ p C (Tw _) H L W ⟨?_,eD j (p a)⟩;rw[c];exact f
  | false=>
   have h1:es.size<=1:=by
    rcases Ur 1 es.size with z | z
    ·have O:us≠[]:=λe=>by rw[e]at S;rw[S]at z;exact absurd z (by decide)
     rw[hbt,hp O]at n;simp at n;lia
    ·exact z
   obtain⟨H,L⟩:=g _ (Z8 _);have c:(es.toList.map (·.2)).length=es.size:=by rw[Tt,T3]
   have W:=Iz (P:=P) (w:=w) (A:=A) (it:=s.heap.objs.size) (a:=a) (ep:=ep) (es:=es) (tb:=t) Y (T5 u) hbt (by rw[hl,hbt];rfl) h1 M;rw[<-c]at W;refine h s.heap.objs.size _ _ s.drawn [s.heap.objs.size,a] _ p C (Tw _) H L W ⟨?_,eD j (p a)⟩;rw[c];exact f
theorem Hu {r:Za}{Q:Bool->Wx->Prop} (hT:s.TypeIs (.ref r) "set") (h:Q false s):Zh (model P w) A (Builtin.List.listLengthHint (.ref r)) Q E s:=by
 unfold Builtin.List.listLengthHint;refine Ww (wpAny_specialOf hT PySem.F.slot_set_len.lookup ?_);generalize hid:("set.__len__" : String)=id0
 wp_delta
 have a:splitId id0=some ("set","__len__"):=by subst hid;decide +kernel
 rw[a];subst hid;refine Ww (wpAny_isInstance (T:= "set") (b:=true) hT (by rw[isSubtype_type];kernel_rfl) ?_);refine wpAny_ite_split (λz=>absurd z (by decide)) λ_=>?_;refine wpAny_ite_split (λ_=>?_) λz=>absurd (by decide +kernel) z;exact Ww (wpAny_typeOf hT (Wv h))
theorem zF {a:Za}{us:WF}{R:WJ->Wx->Prop} (hh:A.handled=none) (hS:kW P w (i5 w) s.heap a us) (hn:us.length<=Zg)
  (h:∀(h':Heap) (tk:Nat) (d:Drawn) (vs:WJ) (us':WF),(∀b o,s.heap.get? b=some o->h'.get? b=some o)->us'.Perm us->aO (us'.map V.str) vs->R vs { s with heap:=h',toks:=tk,drawn:=d }) :
  Zh (model P w) A (collect (.ref a)) R E s:=by
 obtain⟨o,_,_,_,G,j,_⟩:=id hS;have u:a<s.heap.objs.size:=Y2 G;unfold collect;refine Ww (wpAny_runValue (codeAny_builtin entry_proto_collect' ?_));rw[Yg PySem.F.plain_proto_collect _];refine Ww (m:=newList []) (wpAny_newList ?_ (T2 _));have oS:(s.heap.push (seqObj "list" #[] 0)).get? s.heap.objs.size=some (seqObj "list" #[] 0):=Y1 _ rfl;have t:∀b o,s.heap.get? b=some o->(s.heap.push (seqObj "list" #[] 0)).get? b=some o:=λb o e=>Wu _ e;have x:(s.heap.push (seqObj "list" #[] 0)).objs.size=s.heap.objs.size+1:=YZ _ _;refine Wv ⟨plainId_quiet PySem.F.plain_list_iadd _,codeAny_builtin entry_list_iadd' ?_⟩;rw[Yg PySem.F.plain_list_iadd _];show Zh _ _ (Yu (.ref s.heap.objs.size) (.ref a) (.ref s.heap.objs.size)) _ _ { s with heap:=s.heap.push (seqObj "list" #[] 0) };generalize s.heap.push (seqObj "list" #[] 0)=h1 at oS t x ⊢;have J:kW P w (i5 w) h1 a us:=hS.keep (t a);have X:Shared.TypeIs { s with heap:=h1 } (.ref a) "set" :=⟨o,t a o G,j.1⟩;generalize hd1:s.heap.objs.size=S at oS x u ⊢;have r:S≠a:=Vl u;unfold Yu;refine Ww (wpAny_typeOf X ?_);have e1:YW (.ref S) (.ref a)=false:=by simp[YW,r]
 have e2:(Value.type "set" == Value.type "list")=false:=by decide
 have e3:(Value.type "set" == Value.type "tuple")=false:=by decide
 simp only[e1,e2,e3,VC,Ug,if_false];refine Ww (HF (s:={ s with heap:=h1 }) (show A.in1.handled=none from hh) J λI vs Q d fp St M U hI L Y W st=>?_);obtain⟨us',T,O⟩:=Y;have N:S<I:=by rw[x]at hI;exact hI
 have k:S∉fp:=λz=>(U S z).elim r λz=>absurd z (by rw[x];exact Nat.not_succ_le_self _);have l:=M S _ oS;have K:∀(n:Heap) (c tk:Nat),St 0 n->(∀b o,b≠S->Q.get? b=some o->n.get? b=some o)->n.get? S=some (seqObj "list" #[] c) ->
   codeAny (model P w) A (.builtin "list.extend.loop" ⟨[.ref S,.ref I,.ref S],[]⟩) (λq p=>∃(h':Heap) (tk:Nat) (acc:WG) (c':Nat),q = .ok (.ret (.ref S))/\p = { s with heap:=h',toks:=tk,drawn:=d }/\(∀b o,s.heap.get? b=some o->h'.get? b=some o)/\h'.get? S=some (seqObj "list" acc c')/\acc.toList=vs) { s with heap:=n,toks:=tk,drawn:=d }:=λn c tk D B o3=>by
  refine codeAny_extend_loopS W.toS (by rw[L];exact hn) S k (.ref S) vs.length 0 _ #[] c rfl (T2 _) D o3 (ItemsOf.nil _) λp acc c' hm C cV=>?_;rw[Moved.eq_with hm];refine⟨p.heap,p.toks,acc,c',rfl,rfl,λb o e=>?_,C,?_⟩
  ·have g:b<S:=by rw[<-hd1];exact Y2 e
   refine hm.heap b o (λz=>?_) (B b o (T5 g) (M b o (t b o e)));rcases TM.mp z with z | z
   ·exact absurd z (T5 g)
   ·exact absurd (Tz.mp z) (T5 (Vn g N))
  ·apply List.ext_getElem?;intro i;rw[Up];cases q:acc[i]? with
   | none=>
    have:=Array.getElem?_eq_none_iff.mp q;rw[cV.1]at this;exact(Ux this).symm
   | some v=>exact(cV.2 i v q).symm
 refine Ww (Ws (Hu ⟨o,M a o (t a o G),j.1⟩ ?_));rw[Zn (by decide)];refine Ww (wpAny_rule ?_);have Z:=get?_update_seq l λ(f:WG)=>f.push Value.none;have u2:=get?_update_seq Z λ(f:WG)=>f.pop;refine Ww (m:=Builtin.List.listTouch _) ?_;unfold Builtin.List.listTouch;refine Ww (listUpdate_at l rfl ?_ (T2 _) (by show 1<=_;rw[sizeLine_eq];lia));refine listUpdate_at Z rfl ?_ (by show 1<=_;rw[sizeLine_eq];lia) (T2 _);have B:∀b o,b≠S->Q.get? b=some o->((Q.update S (Y8 λf=>f.push Value.none)).update S (Y8 λf=>f.pop)).get? b=some o:=λb o y e=>(Yn _ _ (YQ y)).trans ((Yn _ _ (YQ y)).trans e);refine Wv ⟨plainId_quiet PySem.F.plain_extend_loop _,codeAny_mono (K _ _ s.toks (W.frame 0 _ _ st λb y o e=>B b o (λz=>k (z ▸ y)) e) B u2) λq p hq=>?_⟩;obtain⟨h',tk,acc,c',rfl,rfl,hk,H,hv⟩:=hq;refine Ww (wpAny_load H (Wv ?_));subst hv;exact h h' tk d acc.toList us' hk T O
end
def UpS (ms:WF):Prop:=ms.Pairwise λx y=>ltv (.str y) (.str x)=false
def GH (X:Cx) (f:Wy) (r:WF->Hp->VK->Prop):Prop:=
 ∀(pins:List (Za×Obj)) (s:Wx) (σ:St) (H:Hp) (D:Za) (us:WF) (Q:VK),Inv X pins σ H s->kW X.prog X.w (i5 X.w) s.heap D us->r us H Q->Zh (model X.prog X.w) X.A (call f [.ref D]) (EP X pins σ Q) X.xe s
def tFS (r:WF->Hp->VK->Prop) (t:TA):TE:=λσ H Q=>t σ H λvs H1=>∃a zs,vs=[.ref a]/\Rd H1 a (.lst (zs.map V.str))/\zs.length<4000/\r (eU [] zs) H1 Q
section
variable {X:Cx}{x y:Str}{p q pos vz:Pos}{e:Expr}{t:TA}{id:String}{r:WF->Hp->VK->Prop}
theorem Inv.M6 {pins:List (Za×Obj)}{σ:St}{H:Hp}{s:Wx}{h':Heap}{tk:Nat}{d:Drawn} (I:Inv X pins σ H s) (k:∀b o,s.heap.get? b=some o->h'.get? b=some o):Inv X pins σ H { s with heap:=h',toks:=tk,drawn:=d }:=by
 have J:=I.kept (t':=tk) k;exact⟨J.ok,J.os,J.bare,J.base,J.loc,J.cell,J.free,J.kO,J.pin,J.hok,J.len⟩
theorem xT (S:GH X (.builtin id) r) (R:X.calm=true) (J:Gl X x) (E:X.mg x=none) (T:bootBuiltins x=some (.builtin id)) (i:Gl X y) (g:X.mg y=none) (z:bootBuiltins y=some (.type "set")) (O:PA X [e] t)
  (P:x ≠ "__name__" :=by decide) (j:(x == ("__debug__" : Str))=false:=by decide) (m:y ≠ "__name__" :=by decide) (C:(y == ("__debug__" : Str))=false:=by decide)
  (B:Zi [Expr.Call (.Name y q) [e] [] vz] X.env=(false,eval (Expr.Call (.Name y q) [e] [] vz) X.env)::Zi [] X.env:=by rfl) (l:Zi [e] X.env=(false,eval e X.env)::Zi [] X.env:=by rfl) :
  PE X (.Call (.Name x p) [.Call (.Name y q) [e] [] vz] [] pos) (tFS r t):=by
 intro b s o H Q I h;refine wpAny_Call_Name_kw (fm I J E T ?_ P j);refine PyProof.Rows.callWith_builtin1 ?_ B rfl;rw[B];refine YE (thn (Q:=λv f=>∃D us H1,v = .ref D/\Inv X b o H1 f/\kW X.prog X.w (i5 X.w) f.heap D us/\r us H1 Q) ?_ λv f ⟨D,us,H1,G,d,hS,c⟩=>?_)
 ·refine wpAny_Call_Name_kw (fm I i g z ?_ m C);refine Yp (thn (O vz b s o H _ I h) λus _ ⟨_,H1,d,K,c⟩=>?_) l rfl;obtain⟨a,_,rfl,L,_,c⟩:=c;obtain⟨u,rfl,N⟩:=K.one;cases N;obtain⟨_,_,n,A,F⟩:=L.ok d.hok;have M:=A.length;rw[Tt]at M;refine vw (d.ok.hd R) ⟨_,F,rfl,n,rfl⟩ A (by rw[TL];unfold scanBound;lia) λ_ _ hS k=>?_;exact⟨_,_,H1,rfl,d.M6 k,hS,c⟩
 ·subst G;exact YS (S b f o H1 D us Q d hS c)
end
theorem tP:∀{ns:WF}{us:WJ},aO (ns.map V.str) us->∀v∈us,∃i t,v=Value.str i t
 | [],_,r,v,hv=>by rw[U0]at r;cases r;cases hv
 | n::ns,_,r,v,hv=>by
  rw[TX]at r;cases r with
  | cons h t=>
   obtain⟨a,rfl⟩:=h;rcases TM.mp hv with e | e
   ·exact⟨n,a,e⟩
   ·exact tP t v e
theorem uO {P:Zd}{w:Ze}{A:Zc}{ns:WF}{us:WJ} (f:aO (ns.map V.str) us) (s':Wx) (G:Array Nat->Wx->Prop) (h2:2<=us.length)
  (h:∀p:Array Nat,p.toList.Perm (Y7 us.length)->(∀i j,i<=j->j<us.length->ltv ((ns.map PyData.str).getD (p.getD j 0) .none) ((ns.map PyData.str).getD (p.getD i 0) .none)=false)->G p s') :
  Zh (model P w) A (keyKind' us.toArray) (λκ s''=>(kas_sort us.length).kasWp (kas_ask P w A κ us) G s'') (λ_ _=>False) s':=by
 refine kas_kind (T:=.type "str") h2 (λv x=>?_) (by decide) (by decide) ?_
 ·obtain⟨i,t,rfl⟩:=tP f v x;exact .of_pure rfl
 have E:us.length=ns.length:=by rw[<-f.length,Tt]
 have o:=Sh.ok .str;have g:∀i,i<us.length->(ns.map PyData.str).getD i .none = .str (ns.getD i Yh):=λi b=>by
  have c:i<ns.length:=by lia
  simp[TU,c]
 have a:∀i,i<us.length->Sh.str.has ((ns.map PyData.str).getD i .none):=λi b=>⟨_,g i b⟩;refine Dn (n:=us.length) (lt:=λi j=>ltv ((ns.map PyData.str).getD i .none) ((ns.map PyData.str).getD j .none)) (P:=λs''=>s'' = s') ⟨λi b=>o.irr _ (a i b),λi j k b d u q=>o.neg (a i b) (a j d) (a k u) q,λi j b d q=>o.asymm (a i b) (a j d) q⟩
  (λi j C s'' b d e q=>?_) (by lia) rfl λp s'' e y z=>by subst e;exact h p y z
 subst e;show Zh (model P w) A (keyLt' oneType' (us.getD i .none) (us.getD j .none)) C (λ_ _=>False) s'';have m:=jx f i;have s:=jx f j;have l:=q s'' rfl;rw[g i b,g j d]at l;have r:∀i,i<us.length->(ns.map V.str).getD i .non = .str (ns.getD i Yh):=λi b=>by
  have c:i<ns.length:=by lia
  simp[TU,c]
 rw[r i b]at m;rw[r j d]at s;obtain⟨_,D⟩:=m;obtain⟨_,B⟩:=s;rw[D,B,keyLt'_oneType];exact oneLt_str l
theorem yL {ns:WF}{p:List Nat} (h:p.Perm (Y7 ns.length)):(p.map λi=>ns.getD i Yh).Perm ns:=by
 have e:=gQ ns Yh;exact(h.map λi=>ns.getD i Yh).trans (by rw[e])
def Nj:WF->Hp->VK->Prop:=λus H Q=>us.length<64/\∀(D:Za) (ms:WF),H D=none->ms.Perm us->UpS ms->Q (.ref D) (upd H D (.lst (ms.map V.str)))
section
variable {X:Cx}
theorem pU {k:Nat} (P:X.calm=true) (R:bG k X.A):GH X (.builtin "sorted") Nj:=by
 intro c s F H S us Q I hS h;obtain⟨_,q⟩:=h
 (refine Calls.call_function_entry kind_sorted plain_sorted entry_sorted (args_sorted1 _) ?_)
 unfold Builtin.«sorted»
 (refine Ww (m:=checkCount "sorted" 1 1 _) (Wv ?_))
 refine Ww (zF (A:=X.A.in1) (show X.A.in1.handled=none from I.ok.hd P) hS (by rw[sizeLine_eq];lia) λh1 t d a us' y B w=>?_);have x:us'.length=us.length:=B.length_eq;have v:a.length=us'.length:=by rw[<-w.length,Tt]
 (refine Ww (wpAny_newList ?_ (by rw[v,x,sizeLine_eq];lia)))
 have E:Inv X c F H { s with heap:=h1,toks:=t,drawn:=d }:=I.M6 y;have f:(h1.push (seqObj "list" a.toArray 0)).get? h1.objs.size=some (seqObj "list" a.toArray 0):=Y1 _ rfl;have g:∀b o,s.heap.get? b=some o->(h1.push (seqObj "list" a.toArray 0)).get? b=some o:=λb o e=>Wu _ (y b o e);show Zh _ _ (_ >>= λ_=>_) _ _ { s with heap:=h1.push (seqObj "list" a.toArray 0),toks:=t,drawn:=d };generalize h1.push (seqObj "list" a.toArray 0)=h2 at f g ⊢;have M:Inv X c F H { s with heap:=h2,toks:=t,drawn:=d }:=I.M6 g;have l:H h1.objs.size=none:=E.hok.fresh (Tw _);have C:cg X c H h1.objs.size:=E.rJ (Tw _) l;generalize h1.objs.size=D at f l C ⊢
 (refine Ww (Ws (wpAny_call_entry slot_list_sort ⟨_,f,rfl⟩ entry_list_sort ?body (args_list_sort _))))
 case body=>
  refine zR (s:={ s with heap:=h2,toks:=t,drawn:=d }) (ds:=us'.map PyData.str) M f C w (λN G _ h2 J=>uO w N G h2 J) (by lia) λp _ j u z=>?_;refine⟨_,rfl,Wv ⟨_,rfl,?_⟩⟩;rw[Tt]at j;have r:∀i∈p,i<us'.length:=λi n=>by have:=j.mem_iff.mp n;simpa using this
  have L:picked (us'.map V.str) p=(p.map λi=>us'.getD i Yh).map V.str:=by
   unfold picked;rw[T7];refine T8 λi n=>?_;simp[TU,r i n]
  have K:(p.map λi=>(us'.map PyData.str).getD i .none)=(p.map λi=>us'.getD i Yh).map PyData.str:=by
   rw[T7];refine T8 λi n=>?_;simp[TU,r i n]
  have O:UpS (p.map λi=>us'.getD i Yh):=by
   unfold eQ at u;rw[K,Uk]at u;exact u
  rw[L]at z;exact⟨.ref _,_,z,rfl,q _ _ l ((yL j).trans B) O⟩
def NZ:WF->Hp->VK->Prop:=λus H Q=>Q (.int us.length) H
theorem EV:GH X (.builtin "len") NZ:=by
 intro _ s _ H S d Q I hS h;obtain⟨o,_,_,t,c,a,i,_,g,f,_,_,_,b⟩:=id hS;have e:=b.length_eq;rw[Tt,T3]at e;exact call_len_set c a i f (by unfold scanBound at g;lia) ⟨.int d.length,H,I.tok _,⟨_,by rw[e]⟩,h⟩
end
end L2
namespace L2
open PySem PySem.Spec PyProof.Rows
section
variable {P:Zd}{w:Ze}{A:Zc}{E:Wy->Wx->Prop}{s:Wx}{kf:Za->Int×Str}
end
end L2
namespace L2
open PySem PySem.Spec PyProof.Rows PySem.W
section
variable {P:Zd}{w:Ze}{A:Zc}{E:Wy->Wx->Prop}{s:Wx}
end
end L2
namespace L2
open PySem PySem.Spec PyProof.Rows
section
variable {X:Cx}{x y:Str}{p q pos vz:Pos}{e:Expr}{t:TA}
end
end L2
namespace L2
open PySem PySem.Spec PyProof.Rows PySem.W
abbrev MX (X:Cx) (qual:Str) (scope:Scope) (q:Za) (cd:Wy) (L:Za):Env:=envX qual scope L q cd (fX X.env.cells scope.names [])
def CD (X:Cx) (N':WF) (qual:Str) (scope:Scope) (q:Za) (cd:Wy) (s:Wx) (H:Hp):Cx where
 prog:=X.prog
 w:=X.w
 K:=X.K
 mg:=X.mg
 base:=X.base
 A:=X.A.in1.deeper (MX X qual scope q cd s.heap.objs.size)
 N:=N'
 s₀:=s
 H₀:=H
 env:=MX X qual scope q cd s.heap.objs.size
 outer:=X.stack
 stack:=MX X qual scope q cd s.heap.objs.size::X.stack
 ex:=[]
 calm:=true
 fn:=λ_=>false
 pn:=[]
 xe:=λ_ _=>False
structure xy (X:Cx) (scope:Scope) (N':WF) (y:Str) (fi:List Nat):Prop where
 kind:scope.kind = .function
 co:scope.isCoroutine=false
 gen:scope.isGenerator=false
 FD:∀x∈scope.names,x.2 ≠ .cell
 par:scope.names.lookup y=some .local
 free:∀z∈scope.names,z.2 = .free->X.env.kindOf z.1=some .cell\/X.env.kindOf z.1=some .free
 hd:N'[0]? = some y
 len:N'.length=fi.length+1
 at':∀(j:Nat) (k:Nat),fi[j]? = some k->∃x,N'[j+1]? = some x/\X.N[k]? = some x/\scope.names.lookup x=some .free
def Kb (v:V) (fi:List Nat) (σ:St):St:=some v::fi.map λk=>(σ[k]?).join
theorem lI {x:Str}:∀{l:List (Str×NameKind)},l.lookup x=some .free->(x,NameKind.free)∈l
 | [],e=>by cases e
 | (n',q)::r,e=>by
  rw[UB]at e;cases hb:x == n' with
  | true=>rw[hb]at e;cases e;rw[beq_iff_eq.mp hb];exact TH
  | false=>rw[hb]at e;exact TC _ (lI e)
section
variable {X:Cx}{pins:List (Za×Obj)}{σ:St}{H:Hp}{s:Wx}{scope:Scope}{N':WF}{y:Str}{fi:List Nat}{h':Heap}{qual:Str}{q:Za}{cd:Wy}{v:V}{u:Wy}{tk:Tok}
theorem Jg (I:Inv X pins σ H s) (Y:X.calm=true) (S:xy X scope N' y fi) (V:RelV v u) (E:h'.Ns s.heap.objs.size (λx=>[(y,u)].reverse.lookup x)) (r:∀b o,s.heap.get? b=some o->h'.get? b=some o) :
  Inv (CD X N' qual scope q cd s H) [] (Kb v fi σ) H { s with heap:=h',toks:=tk }:=by
 have g:=I.ER.in1;have sub:∀{x:Str}{c:Za},(fX X.env.cells scope.names []).lookup x=some c->X.env.cells.lookup x=some c:=λ{x c} h=>pT _ _ (λ_ _ z=>by cases z) h;have n:∀{x:Str},(x,NameKind.free)∈scope.names->∃d,(fX X.env.cells scope.names []).lookup x=some d:=λ{x} m=>pH _ _ (.inr ⟨m,I.ok.has _ (S.free _ m rfl)⟩);have l:∀b:Za,b∉(CD X N' qual scope q cd s H).ex:=λb z=>absurd (show b∈([]:WH)from z) (by simp);refine⟨⟨g.mod,S.kind,rfl,rfl,Tw _,λx z c B t=>?_,λx f=>?_,λx c f _=>?_,λ_=>I.ok.hd Y,Around.frames_deeper g.frames,.inr ⟨rfl,rfl⟩,λb z=>absurd z (l b),g.bs,g.bsz,λb _ _=>l b,λb z=>absurd z (l b),g.pe,g.frf⟩,
  rfl,g.bare,Un.kept r,⟨_,E,λi x w B t _=>?_⟩,λx c h=>?_,g.hok.fresh (Tw _),λx c h=>?_,λp Q=>absurd (show p∈([]:List (Za×Obj))from Q) (by simp),g.hok.kept r,?_⟩
 ·exact I.ok.inj x z c (sub B) (sub t)
 ·have f:scope.names.lookup x=some .cell\/scope.names.lookup x=some .free:=f;rcases f with f | f
  ·exact absurd rfl (S.FD _ (Yq f))
  ·exact n (lI f)
 ·have f:false=true:=f;cases f
 ·cases i with
  | zero=>
   have e:N'[0]? = some x:=B;rw[S.hd]at e;cases e;have a:some (some v)=some (some w):=t;cases a;exact⟨u,V,.inl ⟨S.par,by simp⟩⟩
  | succ j=>
   have a:(fi.map λk=>(σ[k]?).join)[j]? = some (some w):=t;rw[TF]at a;cases ek:fi[j]? with
   | none=>rw[ek]at a;cases a
   | some k=>
    rw[ek]at a;have A:(σ[k]?).join=some w:=Yr a;have C:σ[k]? = some (some w):=by
     cases z:σ[k]? with
     | none=>rw[z]at A;cases A
     | some _=>rw[z]at A;exact congrArg some A
    obtain⟨_,O,N,J⟩:=S.at' j k ek;have e:N'[j+1]? = some x:=B;rw[O]at e;cases e;have m:=lI J;have G:=S.free _ m rfl;have D:Vis X.env.scope x:=G.elim (λz=>.inr (.inl z)) λz=>.inr (.inr z);obtain⟨m0,_,F⟩:=I.loc;obtain⟨M,W,U⟩:=F k x w N C D;refine⟨M,W,.inr ⟨.inr J,?_⟩⟩;rcases U with⟨L,_⟩ | ⟨_,c,R,P⟩
    ·rcases G with z | z <;> (rw[show X.env.kindOf x=_ from L]at z;cases z)
    ·obtain⟨d,K⟩:=n m;have:=sub K;rw[R]at this;cases this;exact⟨c,K,P.keeps r⟩
 ·obtain⟨z,T⟩:=I.cell x c (sub h);exact⟨z,T.keeps r⟩
 ·exact I.kO x c (sub h)
 ·show(Kb v fi σ).length=N'.length;rw[S.len];simp[Kb]
def qz (c:Za) (qual:Str):HO:=.ext λh=>h.CodeRec (.ref c) qual
def Ib (te:TE) (fi:List Nat) (σ:St) (c:Za) (qual:Str):Sp:=λvs H Q _=>∃v,vs=[v]/\H c=some (qz c qual)/\te (Kb v fi σ) H Q
theorem Et {k:Nat}{name:Str}{a:Arguments}{c:Expr}{m f:Wy}{i:Za}{te:TE} (N:X.calm=true) (D:bG (k+1) X.A) (S:xy X scope N' y fi)
  (K:(q,kla_obj name qual a c scope (fX X.env.cells scope.names []) m i f)∈pins)
  (L:∀w,bindArgs (kla_fn name qual a c scope (fX X.env.cells scope.names []) m (.ref i) f) ⟨[w],[]⟩=pure [(y,w)])
  (M:∀s H,PE (CD X N' qual scope q (.ref i) s H) c te):wk X pins σ q (Ib te fi σ i qual):=by
 intro j H s x u Q I C h;obtain⟨v,e,B,h⟩:=h;cases e;have t:=λp E=>(I.pin p (Ua _ (U4 _ E))).1;refine kla_callFunE D.in1.depth (t _ K) rfl S.co S.gen rfl (I.hok _ _ B).1 ?_;show Zh _ _ (bindArgs (kla_fn name qual a c scope (fX X.env.cells scope.names []) m (.ref i) f) ⟨[u],[]⟩) _ _ _;rw[L];refine Wv (wpAny_newFunctionEnv S.FD (λz G=>by rw[Tz.mp G];exact S.par) (λg r n=>?_) S.kind);have d:∀b o,s.heap.get? b=some o->g.get? b=some o:=λb o e=>n.extBut b o (T5 (Y2 e)) (Wu _ e);refine⟨I.nolimit.keeps d,?_⟩;refine kla_codeExpr (Wt (M s H [] _ _ H Q (Jg (pins:=pins++j) (σ:=σ) I N S C r d) h) (λ_ _ z=>?_) λ_ _ z=>z.elim);obtain⟨w,F,J,l,qw⟩:=z;exact⟨w,F,J.os,J.bare,J.base,J.hok,l,qw⟩
theorem HK {P:Zd}{w:Ze}{H:Hp}{h:Heap}{c:Za} (x:h.CodeRec (.ref c) qual):bO P w H h c (qz c qual):=by
 refine⟨x,?_,λ_ _ a k=>?_⟩
 ·obtain⟨d,o,b,t,e,g,r⟩:=x;cases e;exact⟨o,g⟩
 ·obtain⟨d,o,b,t,e,g,r⟩:=a;cases e;exact⟨c,o,b,t,rfl,k _ g,r⟩
theorem Inv.grown {P c':Za}{ps a:WG}{t':Tok} (I:Inv X pins σ H s) (d:H P=some (.tbl ps)) (i:Heap.ExtBut P s.heap h') (v:s.heap.objs.size<=c') (t:h'.get? P=some (tabObj (ps++a))) (B:h'.CodeRec (.ref c') qual) :
  Inv X pins σ (upd (upd H P (.tbl (ps++a))) c' (qz c' qual)) { s with heap:=h',toks:=t' }:=by
 have h:H c' = none:=I.hok.fresh v;have l:P≠c':=aw d h;have hPl:P≠X.env.locals:=aw d I.free;have at_:∀b,b≠P->b≠c'->upd (upd H P (.tbl (ps++a))) c' (qz c' qual) b=H b:=λb f C=>by rw[ao C,ao f]
 have D:∀{b:Za}{o:Obj},s.heap.get? b=some o->b≠c':=λ{b o} e z=>by
  have:=Y2 e;rw[z]at this;exact absurd (T9 this v) (Uz _)
 have j:∀{b:Za},H b=none->b≠P:=λ{b} e z=>by rw[z,d]at e;cases e
 refine I.step (g':=s.gens) (d':=s.drawn) (ch:=[]) (λb z=>absurd z (by simp)) (λb o _ _ _ e n=>i b o (j n) e) (λb o _ _ _ e n=>⟨o.slots,i b o (j n) e⟩) (λb o _ e n=>?_) (λb o _ e=>?_) (λb A e=>?_) (λb o u e=>?_) (λb _ e=>?_) (λm w=>?_) ?_ I.bare
 ·rw[at_ b (j n) (D e)];exact n
 ·by_cases g:b=P
  ·exact⟨_,by rw[g];exact t⟩
  ·exact⟨o,i b o g e⟩
 ·have f:b≠P:=nn e d
  rw[at_ b f (aw e h)];exact e
 ·have f:b≠P:=nn e d
  rw[at_ b f (aw e h)];exact e
 ·by_cases g:b=P
  ·subst g;rw[d]at e;cases e;exact⟨a,by rw[ao l,ab]⟩
  ·exact⟨#[],by rw[at_ b g (aw e h),e];simp⟩
 ·obtain⟨o,x,y,e,r⟩:=w;exact⟨o,x,y,i _ _ (YQ hPl) e,r⟩
 ·intro b u e;by_cases g:b=c'
  ·subst g;rw[ab]at e;cases e;exact HK B
  ·rw[ao g]at e;by_cases k:b=P
   ·subst k;rw[ab]at e;cases e;exact t
   ·rw[ao k]at e;refine(I.hok b u e).gv (λc o p q=>i c o ?_ q) (λc q=>?_) λc A q=>?_
    ·rintro rfl;rcases p with z | z
     ·exact k z.symm
     ·rw[d]at z;cases z
    ·have f:c≠P:=nn q d
     rw[at_ c f (aw q h)];exact q
    ·have f:c≠P:=nn q d
     rw[at_ c f (aw q h)];exact q
end
def ig (P:Za) (pos:Pos) (qual:Str) (H:Hp):Prop:=∃ps,H P=some (.tbl ps)/\TriplesOk ps.toList/\(codeAmong pos ps.toList=none\/∃c,codeAmong pos ps.toList=some (.ref c)/\H c=some (qz c qual))
def OU (K:Wz) (P:Za) (ve:Pos) (qual:Str) (te:TE) (fi:List Nat) (ta:TA):TE:=λσ H Q=>ta σ H λvs H1=>∃x,vs=[x]/\ig P ve qual H1 /\
 ∀c H2,(H2=H1\/∃ps,H1 P=some (.tbl ps)/\H1 c=none/\H2=upd (upd H1 P (.tbl (ps ++ #[rawInt ve.line,rawInt ve.col,.ref c]))) c (qz c qual))->ig P ve qual H2->H2 c=some (qz c qual)->wL K (Ib te fi σ c qual) x H2 Q
section
variable {X:Cx}
def RI (X:Cx):Prop:=∃bm o,X.mg "__builtins__" = some (.ref bm)/\bm≠builtinsNs/\bm≠mainGlobals/\X.K.lookup bm=some o/\o.cls = .type "module" /\ o.dict=some builtinsNs/\o.data = .plain
theorem o7 {a b:Int}{c:Wy}:∀{l:WJ},TriplesOk l->TriplesOk (l++[.int a 0,.int b 0,c])
 | [],_=>trivial
 | .int _ _ :: .int _ _::_::r,h=>o7 (l:=r) h
 | .int _ _ :: .int _ _::[],h=>h.elim
 | .int _ _::[],h=>h.elim
theorem J4 {k:Nat}{c P:Za}{y:Str}{e:Expr}{ta:TA}{te:TE}{D:Nat}{p T pos W F l:Pos}{a:Arguments}{d:Expr}{scope:Scope}{N':WF}{fi:List Nat} (hc:X.calm=true) (hr:bG (k+1) X.A) (S:xy X scope N' y fi)
  (K1:X.env.code = .ref c) (hC:∀h:Heap,X.K.In h->CodeHd h c P) (hB:RI X)
  (jB:∀q c' s H,PE (CD X N' (X.env.qual ++ "<lambda>") scope q (.ref c') s H) d te)
  (hg:Gl X "min") (hm:X.mg "min" = none) (ha:PA X [e] ta)
  (hb:∀cl pm c' ctv w,bindArgs (kla_fn "<lambda>" (X.env.qual ++ "<lambda>") a d scope cl pm (.ref c') ctv) ⟨[w],[]⟩=pure [(y,w)]:=by intros;rfl) (R4:defaultsOf a X.env=([],[]):=by rfl)
  (he:backTo pos (Zi [e] X.env)=(false,eval e X.env)::backTo pos (Zi [] X.env):=by rfl) (iC:(backTo pos (Zi [e] X.env)).any (·.1)=false:=by rfl)
  (gy:(backToKw pos (keywordEach [⟨some "key",.Lambda a d scope T,W⟩,⟨some "default",.Constant .none D F,l⟩] X.env)).all (·.1.isSome)=true:=by rfl) (a5:(backToKw pos (keywordEach [⟨some "key",.Lambda a d scope T,W⟩,⟨some "default",.Constant .none D F,l⟩] X.env)).any (·.1.isNone)=false:=by rfl) :
  PE X (.Call (.Name "min" p) [e] [⟨some "key",.Lambda a d scope T,W⟩,⟨some "default",.Constant .none D F,l⟩] pos) (OU X.K P T (X.env.qual ++ "<lambda>") te fi ta):=by
 intro f s r H Q I h;refine wpAny_Call_Name_kw (fm I hg hm GK ?_);refine callWith_kw (thn (ha pos f s r H _ I h) λ_ m ⟨_,H1,g,r1,q1⟩=>?_) he iC gy a5;obtain⟨x,rfl,la,q⟩:=q1;obtain⟨u,rfl,ru⟩:=r1.one;obtain⟨ps,t,U,Z⟩:=id la;have R:m.heap.get? P=some (tabObj ps):=g.hok P _ t;have E:closureFor scope X.env=pure (fX X.env.cells scope.names []):=tG λz hz M=>g.ok.has _ (S.free z hz M);have N:m.heap.Ns mainGlobals X.mg:=g.mod.glob.keeps g.bk;have gN:H1 mainGlobals=none:=by
  obtain⟨o,_,_,e',_⟩:=g.mod.glob;exact(g.bs _ _ e').2
 have a3:mainGlobals≠P:=nn gN t
 have C:m.heap.BuiltinsAt X.mg P:=by
  obtain⟨bm,o,b1,b2,b3,b4,b5⟩:=hB;have G:=g.mod.kin bm o b4;have:=(g.bs _ _ G).2;exact⟨bm,o,b1,b2,b3,(nn this t),(g.bs _ _ G).1,b5⟩
 have L:∀(c':Za) (ctv:Wy) (j:Heap) (i:Tok) (B:Hp),Inv X f r B { m with heap:=j,toks:=i }->wL X.K (Ib te fi r c' (X.env.qual ++ "<lambda>")) x B Q ->
   Zh (model X.prog X.w) X.A (evalAll ((backToKw pos (keywordEach [⟨some "default",.Constant .none D F,l⟩] X.env)).map (·.2))) (λa4 O=>Zh (model X.prog X.w) X.A (call (.builtin "min") [u] (((backToKw pos (keywordEach [⟨some "key",.Lambda a d scope T,W⟩,⟨some "default",.Constant .none D F,l⟩] X.env)).filterMap (·.1)).zip (.ref j.objs.size::a4))) (EP X f r Q) X.xe O) X.xe
    { m with heap:=j.push (kla_obj "<lambda>" (X.env.qual ++ "<lambda>") a d scope (fX X.env.cells scope.names []) ((X.mg "__name__").getD .none) c' ctv),toks:=i }:=λc' ctv j i B n q2=>by
  refine kws_cons (Constant_none (kws_nil ?_));have V:B j.objs.size=none:=n.hok.fresh (Tw _);have I3:Inv X f r B { m with heap:=j.push (kla_obj "<lambda>" (X.env.qual ++ "<lambda>") a d scope (fX X.env.cells scope.names []) ((X.mg "__name__").getD .none) c' ctv),toks:=i }:=n.kept (s:={ m with heap:=j,toks:=i }) (t':=i) λb o e=>Wu _ e;have I4:Inv X (f++[(j.objs.size,kla_obj "<lambda>" (X.env.qual ++ "<lambda>") a d scope (fX X.env.cells scope.names []) ((X.mg "__name__").getD .none) c' ctv)]) r B { m with heap:=j.push (kla_obj "<lambda>" (X.env.qual ++ "<lambda>") a d scope (fX X.env.cells scope.names []) ((X.mg "__name__").getD .none) c' ctv),toks:=i }:=I3.oN λz hz=>by
   rcases TV.mp hz with w | w
   ·exact I3.pin z (Ua _ w)
   ·rw[Tz.mp w];exact⟨Y1 _ rfl,V,Vl n.lt,n.OM (Tw _),λv z=>by cases z⟩
  exact thn (tJ (Et (k:=k) hc hr S (Ua _ (Tz.mpr rfl)) (hb _ _ _ _) (jB _ _)) hr hc I4 ru q2) λv _ ⟨w,H',J,Y,qw⟩=>⟨w,H',J.iB,Y,qw⟩
 refine kws_cons (kla_eval R4 ?_);rcases Z with hnf | ⟨c',hf,a6⟩
 ·refine kla_makeFunction E g.ok.glob N K1 (hC _ g.kIn) R U hnf a3 C λc' ctv j i M h1 h2 h3 h4=>?_;have V:H1 c' = none:=g.hok.fresh h1;have a0:P≠c':=aw t V;have n:=g.grown (t':=i) t M h1 h4 h3;refine L c' ctv j i _ n (q c' _ (.inr ⟨ps,t,V,rfl⟩) ⟨_,by rw[ao a0,ab],?_,.inr ⟨c',?_,ab⟩⟩ ab)
  ·rw[UE];exact o7 U
  ·rw[UE];exact codeAmong_snoc _ U hnf
 ·refine kla_makeFunctionHit E g.ok.glob N K1 (hC _ g.kIn) R U hf C λctv j i M h1=>?_;have n:Inv X f r H1 { m with heap:=j,toks:=i }:=g.kept (t':=i) M;exact L c' ctv j i _ n (q c' _ (.inl rfl) la a6)
end
def Oh (sc osc:Scope) (N N':WF) (y:Str) (fi:List Nat):Bool:=
 decide (sc.kind = .function) && decide (sc.isCoroutine=false) && decide (sc.isGenerator=false) && decide (∀x∈sc.names,x.2 ≠ .cell) && decide (sc.names.lookup y=some .local)
 && decide (∀z∈sc.names,z.2 = .free->osc.names.lookup z.1=some .cell\/osc.names.lookup z.1=some .free)
 && decide (N'[0]? = some y) && decide (N'.length=fi.length+1)
 && (Y7 fi.length).all λj=>match fi[j]? with
  | some k=>match N'[j+1]? with
   | some x=>decide (N[k]? = some x) && decide (sc.names.lookup x=some .free)
   | none=>false
  | none=>false
theorem MB {X:Cx}{c:Scope}{N':WF}{y:Str}{fi:List Nat} (osc:Scope) (N:WF) (h:Oh c osc N N' y fi=true) (l:X.env.scope=osc:=by rfl) (i:X.N=N:=by rfl):xy X c N' y fi:=by
 subst l i;simp only[Oh,Ub,decide_eq_true_eq]at h;obtain⟨⟨⟨⟨⟨⟨⟨⟨t,p⟩,n⟩,s⟩,r⟩,d⟩,f⟩,o⟩,m⟩:=h;refine⟨t,p,n,s,r,d,f,o,λj k a=>?_⟩;have b:j<fi.length:=by
  rcases Ur j fi.length with q | q
  ·exact q
  ·rw[Ux q]at a;cases a
 have g:=T6.mp m j (Uo.mpr b);rw[a]at g;dsimp only at g;cases e:N'[j+1]? with
 | none=>rw[e]at g;cases g
 | some x=>
  rw[e]at g;simp only[Ub,decide_eq_true_eq]at g;exact⟨x,rfl,g.1,g.2⟩
structure Mt (K:Wz) (mg:Str->Option Wy) (fd:Zb) (c P:Za):Prop where
 code:fd.code = .ref c
 hd:∀h:Heap,K.In h->CodeHd h c P
 bm:∃bm o,mg "__builtins__" = some (.ref bm)/\bm≠builtinsNs/\bm≠mainGlobals/\K.lookup bm=some o/\o.cls = .type "module" /\ o.dict=some builtinsNs/\o.data = .plain
structure Kd (K:Wz) (x qual:Str) (st:Stmt) (f:Za) (fd:Zb):Prop where
 ex:∃(oc:Wy) (od:Option Za) (dV kV doc pm:Wy) (an:Option Za) (cdv ct:Wy) (osl:Array (Option Wy)),
  fd=YC x qual (cA st) (bS st) (ag st) dV kV doc pm an cdv ct/\K.lookup f=some ⟨oc,od,.func fd,osl⟩/\YN K cdv qual=true
 kp:YG K (.ref f)=true
structure F6 (K:Wz) (mg:Str->Option Wy) (x:Str) (st:Stmt) (ps:WF) (f:Za) (fd:Zb):Prop where
 fn:Kd K x x st f fd
 bd:Binds K fd ps []
 mg:mg x=some (.ref f)
section
variable {P:Zd}{w:Ze}{K:Wz}{mg:Str->Option Wy}{base:Heap}
theorem Fun.okC {x qual:Str}{st:Stmt}{f c:Za}{fd:Zb}{N ps:WF}{k:Nat}{sp:Sp} (F:Fun K x qual st f fd) (d:fd.code = .ref c) (S:aE N ps (ag st)) (b:∀vs H Q E,sp vs H Q E->vs.length=ps.length)
  (l:∀(A:Zc) (outer:List Env) (s:Wx) (H:Hp) (vs:WD) (Q:VK) (E:XK),bG k (A.deeper (envOfC qual (ag st) s.heap.objs.size f (.ref c)))->sp vs H Q E ->
   ∃t,PSs (zM CX0 P w K mg base N qual (ag st) f (.ref c) A outer s H E).nox (bS st) t/\t { nx:=λ_ H'=>Q .non H',rt:=Q } (start N vs) H):ay P w K mg base CX0 (k+1) f fd ps sp:=by
 obtain⟨_,_,kV,_,_,_,e,_,_,rfl,j,a⟩:=F.ex;obtain rfl:e = .ref c:=d;refine He j a S b λA outer s H vs Q E i g=>?_;obtain⟨t,h,q⟩:=l A outer s H vs Q E i g;exact⟨t,h.nox,q⟩
theorem Kd.ok {x qual:Str}{st:Stmt}{f:Za}{fd:Zb}{N ps:WF}{k:Nat}{sp:Sp} (F:Kd K x qual st f fd) (S:aE N ps (ag st)) (b:∀vs H Q E,sp vs H Q E->vs.length=ps.length)
  (g:∀(cdv:Wy) (A:Zc) (outer:List Env) (s:Wx) (H:Hp) (vs:WD) (Q:VK) (E:XK),bG k (A.deeper (envOfC qual (ag st) s.heap.objs.size f cdv))->sp vs H Q E ->
   ∃t,PSs (zM CX0 P w K mg base N qual (ag st) f cdv A outer s H E).nox (bS st) t/\t { nx:=λ_ H'=>Q .non H',rt:=Q } (start N vs) H):ay P w K mg base CX0 (k+1) f fd ps sp:=by
 obtain⟨_,_,_,kV,_,_,_,cdv,_,_,rfl,e,a⟩:=F.ex;refine He e a S b λA outer s H vs Q E d c=>?_;obtain⟨t,h,q⟩:=g cdv A outer s H vs Q E d c;exact⟨t,h.nox,q⟩
end
end L2
namespace L2
open PySem PySem.Spec PyProof.Rows
section
variable {fs:WH}{g h h1 h2 h':Heap}{e T:Za}{cls tb fl:Wy}
end
section
variable {M:Model}{A:Zc}{E:Wy->Wx->Prop}{s:Wx}{base g:Heap}{env:Env}{outer:List Env}{L e:Za}{cls tb:Wy}{Q:Unit->Wx->Prop}
end
section
variable {P:Zd}{w:Ze}{H H':Hp}{g h:Heap}{e C a:Za}{o:HO}{tb:Wy}{fs:WH}
end
section
variable {X:Cx}{E:XK}{C:Za}{x:Str}{np cT pos:Pos}{a:Expr}{ta:TA}{bmB:WJ}
end
section
variable {X:Cx}{pins:List (Za×Obj)}{σ:St}{H H':Hp}{s s':Wx}
end
section
variable {X:Cx}{CX:CXT}{k:Nat}{f:Za}{fd:Zb}{ps:WF}{sp:Sp}{E:St->XK}{x:Str}{p pos:Pos}{e:Expr}{es:List Expr}{t:TA}
end
def mroIn (K:Wz) (C D:Za):Bool:=match K.lookup C with
 | some ⟨_,_,.cls cd,_⟩=>cd.mro.contains (.ref D)
 | _=>false
section
variable {X:Cx}{D:Za}{i:Nat}{n x:Str}{ts:Za->Za->TS}
end
def JQ (A:Zc) (h:Heap) (ea:Za):Prop:=A.handled=some (.ref ea)/\∃oe vs,h.get? ea=some oe/\oe.data = .fields vs/\vs[2]? = some Value.none
theorem Gz {M:Model}{A:Zc}{E:Wy->Wx->Prop}{s:Wx}{Q:Wy->Wx->Prop}
  (h:∀h' e us,(∀b o,s.heap.get? b=some o->h'.get? b=some o)->s.heap.get? e=none->h'.get? e=some { cls:=.type "StopIteration",data:=.fields us }->2<us.size->Q (.ref e) { s with heap:=h' }):Zh M A (newExc (.type "StopIteration") []) Q E s:=by
 unfold newExc newTuple;refine Ww (wpAny_newObj_type ?_ (by size_fits));refine Ww (m:=firstArgMember _ _) (wpAny_of_eq (a:=Value.none) (by first | rfl | (simp only[firstArgMember];rfl)) ?_)
 refine wpAny_newObj_type (h _ _ _ (λb o q=>Wu _ (Wu _ q)) (Heap.get?_none_of_le (by simp)) (Y1 _ rfl) (by simp[ownMembersOf])) (by size_fits)
section
variable {prog:Zd}{w:Ze}{A:Zc}{E:Wy->Wx->Prop}{s:Wx}{ea:Za}
end
def Hd (X:Cx) (ea:Za):Prop:=∀pins σ H s,Inv X pins σ H s->JQ X.A s.heap ea/\H ea=none
structure Sx (ea:Za) (P:Zd) (w:Ze) (K:Wz) (tg:Expr) (J:It) (fp:WH) (it:Za) (tn:Nat->Heap->Prop):Prop where
 mem:it∈fp
 obj:∀i h,tn i h->∀b∈fp,∃o,h.get? b=some o/\∀v,o.data ≠ .cell v
 keep:∀i h h',tn i h->(∀b∈fp,∀o,h.get? b=some o->h'.get? b=some o)->tn i h'
 item:∀(X:Cx),X.prog=P->X.w=w->X.K=K->Hd X ea->∀(i:Nat) (pins:List (Za×Obj)) (s:Wx) (σ:St) (H:Hp) (E:Wy->Wx->Prop),Inv X pins σ H s->(∀b∈fp,cg X pins H b)->tn i s.heap->J.go i H ->
  Zh (model P w) X.A (pyNext (.ref it)) (λr s1=>∃u,r=some u /\
   Zh (model P w) X.A (letOwnedTupleGo tg (.ref it) u) (λ_ s2=>∃x H',Inv X pins σ H' s2/\RelV x u/\J.yld i H x H'/\tn (i+1) s2.heap/\∀b∈fp,H' b=none) E s1) E s
 done:∀(X:Cx),X.prog=P->X.w=w->X.K=K->Hd X ea->∀(i:Nat) (pins:List (Za×Obj)) (s:Wx) (σ:St) (H:Hp) (E:Wy->Wx->Prop),Inv X pins σ H s->(∀b∈fp,cg X pins H b)->tn i s.heap->J.stop i H ->
  Zh (model P w) X.A (pyNext (.ref it)) (λr s1=>r=none/\Inv X pins σ H s1) E s
 self:∀(A:Zc) (i:Nat) (s:Wx) (Q:Wy->Wx->Prop) (E:Wy->Wx->Prop),tn i s.heap->Q (.ref it) s->Zh (model P w) A (pyIter (.ref it)) Q E s
section
variable {X:Cx}
end
section
variable {X:Cx}{elt tg iter:Expr}{ifs:List Expr}{scope:Scope}{pos:Pos}
end
section
variable {X:Cx}{pos:Pos}
end
structure SM (K:Wz) (C:Za):Prop where
 ga:Ym K (.ref C) "__getattribute__" = some (some (.builtin "BaseException.__getattribute__"))
 nh:Ym K (.ref C) "__getattr__" = some none
 fo:PySem.W.findObj K C none "__class__" = some (.bind (.builtin "getset_descriptor.__get__") (.builtin "object.__class__"))
 mo:PySem.W.mroIn K C (.type "object")=some true
 mb:PySem.W.mroIn K C (.type "BaseException")=some true
 is:(PySem.W.clsIn K C).isSome=true
section
variable {prog:Zd}{w:Ze}{A:Zc}{E:Wy->Wx->Prop}{s:Wx}{K:Wz}{x C:Za}{ox:Obj}
end
section
variable {X:Cx}{ea C:Za}{oe:Obj}{vs:WG}
end
section
variable {P:Zd}{w:Ze}{K:Wz}{mg:Str->Option Wy}{base:Heap}
end
structure OE (k:Nat) (A:Zc):Prop where
 dp:A.depth+3 * k+5<recursionLimit
 un:A.units+16 * k+200<cLine
 gd:A.guards=some []
structure Ss (P:Zd) (w:Ze) (K:Wz) (mg:Str->Option Wy) (base:Heap) (CX:CXT) (k:Nat) (f:Za) (fd:Zb) (ps:WF) (sp:Za->Za->Sp):Prop where
 len:∀ea C vs H Q E,sp ea C vs H Q E->vs.length=ps.length
 run:∀(ea C:Za) (oe:Obj) (vv:WG) (A:Zc) (outer:List Env) (s:Wx) (H:Hp) (args:Args) (us:WJ) (vs:WD) (Q:VK) (E:XK),OE k A->A.handled=some (.ref ea)->s.heap.get? ea=some oe->H ea=none->ea∉frs outer ->
  oe.cls = .ref C->oe.dict=none->oe.data = .fields vv->vv[2]? = some .none->uI P w K mg base A outer s H->BindsTo s fd args (ps.zip us)->aO vs us->sp ea C vs H Q E ->
  codeAny (model P w) A (.call (.ref f) args) (CR CX outer P w H s Q E) s
section
variable {P:Zd}{w:Ze}{K:Wz}{mg:Str->Option Wy}{base:Heap}
end
section
variable {X:Cx}{k:Nat}{f ea C:Za}{oe:Obj}{vv:WG}{fd:Zb}{ps:WF}{sp:Za->Za->Sp}{x:Str}{p pos:Pos}{e:Expr}{es:List Expr}{t:TA}
end
section
variable {K:Wz}{g:TG}{tt:TT}{te:TE}{D:Za}{Q:VK}{σ:St}{H:Hp}
end
end L2
namespace L2
open PySem
structure iX (K:Wz) (x q:Str) (st:Stmt) (ps:WF) (f:Za) (fd:Zb):Prop where
 fn:Fun K x q st f fd
 bd:Binds K fd ps []
structure IF (K:Wz) (x q:Str) (st:Stmt) (ps:WF) (f:Za) (fd:Zb):Prop where
 fn:Kd K x q st f fd
 bd:Binds K fd ps []
def tAt (C:Za) (ta:TE) (f:Str):TE:=λσ H Q=>ta σ H λx H1=>∃a dx fs v,x = .ref a/\H1 a=some (.ins C dx fs)/\fs.lookup f=some v/\Q v H1
def sAt (C:Za) (ta tv:TE) (f:Str):TS:=λD σ H=>tv σ H λy H1=>ta σ H1 λx H2=>∃a dx fs,x = .ref a/\H2 a=some (.ins C dx fs)/\fs.length<1000/\D.nx σ (upd H2 a (.ins C dx (m7 f y fs)))
def K6 (C:Za) (sp:Sp):WD->Hp->VK->Prop:=λvs H Q=>∃a dx fs,vs=[.ref a]/\H a=some (.ins C dx fs)/\sp [.ref a] H (λv H'=>∃n:Nat,v = .int n/\n<=1000000/\Q (.int n) H') E0
section
variable {X:Cx}{C f:Za}{fd:Zb}{k:Nat}{sp:Sp}{e o value:Expr}{n:Str}{pos pos':Pos}{ta tv:TE}
theorem bE (c:Cls X.K C) (m:bT X.K C n) (j:PE X e ta) (i:attributeBase e n X.env (eval e X.env)=eval e X.env:=by rfl):PE X (.Attribute e n pos) (tAt C ta n):=by
 intro b s t H Q I h;refine IW i (thn (j b s t H _ I h) λu _ ⟨x,p,r,g,a,_,_,v,f,d,l,q⟩=>?_);subst f;obtain rfl:u=Value.ref a:=g;exact AJ r d c m l λ_ _ k o=>⟨v,p,k,o,q⟩
theorem kP (c:Cls X.K C) (p:bT X.K C n) (r:PE X o ta) (B:PE X value tv) (g:swapsWith value (some (.Attribute o n pos')) pos.line X.env=pure false:=by rfl):PS X (.Assign [.Attribute o n pos'] value pos) (sAt C ta tv n):=by
 intro b s d H D I h;refine plainObj_wpAny_Assign_Attribute (thn (B b s d H _ I h) λu z ⟨y,t,v,A,q⟩=>thn (r b z d t _ v q) λf _ ⟨x,_,m,k,a,_,_,j,e,l,w⟩=>?_) g;subst j;obtain rfl:f=Value.ref a:=k;exact Bj m e c p l A λ_ i=>⟨d,_,i,w⟩
theorem E8 (c:mV X.K C "__len__" f) (F:ay X.prog X.w X.K X.mg X.base CX0 k f fd ["self"] sp) (p:bG (k+1) X.A) (x:Binds X.K fd ["self"] []):ia X (.builtin "len") (K6 C sp):=by
 rintro _ s _ H _ _ Q I r ⟨a,_,_,rfl,d,h⟩;obtain⟨u,rfl,o⟩:=vals1 r;obtain rfl:u=Value.ref a:=o;obtain⟨m,g⟩:=I.fr;obtain⟨_,O,_⟩:=pB I.hok d;obtain⟨_,J,_⟩:=O.look;refine PySem.W.len_K g I.ok.mod.kin J c.at_ c.fn ?_;refine wpAny_call (codeAny_mono (F.run X.A.in1 X.stack s H ⟨[.ref a],[]⟩ [.ref a] [.ref a] _ E0 p.in1 I.ER.in1 (by have:=x s [.ref a] I.kIn rfl;simpa using this) (.cons rfl .nil) h) λr _ b=>?_);cases r with
 | error e=>exact False.elim b
 | ok i=>
  cases i with
  | ret u=>
   obtain⟨v,q,j,y,n,l,_,q3⟩:=I.after b;subst l;obtain⟨t,rfl⟩:=y;refine⟨⟨by lia,by lia⟩,⟨.int n,q,j.tok _,⟨_,rfl⟩,q3⟩⟩
  | next=>exact False.elim b
  | brk=>exact False.elim b
  | cont=>exact False.elim b
end
structure PD (K:Wz) (C:Za):Prop where
 ha:Ym K (.ref C) "__class__" = some (some (.builtin "object.__class__"))
 hn:PySem.W.specialIn K (.builtin "object.__class__") "__get__" = some (some (.builtin "getset_descriptor.__get__"))
 htk:PySem.W.takesIn K (.builtin "object.__class__")=some true
 hm:PySem.W.mroIn K C (.type "object")=some true
 self:PySem.W.kitOne K (.ref C) (.ref C)=some true
theorem aO.erase:∀{xs:WD}{us:WJ} (i:Nat),aO xs us->aO (xs.eraseIdx i) (us.eraseIdx i)
 | _,_,_,.nil=>by simpa using Paired.nil
 | _,_,0,.cons _ t=>by simpa using t
 | _,_,i+1,.cons r t=>by simpa using Paired.cons r (aO.erase i t)
section
variable {X:Cx}
def Pc:V->WD->Hp->VK->Prop:=λx vs H Q=>∃(l:Za) (y:V) (r:WD),x = .ref l/\vs=[]/\H l=some (.lst (r++[y]))/\Q y (upd H l (.lst r))
theorem Cv:MtR X "list.pop" Pc:=by
 intro _ s _ H x _ v _ Q I g k h;obtain⟨l,y,r,rfl,rfl,hH,q⟩:=h;cases g;cases k;obtain⟨z,a,n,d,j,e⟩:=I.Cd hH;obtain⟨w,f,m⟩:=d.get (i:=r.length) (x:=y) (by simp);have b:a.length=r.length+1:=by rw[<-j];simp
 refine call_meets F.slot_list_pop ⟨_,e,rfl⟩ F.entry_list_pop (F.args_list_pop_1 _) (PySem.MeetsSeq.list_pop_last l a.toArray n w ?_ (by rw[TL];lia)) ⟨e,?_⟩
 ·rw[TL,b];simpa using f
 ·have c:=d.erase r.length;rw[show(r++[y]).eraseIdx r.length=r by simp[List.eraseIdx_append_of_length_le]]at c;refine⟨y,_,I.BK (jV:=a.eraseIdx r.length) hH e ?_ c ?_,m,q⟩
  ·apply Vb.mp;rw[TL,b];simp
  ·have:(r++[y]).length<=Zg:=z;simp at this;lia
end
structure NeT (K:Wz) (C:Za):Prop where
 ne:Ym K (.ref C) "__ne__" = some (some (.builtin "object.__ne__"))
 hm:PySem.W.mroIn K C (.type "object")=some true
section
variable {X:Cx}{C f:Za}{fd:Zb}{k:Nat}{sp:Sp}
end
def R7 (K:Wz) (ta tb:TE):TE:=λσ H Q=>ta σ H λx H1=>∃k,J6 K x H1 k/\if k=true then Q x H1 else tb σ H1 Q
theorem LZ {X:Cx}{a b:Expr}{rest:List Expr}{pos:Pos}{ta tb:TE} (q:PE X a ta) (p:PE X (.BoolOp .Or (b::rest) pos) tb):PE X (.BoolOp .Or (a::b::rest) pos) (R7 X.K ta tb):=by
 intro d s e H Q I h;refine PyProof.Rows.BoolOp_or (thn (q d s e H _ I h) λv t ⟨x,l,r,i,k,u,g⟩=>?_);refine thn (GO d t e l x v (λc f=>c=k/\f=l) r i ⟨k,u,rfl,rfl⟩) λc m ⟨f,j,o,n⟩=>?_;subst o;subst n;cases c with
 | false=>exact p d m e _ Q j g
 | true=>exact⟨x,_,j,i,g⟩
def QE (K:Wz) (ta tb:TE):TE:=λσ H Q=>∃Pre:V->Hp->Prop,(∀x H1,Pre x H1->Q x H1)/\ta σ H λx H1=>∃k,J6 K x H1 k/\if k=true then Pre x H1 else tb σ H1 Pre
theorem Lk {X:Cx}{a b:Expr}{rest:List Expr}{pos:Pos}{ta tb:TE} (f:PE X a ta) (k:PE X (.BoolOp .Or (b::rest) pos) tb):PE X (.BoolOp .Or (a::b::rest) pos) (QE X.K ta tb):=by
 intro c s j H Q I ⟨d,e,h⟩;exact thn (LZ f k c s j H d I h) λv _ ⟨x,g,i,l,m⟩=>⟨x,g,i,l,e _ _ m⟩
end L2
namespace L2
open PySem PySem.Spec PyProof.Rows
section
variable {X:Cx}
def CJ (K:Wz):V->WD->Hp->VK->Prop:=λx vs H Q=>∃(xs:WI) (y:V) (d:Zf),vs=[y]/\Den K H x (.list xs)/\Den K H y d/\d.depth<=100/\Q (.int (xs.countP λe=>Y9 e d:Nat)) H
theorem DO {k:Nat} (p:bG k X.A):MtR X "list.count" (CJ X.K):=by
 intro _ s _ H x _ v _ Q I j r h;obtain⟨c,y,d,rfl,g,f,w,q⟩:=h;obtain⟨u,rfl,t⟩:=r.one;obtain⟨_,m⟩:=I.reads g j;obtain⟨_,l⟩:=I.reads f t;have b:Y4 c=true:=by simpa[PyData.canLay0]using g.lay
 cases m with
 | @list a o its n _ _ h1 h2 h3 h4=>
  have i:s.heap.get? a=some { cls:=.type "list",dict:=o.dict,data:=.seq its n,slots:=o.slots }:=by
   rw[h1,<-h2,<-h3]
  refine call_meets Z1 ⟨_,h1,h2⟩ PySem.F.entry_list_count (PySem.F.args_list_count_2 _ _) (SeqAt.list_countAt a its n _ _ u (λz=>Y9 (SeqAt.readOf s.heap z) d)) ⟨i,SeqAt.items_eqAt h4 l b f.lay (yH p w),?_⟩;refine⟨.int _,H,I.tok _,⟨_,rfl⟩,?_⟩;have e:=SeqAt.readsAll_map c _ _ b h4;rw[<-e,List.countP_map]at q;exact q
def PC (K:Wz):WD->Hp->VK->Prop:=λvs H Q=>∃(l:Za) (ns:List Int),vs=[.ref l]/\SqL K H l (ns.map V.int)/\(∀i∈ns,0<=i/\i<=1000000)/\ns.length<=1000000/\Q (.int ns.sum) H
theorem we:∀{ns:List Int}{its:WJ},aO (ns.map V.int) its->∃ps:List (Int×Tok),ps.map (·.1)=ns/\its=ps.map λp=>Value.int p.1 p.2
 | [],_,.nil=>⟨[],rfl,rfl⟩
 | n::ns,_,.cons r t=>by
  obtain⟨ps,c,a⟩:=we t;obtain⟨b,rfl⟩:=r;exact⟨(n,b)::ps,by rw[TX,c],by rw[TX,a]⟩
theorem lA {ps:List (Int×Tok)}:∀j,j<=ps.length->preSum (numAt ps.toArray) j=((ps.map (·.1)).take j).sum
 | 0,_=>rfl
 | j+1,h=>by
  have a:ps[j]? = some ps[j]:=Tu h;rw[preSum,lA j (Nat.le_of_succ_le h),T4,List.sum_append,TF,a];unfold numAt;rw[Vf,a];simp
theorem sum_bound:∀{ns:List Int},(∀i∈ns,0<=i/\i<=1000000)->0<=ns.sum/\ns.sum<=1000000 * (ns.length:Int)
 | [],_=>⟨by simp,by simp⟩
 | n::ns,h=>by
  have c:=h n (TH ..);have b:=sum_bound (ns:=ns) λi a=>h i (TC _ a);rw[Uw,TR];constructor <;> push_cast <;> lia
theorem Gu (y:X.A.handled=none):ia X (.builtin "sum") (PC X.K):=by
 intro _ s _ H xs _ Q I r h;obtain⟨l,ns,rfl,v,f,_,q⟩:=h;obtain⟨u,rfl,o⟩:=vals1 r;cases o;obtain⟨_,w,m,_⟩:=I.list v;obtain⟨ps,c,rfl⟩:=we w;have a:ps.length=ns.length:=by rw[<-c,Tt]
 have e:intItems ps.toArray=(ps.map λp=>Value.int p.1 p.2).toArray:=by unfold intItems;simp
 refine sum_intList (xs:=ps.toArray) y (by rw[e];exact m.isList) (λj b=>?_) λ_ _ n g=>?_
 ·have b:j<ps.length:=by simpa using b
  have d:ps[j]? = some ps[j]:=Tu b;have k:ps[j].1∈ns:=by rw[<-c];exact Tv.mpr ⟨_,Uj b,rfl⟩
  have z:=f _ k;have t:numAt ps.toArray j=ps[j].1:=by
   unfold numAt;rw[Vf,d];rfl
  have x:=sum_bound (ns:=ns.take (j+1)) λi e=>f i (UT e);rw[TZ]at x;rw[t,lA (j+1) b,c];unfold InLong;refine⟨⟨by lia,by lia⟩,by lia,by lia⟩
 ·refine⟨.int _,H,I.kept g,⟨n,rfl⟩,?_⟩;rw[show ps.toArray.size=ps.length from by simp,lA ps.length (Tw _),c,a,TY (Tw _)];exact q
theorem Lm:bootBuiltins "sum" = some (.builtin "sum"):=by decide +kernel
end
def ja (h:Heap) (z TI TO T:Za) (b:Bool):Prop:=h.get? z=some { cls:=.type "zip",dict:=none,data:=.fields #[rawInt T,.bool b,.bool false,.ref TI,.ref TO],slots:=#[] }
section
variable {prog:Zd}{w:Ze}{A:Zc}{E:Wy->Wx->Prop}{s:Wx}
theorem AA {a:Za}{Q:Option Obj->Wx->Prop} (h:Q (s.heap.get? a) s):Zh (model prog w) A (loadIfAlive a) Q E s:=λΓ p _=>by
 unfold loadIfAlive;rw[Sem.wp_loadIfAlive];exact h
theorem zX {z TI TO T:Za}{d:Bool}{oT:Obj}{Q:Bool->Wx->Prop} (hz:ja s.heap z TI TO T d) (hT:s.heap.get? T=some oT) (h:∀h',ja h' z TI TO T true->Yw z s.heap h'->Q false { s with heap:=h' }):Zh (model prog w) A (Yz (.ref z)) Q E s:=by
 unfold Yz;refine Ww (wpAny_field hz rfl (x:=rawInt T) rfl ?_);show Zh _ _ (loadIfAlive (T:Int).toNat >>= _) _ _ _;refine Ww (AA ?_);rw[Us,hT];refine Ww (wpAny_field hz rfl (x:=.bool d) rfl ?_);cases d with
 | true=>exact Wv (h s.heap hz (Heap.SameBut.refl ..))
 | false=>exact Ww (wpAny_setField_rec hz (by simp) λc b a=>Wv (h c b a))
theorem vt {z TI TO j k l n T:Za}{B:Bool}{u q:Nat}{xs ys:WG}{x y:Wy}{oT:Obj}{Q:Wy->Wx->Prop} (D:ZipApart z TI TO j k l n)
  (hz:ja s.heap z TI TO T B) (hT:s.heap.get? T=some oT) (p:IsPair s.heap TI (.ref j) (.ref k))
  (h1:s.heap.IsListIter j l u) (h2:s.heap.IsListIter k n q) (r:s.heap.IsList l xs) (t:s.heap.IsList n ys) (hx:xs[u]? = some x) (C:ys[q]? = some y)
  (I:∀h',ja h' z TI TO T true->h'.IsListIter j l (u+1)->h'.IsListIter k n (q+1)->IsPair h' s.heap.objs.size x y->h'.objs.size=s.heap.objs.size+1 ->
   (∀c o,c≠z->c≠j->c≠k->s.heap.get? c=some o->h'.get? c=some o)->Q (.ref s.heap.objs.size) { s with heap:=h' }) :
  Zh (model prog w) A (Builtin.«zip.__next__» ⟨[.ref z],[]⟩) (λfin s'=>∃v,fin = .done (.ret v)/\Q v s') E s:=by
 show Zh _ _ (field (.ref z) 2 >>= _) _ _ _;refine Ww (wpAny_field hz rfl (x:=.bool false) rfl ?_);show Zh _ _ (field (.ref z) 3 >>= _) _ _ _;refine Ww (wpAny_field hz rfl (x:=.ref TI) rfl ?_);refine Ww (wpAny_seqItems p rfl ?_);show Zh _ _ (Yz (.ref z) >>= _) _ _ _;refine Ww (zX hz hT λ_ i a=>?_);simp only[Ug,if_false];rw[<-Vd];simp only[U3,List.forIn_nil];refine Ww (Ww (Ww (Ws ?_)));show Zh _ _ (YP (.ref j) >>= _) _ _ _;refine Ww (wpAny_nextOf_list_item (h1.extBut a.extBut D.i1z) (r.extBut a.extBut D.l1z) hx λ_ g b=>Wv (Wv ?_));refine Ww (Ww (Ws ?_));show Zh _ _ (YP (.ref k) >>= _) _ _ _;refine Ww (wpAny_nextOf_list_item ((h2.extBut a.extBut D.i2z).extBut b.extBut D.i12.symm) ((t.extBut a.extBut D.l2z).extBut b.extBut D.l2i1) C λf h d=>Wv (Wv (Wv ?_)));have hsz:f.objs.size=s.heap.objs.size:=by rw[d.1,b.1,a.1]
 refine Ww (wpAny_newTuple (hsz:=by show 2<=Zg;decide) (Wv ⟨_,rfl,?_⟩));show Q (.ref f.objs.size) _;have m:∀c o,f.get? c=some o->(f.push { cls:=.type "tuple",data:=.seq #[x,y] }).get? c=some o:=λc o e=>Wu _ e;rw[hsz];have J:IsPair (f.push { cls:=.type "tuple",data:=.seq #[x,y] }) s.heap.objs.size x y:=by rw[<-hsz];exact Y1 _ rfl
 exact I _ (m _ _ (d.extBut _ _ D.i2z.symm (b.extBut _ _ D.i1z.symm i))) (((g.extBut d.extBut D.i12)).at λo e=>m _ o e) (h.at λo e=>m _ o e) J (by rw[YZ,hsz]) λc o H G F e=>m c o (d.extBut _ _ F (b.extBut _ _ G (a.extBut _ _ H e)))
theorem vo {z TI TO i j l v T:Za}{C:Bool}{u n:Nat}{xs ys:WG}{oT:Obj}{Q:Fin->Wx->Prop} (B:A.handled=none) (D:ZipApart z TI TO i j l v)
  (hz:ja s.heap z TI TO T C) (hT:s.heap.get? T=some oT) (m:IsPair s.heap TI (.ref i) (.ref j))
  (h1:s.heap.IsListIter i l u) (h2:s.heap.IsListIter j v n) (k:s.heap.IsList l xs) (t:s.heap.IsList v ys) (F:xs[u]? = none\/ys[n]? = none)
  (y:∀h' e,(∀c o,c≠z->c≠i->c≠j->s.heap.get? c=some o->h'.get? c=some o)->(∃o,h'.get? e=some o/\o.cls = .type "StopIteration")->E (.ref e) { s with heap:=h' }) :
  Zh (model prog w) A (Builtin.«zip.__next__» ⟨[.ref z],[]⟩) Q E s:=by
 show Zh _ _ (field (.ref z) 2 >>= _) _ _ _;refine Ww (wpAny_field hz rfl (x:=.bool false) rfl ?_);show Zh _ _ (field (.ref z) 3 >>= _) _ _ _;refine Ww (wpAny_field hz rfl (x:=.ref TI) rfl ?_);refine Ww (wpAny_seqItems m rfl ?_);show Zh _ _ (Yz (.ref z) >>= _) _ _ _;refine Ww (zX hz hT λ_ _ a=>?_);simp only[Ug,if_false];rw[<-Vd];simp only[U3,List.forIn_nil];refine Ww (Ww (Ww (Ws ?_)));show Zh _ _ (YP (.ref i) >>= _) _ _ _;cases hx:xs[u]? with
 | none=>
  refine Ww (wpAny_nextOf_list_end B (h1.extBut a.extBut D.i1z) (k.extBut a.extBut D.l1z) hx λd e b p=>?_);exact y d e (λc o r q _ x=>b _ _ q (a.extBut _ _ r x)) p
 | some x=>
  have G:ys[n]? = none:=by rcases F with h | h;rw[hx]at h;cases h;exact h
  refine Ww (wpAny_nextOf_list_item (h1.extBut a.extBut D.i1z) (k.extBut a.extBut D.l1z) hx λd _ b=>Wv (Wv ?_));refine Ww (Ww (Ws ?_));show Zh _ _ (YP (.ref j) >>= _) _ _ _;refine Ww (wpAny_nextOf_list_end B ((h2.extBut a.extBut D.i2z).extBut b.extBut D.i12.symm) ((t.extBut a.extBut D.l2z).extBut b.extBut D.l2i1) G λg e f p=>?_);exact y g e (λc o r H q x=>f _ _ q (b.extBut _ _ H (a.extBut _ _ r x))) p
theorem zA {z TI TO a b d e T:Za}{l:Bool}{j g:Nat}{xs ys:WG}{x y:Wy}{oT:Obj}{Q:Option Wy->Wx->Prop} (D:ZipApart z TI TO a b d e)
  (hz:ja s.heap z TI TO T l) (hT:s.heap.get? T=some oT) (f:IsPair s.heap TI (.ref a) (.ref b))
  (h1:s.heap.IsListIter a d j) (h2:s.heap.IsListIter b e g) (h:s.heap.IsList d xs) (i:s.heap.IsList e ys) (hx:xs[j]? = some x) (m:ys[g]? = some y)
  (u:∀h',ja h' z TI TO T true->h'.IsListIter a d (j+1)->h'.IsListIter b e (g+1)->IsPair h' s.heap.objs.size x y->h'.objs.size=s.heap.objs.size+1 ->
   (∀c o,c≠z->c≠a->c≠b->s.heap.get? c=some o->h'.get? c=some o)->Q (some (.ref s.heap.objs.size)) { s with heap:=h' }) :
  Zh (model prog w) A (pyNext (.ref z)) Q E s:=by
 have k:s.TypeIs (.ref z) "zip" :=⟨_,hz,rfl⟩;unfold pyNext;exact Ww (wpAny_attempt (wpAny_callSpecial?_slot (name:=Yk "__next__") k F.slot_zip_next
  (wpAny_call_entry F.slot_zip_next k F.entry_zip_next
   (vt D hz hT f h1 h2 h i hx m λh' q v n r t p=>Wv (u h' q v n r t p)) (F.args_zip_next_1 _))))
theorem Ac {z TI TO a d f j T:Za}{p:Bool}{m l:Nat}{xs ys:WG}{oT:Obj}{Q:Option Wy->Wx->Prop} (v:A.handled=none) (D:ZipApart z TI TO a d f j)
  (hz:ja s.heap z TI TO T p) (hT:s.heap.get? T=some oT) (g:IsPair s.heap TI (.ref a) (.ref d))
  (h1:s.heap.IsListIter a f m) (h2:s.heap.IsListIter d j l) (h:s.heap.IsList f xs) (i:s.heap.IsList j ys) (r:xs[m]? = none\/ys[l]? = none)
  (u:∀h',(∀c o,c≠z->c≠a->c≠d->s.heap.get? c=some o->h'.get? c=some o)->Q none { s with heap:=h' }):Zh (model prog w) A (pyNext (.ref z)) Q E s:=by
 have k:s.TypeIs (.ref z) "zip" :=⟨_,hz,rfl⟩;unfold pyNext;refine Ww (wpAny_attempt (wpAny_callSpecial?_slot (name:=Yk "__next__") k F.slot_zip_next
  (wpAny_call_entry F.slot_zip_next k F.entry_zip_next (vo v D hz hT g h1 h2 h i r λh' e n t=>?_) (F.args_zip_next_1 _))))
 obtain⟨o,q,x⟩:=t;refine Ww (wpAny_isInstance (T:= "StopIteration") (b:=true) ⟨o,q,x⟩ isSubtype_stop ?_);exact Wv (u _ n)
end
def tF (H0 H:Hp) (xs ys acc:WD):Prop:=∀(j:Nat) x y,j<acc.length->xs[j]? = some x->ys[j]? = some y->∃t,acc[j]? = some (.ref t)/\H t=some (.tup [x,y])/\H0 t=none
section
variable {X:Cx}{pins:List (Za×Obj)}{σ:St}
theorem Gi {A:Zc}{R:Result->Wx->Prop}{z TI TO C B a b S:Za}{xs ys:WD}{H0:Hp}{M:Wy} (hh:A.in1.handled=none) (D:ZipApart z TI TO C B a b) (hq:SqL X.K H0 a xs) (af:SqL X.K H0 b ys) (ax:H0 S=none) (hsz:min xs.length ys.length<=1000000)
  (hR:∀s' H' acc,Inv X pins σ H' s'->ae H0 H'->H' S=some (.lst acc)->acc.length=min xs.length ys.length->tF H0 H' xs ys acc->R (.ok (.ret M)) s') :
  ∀(k i:Nat) (s:Wx) (H:Hp) (acc:WD),min xs.length ys.length - i=k->i<=min xs.length ys.length->Inv X pins σ H s->(∀c∈[z,TI,TO,C,B],cg X pins H c)->ae H0 H->H S=some (.lst acc)->acc.length=i->tF H0 H xs ys acc ->
   IsPair s.heap TI (.ref C) (.ref B)->(∃u v,IsPair s.heap TO u v)->s.heap.IsListIter C a i->s.heap.IsListIter B b i->(IsZip s.heap z TI TO .none\/∃T bb p q,ja s.heap z TI TO T bb/\H T=some (.tup [p,q])) ->
   codeAny (model X.prog X.w) A (.builtin "list.extend.loop" ⟨[.ref S,.ref z,M],[]⟩) R s:=by
 have ak:∀{H:Hp},(∀c∈[z,TI,TO,C,B],cg X pins H c)->∀{c:Za}{o:HO},H c=some o->c∉[z,TI,TO,C,B]:=λQ c o e G=>by rw[(Q c G).1]at e;cases e
 intro k
 induction k with
 | zero=>
  intro i s H acc hk hi I Q U hS J BV m l h1 h2 r;refine codeAny_builtin F.entry_extend_loop ?_;rw[Yg F.plain_extend_loop _];show Zh _ A.in1 (pyNext (.ref z) >>= _) _ _ s;obtain⟨a9,rv,p,_⟩:=I.list (U.seq hq);obtain⟨ah,Z,p',_⟩:=I.list (U.seq af);have hl:=rv.length;have az:=Z.length;have tL:a9.toArray[i]? = none\/ah.toArray[i]? = none:=by
   rcases Nat.le_total xs.length ys.length with h | h
   ·exact .inl (by simp;lia)
   ·exact .inr (by simp;lia)
  obtain⟨u,v,l⟩:=l;have O:∀g:Heap,(∀c o,c∉[z,TI,TO,C,B]->s.heap.get? c=some o->g.get? c=some o)->R (.ok (.ret M)) { s with heap:=g }:=λg E=>hR _ H acc (I.eZ (t':=s.toks) (wr:=[z,TI,TO,C,B]) Q E) U hS (by lia) BV;rcases r with r | ⟨T,bb,pp,qq,r,hT⟩
  ·exact Ww (wpAny_pyNext_zip_end hh D r m l h1 h2 p.isList p'.isList tL λg E=>Wv (O g λc o d e=>E c o (λq=>d (by simp[q])) (λq=>d (by simp[q])) (λq=>d (by simp[q])) (λq=>d (by simp[q])) e))
  ·obtain⟨_,gj,_,oT,eT,_⟩:=(show bO X.prog X.w H s.heap T (.tup [pp,qq])from I.hok T _ hT);exact Ww (Ac hh D r eT m h1 h2 p.isList p'.isList tL λg E=>Wv (O g λc o d e=>E c o (λq=>d (by simp[q])) (λq=>d (by simp[q])) (λq=>d (by simp[q])) e))
 | succ k ih=>
  intro i s H acc hk hi I Q U hS J BV m l h1 h2 r;refine codeAny_builtin F.entry_extend_loop ?_;rw[Yg F.plain_extend_loop _];show Zh _ A.in1 (pyNext (.ref z) >>= _) _ _ s;obtain⟨a9,rv,p,_⟩:=I.list (U.seq hq);obtain⟨ah,Z,p',_⟩:=I.list (U.seq af);have hx:xs[i]? = some xs[i]:=Tu (by lia);have hy:ys[i]? = some ys[i]:=Tu (by lia);generalize xs[i]=x at hx;generalize ys[i]=y at hy;obtain⟨u,hu,ru⟩:=rv.get hx;obtain⟨v,hv,av⟩:=Z.get hy;obtain⟨_,_,l⟩:=l;have P:H s.heap.objs.size=none:=I.hok.fresh (Tw _);have aw:=ak Q hS;have W:∀(g:Heap) (T:Za) (bb:Bool) (p q:V),ja g z TI TO T bb->(upd H s.heap.objs.size (.tup [x,y])) T=some (.tup [p,q])->IsPair g TI (.ref C) (.ref B)->(∃u v,IsPair g TO u v)->g.IsListIter C a (i+1)->g.IsListIter B b (i+1)->IsPair g s.heap.objs.size u v->(∀c o,c∉[z,TI,TO,C,B]->s.heap.get? c=some o->g.get? c=some o) ->
    Zh (model X.prog X.w) A.in1 (updateSeq S (·.push (.ref s.heap.objs.size)) >>= λ_=>again (.builtin "list.extend.loop" ⟨[.ref S,.ref z,M],[]⟩)) (λO s'=>match O with | .done f=>R (.ok f) s' | .again c'=>c'.quiet=true/\codeAny (model X.prog X.w) A c' R s') (λe s'=>R (.error e) s') { s with heap:=g }:=λg T bb pp qq ap L RU Mq ai ar BZ E=>by
   have I2:Inv X pins σ (upd H s.heap.objs.size (.tup [x,y])) { s with heap:=g }:=I.pV (t':=s.toks) (wr:=[z,TI,TO,C,B]) Q E (Tw _) ⟨by show 2<=Zg;decide,[u,v],.cons ru (.cons av .nil),⟨_,BZ,rfl,_,rfl⟩⟩;have s1:ae H (upd H s.heap.objs.size (.tup [x,y])):=ae.new P;have N:=s1 _ _ hS;have au:S≠s.heap.objs.size:=nn hS P
   have Y:∀c∈[z,TI,TO,C,B],cg X pins (upd H s.heap.objs.size (.tup [x,y])) c:=λc G=>⟨by
    have aq:∃o,s.heap.get? c=some o:=by
     simp only[TM,UR,or_false]at G;obtain⟨_,e1,_⟩:=h1;obtain⟨_,e2,_⟩:=h2;rcases G with rfl | rfl | rfl | rfl | rfl
     ·rcases r with r | ⟨_,_,_,_,r,_⟩ <;> exact⟨_,r⟩
     ·exact⟨_,m⟩
     ·exact⟨_,l⟩
     ·exact⟨_,e1⟩
     ·exact⟨_,e2⟩
    obtain⟨o,e⟩:=aq;rw[ao (T5 (Y2 e))];exact(Q c G).1,(Q c G).2⟩
   obtain⟨_,N9,_,rr,aj,e3⟩:=I2.Cd N;have ag:(upd H s.heap.objs.size (.tup [x,y])) s.heap.objs.size=some (.tup [x,y]):=ab;generalize upd H s.heap.objs.size (.tup [x,y])=H2 at I2 s1 N Y L ag;have ay:N9.length=i:=by rw[<-aj];exact J
   refine Ww (wpAny_updateSeq e3 rfl (Wv ⟨plainId_quiet F.plain_extend_loop _,?_⟩) (by rw[TL];lia) (by rw[VG,TL];lia));have I3:=I2.BK (jV:=N9++[.ref s.heap.objs.size]) (ys:=acc++[.ref s.heap.objs.size]) (t':=s.toks) (f:=λz=>z.push (.ref s.heap.objs.size)) N e3 (by simp) (rr.append (.cons (show RelV (.ref s.heap.objs.size) (.ref s.heap.objs.size)from rfl) .nil)) (by rw[TJ,T1];have:=sizeLine_eq;lia);have nS:∀{c:Za},c∈[z,TI,TO,C,B]->c≠S:=λG e=>aw (by rw[<-e];exact G);have up:∀c o,c≠S->g.get? c=some o->(g.update S (Y8 λz=>z.push (.ref s.heap.objs.size))).get? c=some o:=λc o n e=>(Yn _ _ (YQ n)).trans e;have as:T≠S:=nn L N
   have NE:tF H0 (upd H2 S (.lst (acc++[.ref s.heap.objs.size]))) xs ys (acc++[.ref s.heap.objs.size]):=λj x' y' hj a0 a7=>by
    by_cases aa:j<acc.length
    ·obtain⟨t,e1,e2,e3⟩:=BV j x' y' aa a0 a7;exact⟨t,by rw[Ui aa];exact e1,by rw[ao λe=>by rw[e,hS]at e2;cases e2];exact s1 _ _ e2,e3⟩
    ·rw[TJ,T1]at hj;have a8:j=acc.length:=by lia
     rw[a8,J,hx]at a0;rw[a8,J,hy]at a7;cases a0;cases a7;exact⟨s.heap.objs.size,by rw[a8];simp,by rw[ao au.symm];exact ag,U.free P⟩
   obtain⟨u1,v1,Mq⟩:=Mq;exact ih (i+1) _ _ _ (by lia) (by lia) I3 (λc G=>⟨by rw[ao (nS G)];exact(Y c G).1,(Y c G).2⟩) (aA ax (U.trans s1)) ab (by rw[TJ,J];rfl) NE (up _ _ (nS (by simp)) RU) ⟨u1,v1,up _ _ (nS (by simp)) Mq⟩ (ai.at λo e=>up _ o (nS (by simp)) e) (ar.at λo e=>up _ o (nS (by simp)) e) (.inr ⟨T,bb,pp,qq,up _ _ (nS (by simp)) ap,by rw[ao as];exact L⟩)
  rcases r with r | ⟨T,bb,pp,qq,r,hT⟩
  ·refine Ww (wpAny_pyNext_zip_item D r m l h1 h2 p.isList p'.isList (x:=u) (y:=v) (by simpa using hu) (by simpa using hv) λg a1 a2 a3 a4 a5 a6 E=>?_);exact W g s.heap.objs.size false x y a1 ab (E _ _ D.TIz D.TITO D.TIi1 D.TIi2 m) ⟨_,_,a2⟩ a3 a4 a5 λc o d e=>E c o (λq=>d (by simp[q])) (λq=>d (by simp[q])) (λq=>d (by simp[q])) (λq=>d (by simp[q])) e
  ·obtain⟨_,gj,_,oT,eT,_⟩:=(show bO X.prog X.w H s.heap T (.tup [pp,qq])from I.hok T _ hT);refine Ww (zA D r eT m h1 h2 p.isList p'.isList (x:=u) (y:=v) (by simpa using hu) (by simpa using hv) λg a1 a3 a4 a5 a6 E=>?_);exact W g T true pp qq a1 (ae.new P _ _ hT) (E _ _ D.TIz D.TIi1 D.TIi2 m) ⟨_,_,E _ _ D.TOz D.TOi1 D.TOi2 l⟩ a3 a4 a5 λc o d e=>E c o (λq=>d (by simp[q])) (λq=>d (by simp[q])) (λq=>d (by simp[q])) e
theorem Br:typeLookup (.type "zip") "__len__" = pure none:=by rw[typeLookup_type,builtinLookup_eq_fast];kernel_rfl
theorem Am:typeLookup (.type "zip") "__length_hint__" = pure none:=by rw[typeLookup_type,builtinLookup_eq_fast];kernel_rfl
theorem BQ {A:Zc}{R:Result->Wx->Prop}{s:Wx}{z TI TO m p a b S:Za}{xs ys:WD}{H0 H:Hp}{i:Wy} (hh:A.in1.handled=none) (D:ZipApart z TI TO m p a b) (Y:SqL X.K H0 a xs) (M:SqL X.K H0 b ys) (k:H0 S=none) (hsz:min xs.length ys.length<=1000000)
  (I:Inv X pins σ H s) (C:∀c∈[z,TI,TO,m,p],cg X pins H c) (s0:ae H0 H) (hS:H S=some (.lst [])) (E:IsPair s.heap TI (.ref m) (.ref p)) (g:∃u v,IsPair s.heap TO u v) (h1:s.heap.IsListIter m a 0) (h2:s.heap.IsListIter p b 0) (hz:IsZip s.heap z TI TO .none)
  (U:∀s' H' acc,Inv X pins σ H' s'->ae H0 H'->H' S=some (.lst acc)->acc.length=min xs.length ys.length->tF H0 H' xs ys acc->R (.ok (.ret i)) s') :
  Zh (model X.prog X.w) A.in1 (Yu (.ref S) (.ref z) i)
   (λfin s'=>match fin with | .done f=>R (.ok f) s' | .again c'=>c'.quiet=true/\codeAny (model X.prog X.w) A c' R s') (λe s'=>R (.error e) s') s:=by
 have d:∀{c:Za},c∈[z,TI,TO,m,p]->c≠S:=λ{c} l e=>by
  have:=(C c l).1;rw[e,hS]at this;cases this
 have J:S≠z:=(d (by simp)).symm;have hT:s.TypeIs (.ref z) "zip" :=⟨_,hz,rfl⟩;unfold Yu;refine Ww (wpAny_typeOf hT ?_);have T:YW (.ref S) (.ref z)=false:=by simp[YW,J]
 have Q:(Value.type "zip" == Value.type "list")=false:=by decide
 have Z:(Value.type "zip" == Value.type "tuple")=false:=by decide
 simp only[T,Q,Z,VC,Ug,if_false];refine Ww (wpAny_pyIter_zip hz ?_);refine Ww (Ws ?_);unfold Builtin.List.listLengthHint;refine Ww (wpAny_specialOf hT Br ?_);show Zh _ A.in1 (specialOf (Value.ref z) (Yk "__length_hint__") >>= _) _ _ _;refine Ww (wpAny_specialOf hT Am ?_);refine Wv ?_;show Zh _ A.in1 (rule "list.extend.makes-room" >>= λ_=>Builtin.List.listTouch (.ref S) >>= λ_=>
  again (.builtin "list.extend.loop" ⟨[.ref S,.ref z,i],[]⟩)) _ _ _
 refine Ww (wpAny_rule ?_);refine Ww ?_;show Zh _ A.in1 (updateSeq S (·.push .none) >>= λ_=>updateSeq S (·.pop)) _ _ _
 obtain⟨_,_,_,rr,_,L⟩:=I.Cd hS;cases rr;refine Ww (wpAny_updateSeq L rfl ?_);have N:=I.BK (jV:=[.none]) (ys:=[.non]) (t':=s.toks) (f:=λz=>z.push .none) hS L (by simp) (.cons (show RelV .non .none from rfl) .nil) (by show 1<=Zg;decide);have h:=Heap.get?_update_self (Y8 (·.push Value.none)) L rfl
 refine wpAny_updateSeq (hz:=by seq_fits) h rfl ?_;obtain⟨_,P,_,G,_,W⟩:=N.Cd ab;have B:∃q,P=[q]:=by
  cases G with
  | cons _ t=>cases t;exact⟨_,rfl⟩
 obtain⟨_,rfl⟩:=B;have O:=N.BK (jV:=[]) (ys:=[]) (t':=s.toks) (f:=λz=>z.pop) ab W (by simp) .nil (T2 _);have r:∀c o,c≠S->s.heap.get? c=some o->((s.heap.update S (Y8 (·.push Value.none))).update S (Y8 (·.pop))).get? c=some o:=λc o n e=>(Yn _ _ (YQ n)).trans ((Yn _ _ (YQ n)).trans e)
 obtain⟨u,v,g⟩:=g;refine Wv ⟨plainId_quiet F.plain_extend_loop _,Gi hh D Y M k hsz U _ 0 _ _ [] rfl (T2 _) O (λc l=>⟨by rw[ao (d l),ao (d l)];exact(C c l).1,(C c l).2⟩) (aA k (aA k s0)) ab rfl (λj x y hj=>by simp at hj) (r _ _ (d (by simp)) E) ⟨u,v,r _ _ (d (by simp)) g⟩ (h1.at λo e=>r _ o (d (by simp)) e) (h2.at λo e=>r _ o (d (by simp)) e) (.inl (r _ _ (d (by simp)) hz))⟩
def F5 (K:Wz):WD->Hp->VK->Prop:=λvs H Q=>∃(a b:Za) (xs ys:WD),vs=[.ref a,.ref b]/\SqL K H a xs/\SqL K H b ys/\min xs.length ys.length<=1000000/\∀(D:Za) (acc:WD) (H':Hp),H D=none->ae H H'->H' D=some (.lst acc)->acc.length=min xs.length ys.length->tF H H' xs ys acc->Q (.ref D) H'
theorem B8 {k:Nat}{ea l:Expr}{ta:TA}{p1 p2 pos vz:Pos} (hr:bG k X.A) (C:Gl X "list") (G:X.mg "list" = none) (hg:Gl X "zip") (hm:X.mg "zip" = none) (U:PA X [ea,l] ta)
  (S:Zi [ea,l] X.env=(false,eval ea X.env)::Zi [l] X.env:=by rfl) (E:(backTo vz (Zi [l] X.env)).any (·.1)=false:=by rfl) :
  PE X (.Call (.Name "list" p1) [.Call (.Name "zip" p2) [ea,l] [] vz] [] pos) (λσ H Q=>ta σ H λvs H1=>F5 X.K vs H1 Q):=by
 intro d s σ H Q I h;refine wpAny_Call_Name_kw (fm I C G i0 ?_ (by decide) (by decide));refine Yp ?_ rfl rfl;show Zh _ _ (spliced ((false,eval (.Call (.Name "zip" p2) [ea,l] [] vz) X.env)::backTo pos (Zi [] X.env))) _ _ s;refine YE (Call_ (fm I hg hm boot_zip (Yp (thn (U vz d s σ H _ I h) λ_ s1 ⟨vs,H1,u,x,Z⟩=>?_) S E)));obtain⟨a,b,_,ys,e,R,r,B,q⟩:=Z;subst e;obtain⟨_,_,rfl,x,r2⟩:=vals2 x;cases x;cases r2;obtain⟨_,_,O,_⟩:=u.list R;obtain⟨_,_,v,_⟩:=u.list r;have la : @LT.lt Nat _ a s1.heap.objs.size:=by obtain⟨_,e,_⟩:=O.isList;exact Y2 e
 have lb : @LT.lt Nat _ b s1.heap.objs.size:=by obtain⟨_,e,_⟩:=v.isList;exact Y2 e
 refine call_zip_2 O.isList v.isList λh' T y w W h2 _ hk=>?_;have D:ZipApart (s1.heap.objs.size+4) (s1.heap.objs.size+2) (s1.heap.objs.size+3) s1.heap.objs.size (s1.heap.objs.size+1) a b:=by constructor <;> (show((_:Nat)≠_)) <;> lia
 have M:Inv X d σ H1 { s1 with heap:=h' }:=u.kept (t':=s1.toks) hk;show Zh _ _ (spliced []) _ _ _;refine YS ?_;have N:∀c∈[s1.heap.objs.size+4,s1.heap.objs.size+2,s1.heap.objs.size+3,s1.heap.objs.size,s1.heap.objs.size+1],s1.heap.objs.size<=c/\c<h'.objs.size:=λc m=>by
  simp only[TM,UR,or_false]at m;rcases m with rfl | rfl | rfl | rfl | rfl <;> (constructor <;> (show((_:Nat)<=_)) <;> lia)
 refine callType_codes (Q₁:=λt j=>t = .ref h'.objs.size/\j={ s1 with heap:=h'.push { cls:=.type "list",data:=.seq #[] } }) F.called_list (F.typeCall_list_1 _) F.entry_list_init (code_list_new _ ⟨rfl,rfl⟩) λt j n=>?_;obtain⟨rfl,rfl⟩:=n;have hS:(h'.push { cls:=.type "list",data:=.seq #[] }).get? h'.objs.size=some { cls:=.type "list",data:=.seq #[] }:=Y1 _ rfl;have L:∀c o,h'.get? c=some o->(h'.push { cls:=.type "list",data:=.seq #[] }).get? c=some o:=λc o e=>Wu _ e;have i:H1 h'.objs.size=none:=M.hok.fresh (Tw _);have I3:Inv X d σ (upd H1 h'.objs.size (.lst [])) { s1 with heap:=h'.push { cls:=.type "list",data:=.seq #[] } }:=M.pV (t':=s1.toks) (wr:=[]) (λb hb=>by cases hb) (λb o _ e=>L b o e) (Tw _) ⟨T2 _,[],0,.nil,hS⟩;refine⟨⟨_,hS,rfl⟩,F.args_list_init_2 _ _,?_⟩;show Zh _ X.A.in1.in1 (do let old <-Builtin.List.listItems (.ref h'.objs.size);Builtin.List.listUpdate (.ref h'.objs.size) (λ_=>#[]);letGo old.toList.reverse;Yu (.ref h'.objs.size) (.ref (s1.heap.objs.size+4)) .none) _ _ _;refine Ww ?_;unfold Builtin.List.listItems;refine Ww (wpAny_seqItems hS rfl (Wv ?_));show Zh _ X.A.in1.in1 (updateSeq h'.objs.size (λ_=>#[]) >>= λ_=>letGo (#[]:WG).toList.reverse >>= λ_=>Yu (.ref h'.objs.size) (.ref (s1.heap.objs.size+4)) .none) _ _ _;refine Ww (wpAny_updateSeq hS rfl ?_);have I4:=I3.BK (jV:=[]) (ys:=[]) (t':=s1.toks) (f:=λ_=>#[]) ab hS rfl .nil (T2 _);have p:∀c∈[s1.heap.objs.size+4,s1.heap.objs.size+2,s1.heap.objs.size+3,s1.heap.objs.size,s1.heap.objs.size+1],∀o,h'.get? c=some o->((h'.push { cls:=.type "list",data:=.seq #[] }).update h'.objs.size (Y8 λ_=>#[])).get? c=some o:=λc m o e=>(Yn _ _ (Vl (N c m).2)).trans (L c o e);refine Ww (wpAny_letGo ?_);refine BQ (A:=X.A.in1) (H0:=H1) hr.hd D R r i B I4 (λc m=>?_) (aA i (ae.new i)) ab (p _ (by simp) _ y) ⟨_,_,p _ (by simp) _ w⟩ (W.at λo e=>p _ (by simp) o e) (h2.at λo e=>p _ (by simp) o e) (p _ (by simp) _ T) λ_ P J Y s0 z hl V=>⟨rfl,.ref _,P,Y,rfl,q _ J P i s0 z hl V⟩;have g:=N c m;refine u.rJ g.1 ?_;rw[ao (T5 g.2),ao (T5 g.2)];exact u.hok.fresh g.1
end
end L2
namespace L2
open PySem PySem.Spec PyProof.Rows PySem.W
section
variable {X:Cx}{pins:List (Za×Obj)}{σ:St}{H:Hp}{s:Wx}
end
end L2
namespace L2
open PySem PySem.Spec PyProof.Rows
mutual
def rG:Zf->Bool
 | .str _=>true
 | .tuple xs=>lH xs
 | _=>false
def lH:WI->Bool
 | []=>true
 | x::r=>rG x && lH r
end
mutual
def wY (w:Ze):Zf->Int
 | .str x=>hashStr w x
 | .tuple xs=>reduceHash (Builtin.Tuple.tupleHashOf (tI w xs))
 | _=>0
def tI (w:Ze):WI->List Int
 | []=>[]
 | x::r=>wY w x::tI w r
end
mutual
def AG:Zf->Nat
 | .str _=>1
 | .tuple xs=>xM xs+1
 | _=>0
def xM:WI->Nat
 | []=>0
 | x::r=>AG x+xM r
end
section
variable {P:Zd}{w:Ze}{E:Wy->Wx->Prop}
mutual
theorem sZ:∀(d:Zf) (v:Wy) (A:Zc) (s:Wx) (as:WH) (Q:Int->Wx->Prop),rG d=true->Reads s.heap v d as->A.units+d.depth<cLine ->
  Q (wY w d) { s with toks:=s.toks+AG d }->Zh (model P w) A (pyHash v) Q E s
 | .str x,_,A,s,_,Q,_,r,_,h=>by cases r;exact wpAny_pyHash_str h
 | .tuple xs,_,A,s,_,Q,ht,r,hu,h=>by
  cases r with
  | @tuple a o vs n _ as h1 h2 h3 h4=>
   rw[Yj]at hu;have c:A.units<cLine:=by lia
   refine PySem.W.pyHash_slot (T:= "tuple") (B:=Builtin.«tuple.__hash__») ⟨o,h1,h2⟩ F.slot_tuple_hash F.entry_tuple_hash (F.args_tuple_hash_1 _) (beq_builtin_none _) (.inr c) ?_;show Zh _ _ (Builtin.Tuple.tupleItemsOf (.ref a) >>= _) _ _ s;refine Ww (wpAny_tupleItemsOf h1 h3 (Ww ?_));rw[<-Vd];refine vQ xs vs.toList A.in1 s _ #[] _ (by simpa[rG]using ht) h4 (by simp only[Around.in1_units];lia) λb e=>?_;show Zh _ _ (retInt (Builtin.Tuple.tupleHashOf b.toList)) _ _ _;rw[e];exact Ww (wpAny_mkInt (Wv ⟨_,_,rfl,by simpa[wY,AG,Nat.add_assoc]using h⟩))
 | .none,_,_,_,_,_,ht,_,_,_ | .bool _,_,_,_,_,_,ht,_,_,_ | .int _,_,_,_,_,_,ht,_,_,_ | .list _,_,_,_,_,_,ht,_,_,_ | .dict _,_,_,_,_,_,ht,_,_,_=>by simp[rG]at ht
theorem vQ:∀(ds:WI) (vs:WJ) (A:Zc) (s:Wx) (as:WH) (b:Array Int) (Q:Array Int->Wx->Prop),lH ds=true->ReadsAll s.heap vs ds as->A.units+Y3 ds<cLine ->
  (∀b':Array Int,b'.toList=b.toList++tI w ds->Q b' { s with toks:=s.toks+xM ds }) ->
  Zh (model P w) A (forIn vs b λx r=>do let h <-pyHash x;pure PUnit.unit;pure (ForInStep.yield (r.push h))) Q E s
 | [],_,A,s,_,b,Q,_,r,_,h=>by
  cases r;exact Wv (h b (by simp[tI]))
 | d::ds,_,A,s,_,b,Q,ht,r,hu,h=>by
  cases r with
  | cons e a=>
   simp only[lH,Ub]at ht;rw[Y3]at hu;rw[U3];refine Ww (Ww (sZ d _ A s _ _ ht.1 e (by lia) (Ww (Wv (Wv ?_)))));refine vQ ds _ A { s with toks:=s.toks+AG d } _ _ Q ht.2 a (by lia) λb' c=>?_;have:=h b' (by rw[c];simp[tI]);simpa[xM,Nat.add_assoc]using this
end
mutual
theorem qB:∀(n:Nat) (d:Zf) (v:Wy) (A:Zc) (s:Wx) (as:WH) (Q:Bool->Wx->Prop),rG d=true->Reads s.heap v d as->d.depth<=n->Q true s->Zh (model P w) A (eqIsQuiet n v) Q E s
 | n,.str x,_,A,s,_,Q,_,r,_,h=>by
  cases r;rw[eqIsQuiet_byValue n (by rfl)];exact Wv h
 | 0,.tuple xs,_,_,_,_,_,_,_,hn,_=>by rw[Yj]at hn;lia
 | n+1,.tuple xs,_,A,s,_,Q,ht,r,hn,h=>by
  cases r with
  | @tuple a o vs m _ as h1 h2 h3 h4=>
   have hT:s.TypeIs (.ref a) "tuple" :=⟨o,h1,h2⟩;rw[Yj]at hn;unfold eqIsQuiet;refine Ww (wpAny_specialOf hT F.slot_tuple_eq.lookup ?_);show Zh _ _ (isInstance (.ref a) (.type "tuple") >>= _) _ _ s;refine Ww (wpAny_isInstance hT isSubtype_tuple_tuple ?_);simp only[Bool.not_true,Ug,if_false];refine Ww (wpAny_seqItems h1 h3 (Ww ?_));show Zh _ _ (forIn vs _ _) _ _ s;rw[<-Vd];refine uH n xs vs.toList A s _ _ (by simpa[rG]using ht) h4 (by lia) ?_;exact Wv h
 | _,.none,_,_,_,_,_,ht,_,_,_ | _,.bool _,_,_,_,_,_,ht,_,_,_ | _,.int _,_,_,_,_,_,ht,_,_,_ | _,.list _,_,_,_,_,_,ht,_,_,_ | _,.dict _,_,_,_,_,_,ht,_,_,_=>by simp[rG]at ht
theorem uH:∀(n:Nat) (ds:WI) (vs:WJ) (A:Zc) (s:Wx) (as:WH) (Q:Option Bool×Unit->Wx->Prop),lH ds=true->ReadsAll s.heap vs ds as->Y3 ds<=n->Q (none,()) s ->
  Zh (model P w) A (forIn vs ((none,()):Option Bool×Unit) λy r=>do
   let b <-eqIsQuiet n y
   if (!b)=true then pure (ForInStep.done (some false,()))else pure (ForInStep.yield (none,()))) Q E s
 | n,[],_,A,s,_,Q,_,r,_,h=>by
  cases r;exact Wv h
 | n,d::ds,_,A,s,_,Q,ht,r,hn,h=>by
  cases r with
  | cons c a=>
   simp only[lH,Ub]at ht;rw[Y3]at hn;rw[U3];refine Ww (Ww (qB n d _ A s _ _ ht.1 c (by lia) ?_));simp only[Bool.not_true,Ug,if_false];refine Wv ?_;exact uH n ds _ A s _ Q ht.2 a (by lia) h
end
mutual
theorem wU {h h':Heap}{e:Za}{o:Obj}{es:Array DictEntry}{ep:Nat} (f:h.get? e=some o) (b:o.data = .dict es ep) (c:Yw e h h'):∀(d:Zf) (v:Wy) (as:WH),rG d=true->Reads h v d as->Reads h' v d as
 | .str x,_,_,_,r=>by cases r;exact .str _ _
 | .tuple xs,_,_,ht,r=>by
  cases r with
  | @tuple a o' vs n _ as h1 h2 h3 h4=>
   have g:a≠e:=λz=>by
    rw[z,f]at h1;cases h1;rw[b]at h3;cases h3
   exact .tuple ((c.2 a g).trans h1) h2 h3 (oX f b c xs vs.toList _ (by simpa[rG]using ht) h4)
 | .none,_,_,ht,_ | .bool _,_,_,ht,_ | .int _,_,_,ht,_ | .list _,_,_,ht,_ | .dict _,_,_,ht,_=>by simp[rG]at ht
theorem oX {h h':Heap}{e:Za}{o:Obj}{es:Array DictEntry}{ep:Nat} (c:h.get? e=some o) (a:o.data = .dict es ep) (b:Yw e h h'):∀(ds:WI) (vs:WJ) (as:WH),lH ds=true->ReadsAll h vs ds as->ReadsAll h' vs ds as
 | [],_,_,_,r=>by cases r;exact .nil
 | d::ds,_,_,ht,r=>by
  cases r with
  | cons g f=>
   simp only[lH,Ub]at ht;exact .cons (wU c a b d _ _ ht.1 g) (oX c a b ds _ _ ht.2 f)
end
end
structure lR (K:Type) [DecidableEq K] where
 enc:K->Zf
 ok:K->Prop
 td:∀k,rG (enc k)=true
 dep:∀k,(enc k).depth<=8
 lay:∀k,ok k->(enc k).canLay0=true
 eqv:∀x y,ok x->ok y->Y9 (enc x) (enc y)=decide (x=y)
def oU {K:Type} [DecidableEq K] (P:Zd) (w:Ze) (C:lR K):HeapKind P w K where
 is:=λh k a=>C.ok k/\∃as,Reads h (.ref a) (C.enc k) as
 hash:=λk=>wY w (C.enc k)
 draws:=λk=>AG (C.enc k)
 room:=λA=>A.units+8<cLine
 inj:=λ{h a x y} hx hy=>by
  obtain⟨ox,as,rx⟩:=hx;obtain⟨oy,bs,ry⟩:=hy;have e:=SeqAt.Reads.unique _ _ _ _ _ (C.lay x ox) rx ry;have h1:=C.eqv x y ox oy;have h2:=C.eqv x x ox ox;rw[<-e,h2,Zk rfl]at h1;exact Zm h1.symm
 keeps:=λ{h h' k a d o es ep} hk ho hd hs=>⟨hk.1,hk.2.elim λas r=>⟨as,wU ho hd hs _ _ _ (C.td k) r⟩⟩
 pyHash:=λ{A E s k a Q} hu hk h=>by
  obtain⟨_,as,r⟩:=hk;exact sZ _ _ A s as Q (C.td k) r (by have:=C.dep k;lia) h
 eqBool:=λ{A E s x y a b Q} hu hx hy h=>by
  obtain⟨ox,as,rx⟩:=hx;obtain⟨oy,bs,ry⟩:=hy;refine SeqAt.eqBoolOverData P w A E s (.ref a) (.ref b) _ _ as bs Q rx ry (C.lay x ox) (C.lay y oy) (by have:=C.dep x;have:min (C.enc x).depth (C.enc y).depth<=(C.enc x).depth:=Nat.min_le_left _ _;lia) ?_;rw[C.eqv x y ox oy];exact h
 quiet:=λ{A E s k a Q} hk h=>by
  obtain⟨_,as,r⟩:=hk;exact qB 8 _ _ A s as Q (C.td k) r (C.dep k) h
section
variable {K:Type} [DecidableEq K]
abbrev KPs (kvs:List (K×Za×V)) (xs:List (K×Za×Wy)):Prop:=Paired (λ(p:K×Za×V) (q:K×Za×Wy)=>p.1=q.1/\p.2.1=q.2.1/\RelV p.2.2 q.2.2) kvs xs
def valN (kvs:List (K×Za×V)) (k:K):Option V:=(kvs.find? λx=>decide (x.1=k)).map (·.2.2)
def putN (kvs:List (K×Za×V)) (k:K) (b:Za) (v:V):List (K×Za×V):=if (valN kvs k).isSome=true then kvs.map (λx=>if x.1=k then(x.1,x.2.1,v)else x)else kvs++[(k,b,v)]
theorem KPs.val {kvs:List (K×Za×V)}{xs:List (K×Za×Wy)} (r:KPs kvs xs) (k:K):kB (valN kvs k) ((atKey xs k).map (·.2)):=by
 induction r with
 | nil=>exact True.intro
 | @cons p q ps qs h t ih=>
  obtain⟨c,_,b⟩:=h;unfold valN atKey;rw[UO,UO,c];by_cases a:q.1=k
  ·rw[Zk a];exact b
  ·rw[Zl a];exact ih
theorem KPs.length {kvs:List (K×Za×V)}{xs:List (K×Za×Wy)} (r:KPs kvs xs):kvs.length=xs.length:=by
 induction r with
 | nil=>rfl
 | cons _ _ ih=>rw[TR,TR,ih]
theorem KPs.snoc {kvs:List (K×Za×V)}{xs:List (K×Za×Wy)} (r:KPs kvs xs) (k:K) (b:Za) {v:V}{u:Wy} (a:RelV v u):KPs (kvs++[(k,b,v)]) (xs++[(k,b,u)]):=by
 induction r with
 | nil=>exact .cons ⟨rfl,rfl,a⟩ .nil
 | cons h t c=>exact .cons h c
theorem KPs.put {kvs:List (K×Za×V)}{xs:List (K×Za×Wy)} (r:KPs kvs xs) (k:K) (b:Za) {v:V}{u:Wy} (f:RelV v u):KPs (putN kvs k b v) (storedH xs k b u):=by
 unfold putN storedH;have e:=(r.val k).Ej;rw[Option.isSome_map]at e;rw[e]
 split
 ·clear e;rename_i h;clear h
  induction r with
  | nil=>exact .nil
  | @cons p q ps qs h t ih=>
   rw[TX,TX];refine .cons ?_ ih;unfold putAt;obtain⟨d,c,g⟩:=h;rw[d];by_cases a:q.1=k
   ·rw[Zn a,Zn a];exact⟨rfl,c,f⟩
   ·rw[Zo a,Zo a];exact⟨d,c,g⟩
 ·exact r.snoc k b f
def dNf (w:Ze) (C:lR K) (a:Za) (kvs:List (K×Za×V)):Heap->Prop:=λh=>kvs.length<=Zg/\(a == sysModules)=false/\∃xs:List (K×Za×Wy),KPs kvs xs /\
 ∃o es ep,h.get? a=some o/\o.ExactDict/\o.data = .dict es ep/\es.toList=xs.map (λx=>(⟨wY w (C.enc x.1),.ref x.2.1,x.2.2⟩:DictEntry))/\(xs.map (·.1)).Nodup
def dN (w:Ze) (C:lR K) (a:Za) (kvs:List (K×Za×V)):HO:=.ext (dNf w C a kvs)
def qY (Kf:Wz) (C:lR K) (H:Hp) (kvs:List (K×Za×V)):Prop:=∀x∈kvs,C.ok x.1/\Den Kf H (.ref x.2.1) (C.enc x.1)
theorem GY {P:Zd}{w:Ze}{C:lR K}{H:Hp}{h:Heap}{a:Za}{kvs:List (K×Za×V)} (x:dNf w C a kvs h):bO P w H h a (dN w C a kvs):=by
 refine⟨x,?_,λ_ _ y k=>?_⟩
 ·obtain⟨_,_,_,_,o,_,_,e,_⟩:=x;exact⟨o,e⟩
 ·obtain⟨z,l,b,r,o,c,d,e,q⟩:=y;exact⟨z,l,b,r,o,c,d,k o e,q⟩
section
variable {X:Cx}{pins:List (Za×Obj)}{σ:St}{H:Hp}{s:Wx}{C:lR K}{a:Za}{kvs:List (K×Za×V)}
theorem G4 (I:Inv X pins σ H s) (e:H a=some (dN X.w C a kvs)) (d:qY X.K C H kvs):kvs.length<=Zg/\(a == sysModules)=false/\∃xs,KPs kvs xs/\s.heap.DictOfH (oU X.prog X.w C) a xs:=by
 obtain⟨z,l,xs,r,o,f,g,c,u,n,A,v⟩:=(I.hok a _ e).1;refine⟨z,l,xs,r,o,f,g,c,u,n,A,λx b=>?_,v⟩;have:∀{l:List (K×Za×V)}{m:List (K×Za×Wy)},KPs l m->qY X.K C H l->∀x∈m,(oU X.prog X.w C).is s.heap x.1 x.2.1:=by
  intro l m q
  induction q with
  | nil=>intro _ x b;cases b
  | @cons p q ps qs h t ih=>
   intro d x b;rcases TM.mp b with e | b
   ·subst e;obtain⟨j,i,_⟩:=h;have c:=d p (.head _);rw[j,i]at c;exact⟨c.1,I.reads c.2 rfl⟩
   ·exact ih (λy k=>d y (.tail _ k)) x b
 exact this r d x b
def Jy (w:Ze) (Kf:Wz) (C:lR K) (H:Hp) (a:Za) (y:V) (o:Option V):Prop:=∃kvs k b,H a=some (dN w C a kvs)/\qY Kf C H kvs/\y = .ref b/\C.ok k/\Den Kf H (.ref b) (C.enc k)/\o=valN kvs k
def NJ (w:Ze) (Kf:Wz) (C:lR K) (H:Hp) (a:Za) (y v:V) (H':Hp):Prop:=∃kvs k b,H a=some (dN w C a kvs)/\qY Kf C H kvs/\y = .ref b/\C.ok k/\Den Kf H (.ref b) (C.enc k)/\kvs.length<Zg/\H' = upd H a (dN w C a (putN kvs k b v))
theorem zw (kvs:List (K×Za×V)) (k:K) (b:Za) (v:V):(putN kvs k b v).length<=kvs.length+1:=by
 unfold putN
 split
 ·rw[Tt];lia
 ·rw[TJ];exact Tw _
variable {A:Zc}{E:Wy->Wx->Prop}{y v:V}{u r:Wy}{o:Option V}
theorem Lq {d:V}{Q:Wy->Wx->Prop} (v:A.units+10<cLine) (I:Inv X pins σ H s) (g:Jy X.w X.K C H a y o) (t:RelV y u) (m:RelV d r) (h:∀w' s',Inv X pins σ H s'->RelV (o.getD d) w'->Q w' s') :
  Zh (model X.prog X.w) A (call (.builtin "dict.get") [.ref a,u,r]) Q E s:=by
 obtain⟨_,k,b,e,n,rfl,p,q,l⟩:=g;cases(show u=Value.ref b from t);obtain⟨z,j,i,c,f⟩:=G4 I e n;refine call_meetsIn PySem.F.slot_dict_get f.typeIs PySem.F.entry_dict_get (PySem.F.args_dict_get_3 _ _ _) (meetsH_dict_get_default (oU X.prog X.w C) a b j r) ⟨(by show A.units+1+8<cLine;lia),k,i,⟨p,I.reads q rfl⟩,f,h _ _ (I.tok _) ?_⟩;rw[l];exact(c.val k).getD m
theorem ED {Q:Wy->Wx->Prop} (B:A.units+10<cLine) (I:Inv X pins σ H s) (g:Jy X.w X.K C H a y (some v)) (x:RelV y u) (h:∀w' s',Inv X pins σ H s'->RelV v w'->Q w' s') :
  Zh (model X.prog X.w) A (getItem (.ref a) u) Q E s:=by
 obtain⟨_,k,b,e,i,rfl,r,m,l⟩:=g;cases(show u=Value.ref b from x);obtain⟨z,_,n,f,t⟩:=G4 I e i;obtain⟨w',j,c⟩:=kB.some_of (v:=v) (o:=(atKey n k).map (·.2)) (by rw[l];exact f.val k)
 obtain⟨p,q,d⟩:=Option.map_eq_some_iff.mp j;refine wpAny_getItem_heap (knd:=oU X.prog X.w C) (by show A.units+1+8<cLine;lia) ⟨r,I.reads m rfl⟩ t q ?_;rw[d];exact h w' _ (I.tok _) c
theorem Eh {H':Hp}{Q:Unit->Wx->Prop} (N:A.units+10<cLine) (I:Inv X pins σ H s) (g:NJ X.w X.K C H a y v H') (M:RelV y u) (D:RelV v r) (h:∀s',Inv X pins σ H' s'->Q () s') :
  Zh (model X.prog X.w) A (setItem (.ref a) u r) Q E s:=by
 obtain⟨d,k,b,e,j,rfl,B,p,l,rfl⟩:=g;cases(show u=Value.ref b from M);obtain⟨z,J,_,c,L⟩:=G4 I e j;refine wpAny_setItem_heap (knd:=oU X.prog X.w C) (hsz:=by rw[<-c.length];exact z) (by show A.units+1+8<cLine;lia) ⟨B,I.reads p rfl⟩ L λ_ f m=>h _ ?_;obtain⟨q,n,o,i,x,t,G,_,F⟩:=f;exact Cf I (by rw[e];exact True.intro) m ⟨q,i⟩ (GY ⟨by have:=zw d k b v;lia,J,_,c.put k b D,q,n,o,i,x,t,G,F⟩)
end
section
variable {X:Cx}{C:lR K}{o i e f value:Expr}{pos pos' apos cT:Pos}{td ty tx tv:TE}
def LX (w:Ze) (C:lR K):TE:=λ_ H Q=>∀p,H p=none->Q (.ref p) (upd H p (dN w C p []))
theorem Ij:PE X (.Dict [] [] pos) (LX X.w C):=λ_ s _ H Q I h=>
 wpAny_Dict_empty ⟨.ref s.heap.objs.size,_,I.laid (a:=s.heap.objs.size) (o:=dN X.w C s.heap.objs.size []) (t':=s.toks) (λ_ _ q=>Wu _ q) (Tw _)
  (GY ⟨T2 _,by have:=I.big;simpa using(Vl this),[],.nil,_,#[],0,Y1 _ rfl,⟨rfl,rfl,rfl⟩,rfl,rfl,Vj⟩),rfl,h _ (I.hok.fresh (Tw _))⟩
def Mv (w:Ze) (Kf:Wz) (C:lR K) (td ty tx:TE):TE:=λσ H Q=>td σ H λx H1=>∃a kvs,x = .ref a/\H1 a=some (dN w C a kvs)/\ty σ H1 λy H2=>tx σ H2 λz H3=>∃o,Jy w Kf C H3 a y o/\Q (o.getD z) H3
theorem DU (O:X.A.units+10<cLine) (J:PE X o td) (P:PE X e ty) (N:PE X f tx) (m:M2 X o "get" apos e f cT):PE X (.Call (.Attribute o "get" apos) [e,f] [] cT) (Mv X.w X.K C td ty tx):=by
 intro c s j H Q I h;refine wpAny_Call_method m.base m.few m.line PySem.F.plainAttrs_dict PySem.F.slot_dict_get PySem.F.type_dict_get (thn (J c s j H _ I h) λu U ⟨x,S,n,M,a,_,G,d,t⟩=>?_);subst G;obtain rfl:u=Value.ref a:=M;obtain⟨_,_,_,_,k,_,_,p,l,_⟩:=(n.hok a _ d).1;refine⟨⟨k,p,l.1⟩,λb q=>?_,?_⟩
 ·cases q;exact⟨k,p,l.2.1⟩
 rw[m.Gj];refine YM rfl (Calls.evalArgs_plain (YE (thn (P c U j S _ n t) λ_ D ⟨y,r,R,V,T⟩=>
  YE (thn (N c D j r _ R T) λ_ _ ⟨z,L,v,B,_,g,q3⟩=>YS ?_))))
 exact Lq O v g V B λ_ _ E i=>⟨_,L,E,i,q3⟩
def Oc (w:Ze) (Kf:Wz) (C:lR K) (td ty:TE):TE:=λσ H Q=>td σ H λx H1=>ty σ H1 λy H2=>∃a v,x = .ref a/\Jy w Kf C H2 a y (some v)/\Q v H2
theorem HG {w0:Ze}{K0:Wz} (l:X.w=w0) (hK:X.K=K0) (B:X.A.units+10<cLine) (p:PE X o td) (hi:PE X i ty) (k:OS i):PE X (.Subscript o i pos) (Oc w0 K0 C td ty):=by
 subst l hK;intro b s f H Q I h;refine Jb PySem.F.slot_dict_getitem.lookup k (thn (p b s f H _ I h) λu J ⟨x,D,E,r,m⟩=>thn (hi b J f D _ E m) λ_ _ ⟨y,j,e,L,a,v,q,g,G⟩=>?_);subst q;obtain rfl:u=Value.ref a:=r;obtain⟨_,_,_,d,_⟩:=id g;obtain⟨_,_,_,_,t,_,_,M,z,_⟩:=(e.hok a _ d).1;exact⟨⟨t,M,z.1⟩,ED B e g L λ_ _ n c=>⟨v,j,n,c,G⟩⟩
def N7 (w:Ze) (Kf:Wz) (C:lR K) (td ty tv:TE):TS:=λD σ H=>tv σ H λv H1=>td σ H1 λx H2=>ty σ H2 λy H3=>∃a H4,x = .ref a/\NJ w Kf C H3 a y v H4/\D.nx σ H4
theorem GZ (t:X.A.units+10<cLine) (m:PE X o td) (hi:PE X i ty) (M:PE X value tv) (e:swapsWith value (some (.Subscript o i pos')) pos.line X.env=pure false) :
  PS X (.Assign [.Subscript o i pos'] value pos) (N7 X.w X.K C td ty tv):=by
 intro b s c H D I h;refine wpAny_Assign_Subscript (thn (M b s c H _ I h) λr J ⟨v,E,F,z,f⟩=>thn (m b J c E _ F f) λu l ⟨x,d,B,p,G⟩=>thn (hi b l c d _ B G) λ_ _ ⟨y,_,j,L,a,q,n,g,q3⟩=>?_) e;subst n;obtain rfl:u=Value.ref a:=p;exact Eh t j g L z λ_ k=>⟨c,q,k,q3⟩
end
end
end L2
namespace L2
open PySem PySem.Spec PyProof.Rows PySem.W
def BL (h:Heap) (d:Za) (es:Array DictEntry) (ep:Nat):Prop:=∃o,h.get? d=some o/\o.ExactDict/\o.data = .dict es ep
theorem BL.mono {h h':Heap}{d:Za}{es:Array DictEntry}{ep:Nat} (x:BL h d es ep) (k:∀o,h.get? d=some o->h'.get? d=some o):BL h' d es ep:=let ⟨o,e,r⟩:=x;⟨o,k o e,r⟩
section
variable {P:Zd}{w:Ze}{A:Zc}{E:Wy->Wx->Prop}{s:Wx}{d it:Za}{es:Array DictEntry}{ep i:Nat}
theorem Ey {α:Type}{Q:α->Wx->Prop} (c:A.handled=none) (h:∀h' e,(∀b o,s.heap.get? b=some o->h'.get? b=some o)->(∃o,h'.get? e=some o/\o.cls = .type "StopIteration")->E (.ref e) { s with heap:=h' }) :
  Zh (model P w) A (newExc (.type "StopIteration") [] >>= λe=>(raiseNew e:Sem α)) Q E s:=by
 refine Ww (Gz λd e _ k _ a _=>?_);unfold raiseNew;refine Ww (wpAny_handled ?_);rw[c];exact Ww (Wv (wpAny_throw (h d e k ⟨_,a,rfl⟩)))
theorem za {Q:Option Wy->Wx->Prop} (B:A.handled=none) (a:s.heap.IsKeyIter it d i es.size ep) (r:BL s.heap d es ep)
  (p:∀e h',es[i]? = some e->h'.IsKeyIter it d (i+1) es.size ep->Yw it s.heap h'->Q (some e.key) { s with heap:=h' }) (z:es[i]? = none->∀h',Heap.ExtBut it s.heap h'->Q none { s with heap:=h' }):Zh (model P w) A (pyNext (.ref it)) Q E s:=by
 have hT:=a.typeIs;obtain⟨o,j,C,h⟩:=a;obtain⟨_,g,_,f⟩:=r;have x:Builtin.Dict_items.ownsTuple "dict_keyiterator" = false:=by decide
 have c:¬ ((i:Int)<0):=by lia
 unfold pyNext
 (refine Ww (wpAny_attempt (wpAny_callSpecial?_slot (name:=Yk "__next__") hT F.slot_dict_keyiterator_next (wpAny_call_entry F.slot_dict_keyiterator_next hT F.entry_dict_keyiterator_next ?_ (F.args_dict_keyiterator_next_1 _)))))
 refine Ww (Wv (Ww (Ww ?_)))
 first | (refine Ww (wpAny_typeNameOfWhole_keyiter hT (Wv ?_))) | (refine Ww (wpAny_typeNameOf_keyiter hT (Wv ?_)))
 (refine Ww (wpAny_fieldsOf j h ?_))
 (simp only[x,Ug,if_false])
 show Zh _ _ (if (Value.ref d == Value.none)=true then _ else _) _ _ _
 (rw[Zo (show¬ (Value.ref d == Value.none)=true from TQ)])
 refine Ww (Wv (Ww (wpAny_dictEntries g f ?_)));rw[Zo (by simp)];refine Ww (Wv (Ww (wpAny_dictEpoch g f ?_)))
 (rw[Zo (by simp)])
 refine Wv ?_;cases he:es[i]? with
 | some e=>
  (simp only[c,if_false,Us,he])
  (refine Ww ?_)
  first | (refine Ww (wpAny_typeNameOfWhole_keyiter hT (Wv ?_))) | (refine Ww (wpAny_typeNameOf_keyiter hT (Wv ?_)))
  (refine Ww (wpAny_isOneOf_keyiter hT ?_))
  show Zh _ _ (setField (.ref it) 1 (rawInt ((i:Int)+1)) >>= _) _ _ _;refine Ww (wpAny_setField j h (by simp) ?_);have k:(s.heap.update it (Obj.mapFields (·.setIfInBounds 1 (rawInt ((i:Int)+1))))).IsKeyIter it d (i+1) es.size ep:=⟨_,Heap.get?_update_self _ j (Obj.isFreed_of_fields (Obj.data_mapFields h _)),(Obj.cls_mapFields ..).trans C,by rw[Obj.data_mapFields h];simp[rawInt]⟩
  have l:=p e _ he k (Ye ..);generalize s.heap.update it (Obj.mapFields (·.setIfInBounds 1 (rawInt ((i:Int)+1))))=h' at k l ⊢
  refine Ww (Ws (Ww (wpAny_isOneOf_keyiter (s:={ s with heap:=h' }) k.typeIs ?_)));show Zh _ _ (pure e.key) _ _ _;exact Wv (Wv ⟨_,rfl,Wv l⟩)
 | none=>
  (simp only[c,if_false,Us,he])
  (refine Ww ?_)
  first | (refine Ww (wpAny_typeNameOfWhole_keyiter hT (Wv ?_))) | (refine Ww (wpAny_typeNameOf_keyiter hT (Wv ?_)))
  show Zh _ _ (setField (.ref it) 0 .none >>= _) _ _ _;refine Ww (wpAny_setField j h (by simp) ?_);show Zh _ _ (newExc (.type "StopIteration") [] >>= _) _ _ _;refine Ey (A:=A.in1) B λ_ e v u=>?_;obtain⟨m,n,t⟩:=u;refine Ww (wpAny_isInstance (T:= "StopIteration") (b:=true) ⟨m,n,t⟩ isSubtype_stop ?_);exact Wv (z he _ λb _ y q=>v _ _ ((Yn _ _ (YQ y)).trans q))
theorem En {Q:Wy->Wx->Prop} (c:(d == sysModules)=false) (g:BL s.heap d es ep)
  (e:Q (.ref s.heap.objs.size) { s with heap:=s.heap.push { cls:=.type "dict_keyiterator",data:=.fields #[.ref d,.int 0 0,.int es.size 0,.int ep 0] } }):Zh (model P w) A (pyIter (.ref d)) Q E s:=by
 obtain⟨o,a,f,b⟩:=g;have hT:s.TypeIs (.ref d) "dict" :=⟨o,a,f.1⟩
 (refine wpAny_pyIter_slot hT F.slot_dict_iter (wpAny_call_entry F.slot_dict_iter hT F.entry_dict_iter ?_ (F.args_dict_iter_1 _)))
 unfold Builtin.«dict.__iter__» Builtin.Dict.dictSlotNone;refine Ww (Ww (wpAny_notOrdered_dict hT ?_));show Zh _ _ (pure (Value.ref d)) _ _ _;refine Wv ?_;show Zh _ _ (Builtin.Dict.showsAll d >>= _) _ _ _;unfold Builtin.Dict.showsAll
 (rw[Zo (by rw[c];exact TQ)])
 refine Ww (Wv (Ww (wpAny_dictEntries a b (Ww (wpAny_dictEpoch a b ?_)))));refine Ww (wpAny_newObj_type (Wv ⟨_,rfl,"dict_keyiterator",_,⟨_,Y1 _ rfl,rfl⟩,F.slot_dict_keyiterator_next.lookup,?_⟩));simpa[rawInt]using e
end
theorem E4 {P:Zd}{w:Ze}{A:Zc} (n:A.handled=none) (I d:Za) (l:d≠I) (es:Array DictEntry) (ep:Nat) :
  Walks P w A I [I,d] [I] es.size (λi v=>∃e,es[i]? = some e/\v=e.key) (λi h=>h.IsKeyIter I d i es.size ep/\BL h d es ep) where
 sub:=λb g=>by rw[Tz.mp g];exact .head _
 frame:=λ_ _ _ a f=>⟨a.1.at λo e=>f I (.head _) o e,a.2.mono λo e=>f d (.tail _ (.head _)) o e⟩
 item:=λi s Q E p a j=>by
  refine za n a.1 a.2 (λe k c f m=>j _ k s.toks ⟨e,c,rfl⟩ ⟨f,a.2.mono λo q=>(m.2 d l).trans q⟩ λb o g q=>(m.2 b λz=>g (Tz.mpr z)).trans q) λc=>?_;rw[Uc p]at c;cases c
 done:=λs Q E a j=>za n a.1 a.2 (λe k c=>by rw[UM (Tw _)]at c;cases c) λ_ k f=>j k s.toks λb o g q=>f b o (λz=>g (Tz.mpr z)) q
 self:=λ_ _ _ _ a j=>wpAny_pyIter_keyiter a.1 j
theorem HL {P:Zd}{w:Ze}{d:Za}{es:Array DictEntry}{ep:Nat} (lo:(d == sysModules)=false):KdlSrc P w "dict" d d es.size (λi v=>∃e,es[i]? = some e/\v=e.key) (λh=>BL h d es ep) where
 type:=λ_ ⟨o,e,c,_⟩=>⟨o,e,c.1⟩
 there:=λ_ ⟨_,e,_⟩=>⟨Y2 e,Y2 e⟩
 keep:=λ_ _ x k=>x.mono λo e=>k d (.inl rfl) o e
 notList:=by decide
 notTuple:=by decide
 hint:=λ_ _ _ _ ⟨o,e,c,_⟩ a=>kdl_hint_dict ⟨o,e,c.1⟩ a
 iter:=λ_ _ b x=>⟨_,_,λ_ _ a=>En lo x a,E4 b _ d (T5 (let ⟨_,e,_⟩:=x;Y2 e)) es ep,⟨_,Y1 _ rfl,rfl,rfl⟩,x.mono λ_ e=>Wu _ e⟩
section
variable {K:Type} [DecidableEq K] {C:lR K}{X:Cx}{pins:List (Za×Obj)}{σ:St}{H:Hp}{s:Wx}
def Cg (w:Ze) (Kf:Wz) (C:lR K) (a r:Sh) (sp:Sp):V->Hp->VK->Prop:=λx H Q=>∃d kvs xs,x = .ref d/\H d=some (dN w C d kvs)/\kvs.map (λkv=>V.ref kv.2.1)=xs/\xs.length<64/\qE sp xs [] H λks H1=>
 ∃kds,aC Kf H1 ks kds/\(∀d∈kds,(Sh.b6 a r).has d)/\(∀d∈kds,d.depth<=100)/\∀(D:Za) (p:List Nat),H1 D=none->p.Perm (Y7 xs.length)->eQ kds p->Q (.ref D) (upd H1 D (.lst (picked xs p)))
theorem ux {w:Ze}:∀{kvs:List (K×Za×V)}{xs:List (K×Za×Wy)}{vs:WJ},KPs kvs xs->vs.length=xs.length->(∀(j:Nat) v,vs[j]? = some v->∃e,(xs.map λx=>(⟨wY w (C.enc x.1),.ref x.2.1,x.2.2⟩:DictEntry))[j]? = some e/\v=e.key)->aO (kvs.map λkv=>V.ref kv.2.1) vs
 | _,_,[],.nil,_,_=>.nil
 | _,_,_::_,.nil,h,_=>by cases h
 | _,_,[],.cons _ _,h,_=>by cases h
 | _,_,v::vs,.cons (a:=p) (b:=q) hp t,h,hv=>by
  refine .cons ?_ (ux (w:=w) t (Nat.succ.inj h) λj u e=>hv (j+1) u e);obtain⟨e,d,c⟩:=hv 0 v rfl;cases d;rw[c];show Value.ref q.2.1=Value.ref p.2.1;rw[hp.2.1]
theorem zq {a r:Sh}{b:Bool}{k:Nat}{f:Za}{fd:Zb}{ps:WF}{sp:Sp}{x:V}{u:Wy}{Q:VK} (hc:X.calm=true) (hf:ix a b) (F:ay X.prog X.w X.K X.mg X.base CX0 k f fd ps sp) (hr:bG (k+2) X.A) (hb:Binds X.K fd ps []) (I:Inv X pins σ H s) (rx:RelV x u) (h:Cg X.w X.K C a r sp x H Q) :
  Zh (model X.prog X.w) X.A (call (.builtin "sorted") [u] [(Yk "key",.ref f)]) (EP X pins σ Q) X.xe s:=by
 obtain⟨d,E,ys,rfl,hq,B,_,q⟩:=h;cases rx;obtain⟨_,L,xs,t,o,es,ep,h1,z,h3,R,_⟩:=(I.hok d _ hq).1;have O:E.length=ys.length:=by have:=congrArg List.length B;simpa using this
 have hl:=t.length;have G:es.size=xs.length:=by rw[<-T3,R,Tt]
 refine call_function_entry_kw kind_sorted plain_sorted entry_sorted (ksk_s1 _ _) ?_;unfold Builtin.«sorted»
 (refine Ww (m:=checkCount "sorted" 1 1 _) (Wv ?_))
 refine Ww (kdu_collect (A:=X.A.in1) (HL (es:=es) (ep:=ep) L) (show X.A.in1.handled=none from I.ok.hd hc) ⟨o,h1,z,h3⟩ (by rw[sizeLine_eq];lia) λh1 l acc N S=>?_);have i:acc.toList.length=xs.length:=by rw[T3,S.1,G]
 have n:aO ys acc.toList:=by
  rw[<-B];refine ux (C:=C) (w:=X.w) t i λj v e=>?_;obtain⟨e',Z,M⟩:=S.2 j v (by rw[<-Up];exact e);exact⟨e',by rw[<-R,Up];exact Z,M⟩
 (refine Ww (wpAny_newList ?_ (by rw[i,sizeLine_eq];lia)))
 have T:Inv X pins σ H { s with heap:=h1,toks:=l }:=I.kept (t':=l) N;have c:(h1.push (seqObj "list" acc.toList.toArray 0)).get? h1.objs.size=some (seqObj "list" acc.toList.toArray 0):=Y1 _ rfl;have g:∀b o,s.heap.get? b=some o->(h1.push (seqObj "list" acc.toList.toArray 0)).get? b=some o:=λb o e=>Wu _ (N b o e);show Zh _ _ (_ >>= λ_=>_) _ _ { s with heap:=h1.push (seqObj "list" acc.toList.toArray 0),toks:=l };generalize acc.toList=its at c g n i ⊢;generalize h1.push (seqObj "list" its.toArray 0)=z at c g ⊢;have I2:Inv X pins σ H { s with heap:=z,toks:=l }:=I.kept (t':=l) g;have y:H h1.objs.size=none:=T.hok.fresh (Tw _);have P:cg X pins H h1.objs.size:=T.rJ (Tw _) y;generalize h1.objs.size=D at c y P ⊢;refine Ww (Ws (wpAny_call_entry_kw slot_list_sort ⟨_,c,rfl⟩ entry_list_sort ?body (ksk_l1 _ _)))
 case body=>
  show Zh (model X.prog X.w) X.A.in1.in1 (Builtin.«list.sort» ⟨[.ref D],[(Yk "key",.ref f)]⟩) _ _ _;rw[ksk_t1];refine uD (s:={ s with heap:=z,toks:=l }) hf F hr hb I2 c P n (by lia) q λ_ _ ⟨J,L,W,yu,M⟩=>⟨J,L,W,yu,λp _ hp U B Y=>?_⟩;refine⟨_,rfl,Wv ⟨_,rfl,?_⟩⟩;exact⟨.ref _,_,Y,rfl,M _ p B hp U⟩
def JT (w:Ze) (Kf:Wz) (C:lR K) (a r:Sh) (sp:Sp) (ta:TA):TE:=λσ H Q=>ta σ H λvs H1=>∃x,vs=[x]/\Cg w Kf C a r sp x H1 Q
theorem E9 {a r:Sh}{b:Bool}{k:Nat}{f:Za}{fd:Zb}{ps:WF}{sp:Sp}{e:Expr}{ta:TA}{y:Str}{p d pos j:Pos} (B:ix a b) (F:ay X.prog X.w X.K X.mg X.base CX0 k f fd ps sp) (E:bG (k+2) X.A) (J:Binds X.K fd ps [])
  (v:Gl X "sorted") (o:X.mg "sorted" = none) (m:Gl X y) (l:X.mg y=some (.ref f)) (N:PA X [e] ta) (P:X.calm=true:=by rfl) (g:(y == ("__debug__" : Str))=false:=by decide)
  (L:backTo pos (Zi [e] X.env)=(false,eval e X.env)::backTo pos (Zi [] X.env):=by rfl) (G:(backTo pos (Zi [e] X.env)).any (·.1)=false:=by rfl)
  (z:(backToKw pos (keywordEach [⟨some "key",.Name y d,j⟩] X.env)).all (·.1.isSome)=true:=by rfl) (i:(backToKw pos (keywordEach [⟨some "key",.Name y d,j⟩] X.env)).any (·.1.isNone)=false:=by rfl) :
  PE X (.Call (.Name "sorted" p) [e] [⟨some "key",.Name y d,j⟩] pos) (JT X.w X.K C a r sp ta):=by
 intro c s O H Q I h;refine wpAny_Call_Name_kw (fm I v o boot_sorted ?_);refine callWith_kw (thn (N pos c s O H _ I h) λ_ _ ⟨_,_,n,D,t⟩=>?_) L G z i;obtain⟨x,rfl,q⟩:=t;obtain⟨u,rfl,M⟩:=D.one;refine kws_cons (mN n m l (kws_nil ?_) g);exact zq P B F E J n M q
end
end L2
namespace L2
open PySem PySem.Spec PyProof.Rows
section
variable {X:Cx}
def CO (K:Wz):V->WD->Hp->VK->Prop:=λx vs H Q=>∃(xs:WI) (y:V) (d:Zf) (j:Nat),vs=[y]/\Den K H x (.list xs)/\Den K H y d/\d.depth<=100/\j<xs.length/\j<1000000/\Y9 (xs.getD j .none) d=true/\(∀m,m<j->Y9 (xs.getD m .none) d=false)/\Q (.int (j:Int)) H
theorem E1 {k:Nat} (D:bG k X.A):MtR X "list.index" (CO X.K):=by
 intro _ s _ H x _ v _ Q I r E h;obtain⟨xs,y,d,j,rfl,l,i,J,_,_,B,t,q⟩:=h;obtain⟨u,rfl,G⟩:=E.one;obtain⟨_,C⟩:=I.reads l r;obtain⟨_,w⟩:=I.reads i G;have g:Y4 xs=true:=by simpa[PyData.canLay0]using l.lay
 cases C with
 | @list a o its n _ _ h1 h2 h3 h4=>
  have p:s.heap.get? a=some { cls:=.type "list",dict:=o.dict,data:=.seq its n,slots:=o.slots }:=by
   rw[h1,<-h2,<-h3]
  have e:=SeqAt.readsAll_map xs _ _ g h4;have L:its.size=xs.length:=by rw[<-e,Tt,T3]
  have f:∀m (b:m<its.size),SeqAt.readOf s.heap its[m]=xs.getD m .none:=λm b=>by
   rw[<-e,TU,TF,Up,Uc b];rfl
  refine call_meets PySem.F.slot_list_index ⟨_,h1,h2⟩ PySem.F.entry_list_index (PySem.F.args_list_index_2 _ _) (SeqAt.list_indexAt a its n _ _ u (λz=>Y9 (SeqAt.readOf s.heap z) d) j (by lia) (by lia) (by rw[f];exact B) λm b c=>by rw[f];exact t m c) ⟨p,SeqAt.items_eqAt h4 w g i.lay (yH D J),?_⟩;exact⟨.int _,H,I.tok _,⟨_,rfl⟩,q⟩
end
end L2
namespace L2
open PySem PySem.Spec PyProof.Rows PySem.W
structure PAi (X:Cx) (es:List Expr) (t:TA):Prop where
 go:PA X es t
structure PSi (X:Cx) (st:Stmt) (t:TS):Prop where
 go:PS X st t
structure SW (X:Cx) (st:List Stmt) (t:TS):Prop where
 go:PSs X st t
section
variable {X:Cx}
theorem BG:bootBuiltins "set" = some (.type "set"):=by decide +kernel
end
section
variable {X:Cx}{pins:List (Za×Obj)}{σ:St}{H:Hp}{s:Wx}
end
end L2
namespace L2
open PySem PySem.Spec PyProof.Rows
section
variable {prog:Zd}{w:Ze}{A:Zc}{E:Wy->Wx->Prop}{s:Wx}
end
section
variable {X:Cx}{pos:Pos}
end
end L2
namespace L2
open PySem PySem.Spec PyProof.Rows PySem.W
def NT (T:Za) (H:Hp):Prop:=∀b,H b=none\/(∃o xs,H b=some (.frz o (.lst xs)))\/(b=T/\H b=some (.tbl #[]))
theorem EE {P:Zd}{w:Ze}{K:Wz}{mg Q:Str->Option Wy}{k:Nat}{G a c T:Za}{fd:Zb}{x:Str}{sp:Sp}{s₁:Wx}{vs:WJ}{ns:List Int}
  (S:K.In s₁.heap) (hT:s₁.heap.get? T=some (tabObj #[])) (hc:CodeHd s₁.heap c T) (L:K.lookup T=none)
  (J:s₁.heap.Ns mainGlobals mg) (f:s₁.heap.Ns builtinsNs Q) (B:∀x:Str,x ≠ "__name__" -> Q x=bootBuiltins x) (Qv:s₁.heap.NoLimit) (hg:s₁.gens = #[])
  (l:s₁.heap.get? a=some { cls:=.type "list",data:=.seq vs.toArray }) (hi:IntsAre vs ns) (W:ns.length<=Zg) (hr:bG k callerA)
  (F:∀base:Heap,ay P w K mg base CX0 k G fd [x] sp) (P2:∀(s:Wx) (u:Wy),BindsTo s fd ⟨[u],[]⟩ [(x,u)])
  (O:∀H:Hp,H T=some (.tbl #[])->SqL K H a (ns.map V.int)->sp [.ref a] H (λv _=>v = .bl true) λ_ _ _=>False) :
  codeAny (model P w) callerA (.call (.ref G) ⟨[.ref a],[]⟩) (λr s'=>r = .ok (.ret (.bool true))/\OldK s₁.heap s'.heap/\s'.os=s₁.os/\AllBare s'.gens) s₁:=by
 have X:=wB hi;have Qn:=hi.length;have p:a≠T:=nn l hT
 have core:∀H:Hp,NT T H->H T=some (.tbl #[])->SqL K H a (ns.map V.int)->HOk P w H s₁.heap->(∀b,H b≠none->b=a\/b=T)->(H a≠none->K.lookup a=none) ->
   codeAny (model P w) callerA (.call (.ref G) ⟨[.ref a],[]⟩) (λr s'=>r = .ok (.ret (.bool true))/\OldK s₁.heap s'.heap/\s'.os=s₁.os/\AllBare s'.gens) s₁:=by
  intro H Z M hS y hA hK;have j:∀{b:Za}{m:Str->Option Wy},s₁.heap.Ns b m->(y9 s₁.heap H).Ns b m:=λ{b m} ⟨o,I,ep,e,d,r⟩=>⟨o,I,ep,yJ e (by
   cases q:H b with
   | none=>rfl
   | some u=>
    rcases hA b (by rw[q];simp)with rfl | rfl
    ·rw[l]at e;cases e;have N:Data.seq vs.toArray _=Data.dict I ep:=d;cases N
    ·rw[hT]at e;cases e;have N:Data.fields #[]=Data.dict I ep:=d;cases N),d,r⟩
  have E:K.In (y9 s₁.heap H):=λb o e=>yJ (S b o e) (by
   cases q:H b with
   | none=>rfl
   | some u=>
    rcases hA b (by rw[q];simp)with rfl | rfl
    ·rw[hK (by rw[q];simp)]at e;cases e
    ·rw[L]at e;cases e)
  have hM:Mod K mg (y9 s₁.heap H):=⟨E,j J,⟨Q,j f,B⟩,let ⟨mc,h1,h2⟩:=Qv;⟨mc,j h1,h2⟩⟩;have e0:uI P w K mg (y9 s₁.heap H) callerA [] s₁ H:=⟨rfl,hM,λb o e=>IY e,VX (Er _ _),trivial,λb f=>absurd (show b∈([]:WH)from f) (by simp),y,.of_eq hg⟩;refine codeAny_mono ((F _).run callerA [] s₁ H ⟨[.ref a],[]⟩ [.ref a] [.ref a] _ _ hr e0 (P2 s₁ (.ref a)) (.cons rfl .nil) (O H M hS)) λr s' h=>?_;cases r with
  | error e=>exact False.elim h
  | ok fl=>
   cases fl with
   | next=>exact False.elim h
   | brk=>exact False.elim h
   | cont=>exact False.elim h
   | ret u=>
    obtain⟨v,_,os,n,A,U,r',q⟩:=h;have q':v = .bl true:=q;subst q';obtain rfl:u=Value.bool true:=r';refine⟨rfl,⟨λb o e=>?_,λb o e=>A.there b o e (by simp)⟩,os,n⟩;rcases Z b with z | ⟨ob,_,z⟩ | ⟨rfl,z⟩
    ·exact .inl (A.keep b o e z (by intro z;exact absurd (show b∈([]:WH)from z) (by simp)) (by simp))
    ·have D:=A.rQ b ob _ z;obtain⟨R,_⟩:=y b _ z;obtain⟨C,_⟩:=U b _ D;rw[e]at R;cases R;exact .inl C
    ·obtain⟨t,D⟩:=A.rF b _ z;have C:=U b _ D;rw[hT]at e;cases e;obtain⟨oc,fs,_,_,_,_,_,_,_,c1,c2,c3,c4,_⟩:=hc;have Y:s₁.heap.TableAt c b #[]:=⟨⟨oc,fs,c1,c2,c3,c4⟩,hT⟩;exact .inr (.inl ⟨Y.isCodeTable,rfl,#[],t,rfl,C⟩)
 cases hk:K.lookup a with
 | some o=>
  have e:=S a o hk;rw[l]at e;cases e;refine core (λb=>if b=T then some (.tbl #[])else none) (λb=>?_) (Zn rfl) (.inr ⟨_,vs.toArray,_,hk,rfl,rfl,rfl,by rw[TL,Qn];exact W,by simpa using X⟩) (λb u z=>?_) (λb z=>?_) λz=>absurd (Zo p) z
  ·by_cases f:b=T
   ·exact .inr (.inr ⟨f,Zn f⟩)
   ·exact .inl (Zo f)
  ·by_cases f:b=T
   ·have i:=(Zn f).symm.trans z;cases i;subst f;exact hT
   ·have i:=(Zo f).symm.trans z;cases i
  ·by_cases f:b=T
   ·exact .inr f
   ·exact absurd (Zo f) z
 | none=>
  refine core (λb=>if b=T then some (.tbl #[])else if b=a then some (.frz { cls:=.type "list",data:=.seq vs.toArray } (.lst (ns.map V.int)))else none) (λb=>?_) (Zn rfl)
   (.inl (.inr ⟨{ cls:=.type "list",data:=.seq vs.toArray },(Zo p).trans (Zn rfl)⟩)) (λb u z=>?_) (λb z=>?_) λ_=>hk
  ·by_cases f:b=T
   ·exact .inr (.inr ⟨f,Zn f⟩)
   ·by_cases g:b=a
    ·exact .inr (.inl ⟨_,_,(Zo f).trans (Zn g)⟩)
    ·exact .inl ((Zo f).trans (Zo g))
  ·by_cases f:b=T
   ·have i:=(Zn f).symm.trans z;cases i;subst f;exact hT
   ·by_cases g:b=a
    ·have i:=((Zo f).trans (Zn g)).symm.trans z;cases i;subst g;exact⟨l,by rw[Tt];exact W,vs,_,X,l⟩
    ·have i:=((Zo f).trans (Zo g)).symm.trans z;cases i
  ·by_cases f:b=T
   ·exact .inr f
   ·by_cases g:b=a
    ·exact .inl g
    ·exact absurd ((Zo f).trans (Zo g)) z
theorem HB {l:PySem.W.OpenLaw}{n k:Nat}{q:Zd}{loose:WF}{z:(Str->Option Wy)->Heap->Prop}{y:Ze->Heap->Prop}{d:DefRec}{K:Params->Wz}{sp:Ze->Sp}{x:Str}{c T:Za}
  (L:l.most=some n) (p:n<=Zg) (j:d.params.defaults=[]) (I:bG k callerA)
  (D:∀(w:Ze) (h:Heap),y w h->(K w.params).In h/\h.get? T=some (tabObj #[])) (M:∀(w:Ze) (h:Heap),(K w.params).In h->CodeHd h c T) (i:∀w:Ze,(K w.params).lookup T=none)
  (F:∀(w:Ze) (mg:Str->Option Wy) (fa:Za) (h:Heap),(K w.params).In h->h.Ns mainGlobals mg->mg d.name=some (.ref fa) ->
   ∃fd:Zb,(∀(s:Wx) (u:Wy),BindsTo s fd ⟨[u],[]⟩ [(x,u)])/\∀base:Heap,ay l.prog w (K w.params) mg base CX0 k fa fd [x] (sp w))
  (t:∀(w:Ze) (H:Hp) (a:Za) (ns:List Int),ns.length<=n->H T=some (.tbl #[])->SqL (K w.params) H a (ns.map V.int)->sp w [.ref a] H (λv _=>v = .bl true) λ_ _ _=>False) :
  PySem.W.WalkO q loose z y l.row.toRowW d [] (λf vs=>PySem.call f vs):=by
 refine Att.zo L j λw _ _ mg _ fa o _ _ _ a vs ns G Y _ _ _ r E B e C=>?_;obtain⟨m,hT⟩:=D w _ Y;obtain⟨fd,J,hF⟩:=F w mg fa _ m G.T.g r;exact EE m hT (M w _ m) (i w) G.T.g G.T.b G.T.builtins G.T.nolimit C E B (TN e p) I hF J (λH A hS=>t w H a ns e A hS)
section
variable {X:Cx}
def HX (K:Wz):WD->Hp->VK->Prop:=λvs H Q=>∃l ns,vs=[.ref l]/\SqL K H l (ns.map V.str)/\ns.length<64/\∀(D:Za) (ms:WF),H D=none->ms.Perm ns->UpS ms->Q (.ref D) (upd H D (.lst (ms.map V.str)))
theorem oE {k:Nat} (M:bG k X.A):ia X (.builtin "sorted") (HX X.K):=by
 intro b s L H _ _ Q I C h;obtain⟨l,ns,rfl,B,_,q⟩:=h;obtain⟨u,rfl,F⟩:=C.one;cases F;obtain⟨vs,o,v,_⟩:=I.list B;have t:ns.length=vs.length:=by have:=o.length;rwa [Tt]at this
 (refine Calls.call_function_entry kind_sorted plain_sorted entry_sorted (args_sorted1 _) ?_)
 unfold Builtin.«sorted»
 (refine Ww (m:=checkCount "sorted" 1 1 _) (Wv ?_))
 refine Ww (collect_list v.isList ?_ (by rw[sizeLine_eq];lia))
 (refine Ww (wpAny_newList ?_ (by rw[sizeLine_eq];lia)))
 have n:=lQ s.heap vs;have c:=vO s.heap vs;have a:=qG s.heap vs;show Zh _ _ (_ >>= λ_=>_) _ _ { s with heap:=(jb s.heap vs).push (seqObj "list" vs.toArray 0) };rw[show((s.heap.push (seqObj "list" #[] 0)).update s.heap.objs.size (Y8 (· ++ vs.toArray))).objs.size=s.heap.objs.size+1 from n]
 generalize(jb s.heap vs).push (seqObj "list" vs.toArray 0)=h2 at c a ⊢;have D:Inv X b L H { s with heap:=h2 }:=I.kept (t':=s.toks) a;have f:H (s.heap.objs.size+1)=none:=I.hok.fresh (UN _);have z:cg X b H (s.heap.objs.size+1):=I.rJ (UN _) f
 (refine Ww (Ws (wpAny_call_entry slot_list_sort ⟨_,c,rfl⟩ entry_list_sort ?body (args_list_sort _))))
 case body=>
  refine zR (s:={ s with heap:=h2 }) (ds:=ns.map PyData.str) D c z o (λE G _ h2 w=>uO o E G h2 w) (by lia) λp _ d j r=>?_;refine⟨_,rfl,Wv ⟨_,rfl,?_⟩⟩;rw[Tt]at d;have g:∀i∈p,i<ns.length:=λi e=>by have:=d.mem_iff.mp e;simpa using this
  have y:picked (ns.map V.str) p=(p.map λi=>ns.getD i Yh).map V.str:=by
   unfold picked;rw[T7];refine T8 λi e=>?_;simp[TU,g i e]
  have x:(p.map λi=>(ns.map PyData.str).getD i .none)=(p.map λi=>ns.getD i Yh).map PyData.str:=by
   rw[T7];refine T8 λi e=>?_;simp[TU,g i e]
  have J:UpS (p.map λi=>ns.getD i Yh):=by
   unfold eQ at j;rw[x,Uk]at j;exact j
  rw[y]at r;exact⟨.ref _,_,r,rfl,q _ _ f (yL d) J⟩
end
end L2
namespace LG
open PySem L2 PySem.Builtin PySem.Builtin.Str
def sgn (c:Nat):Bool:=decide (33<=c) && decide (c<=126) && decide (c≠37)
def dig (c:Nat):Bool:=decide (48<=c) && decide (c<=57)
def low (c:Nat):Bool:=decide (97<=c) && decide (c<=122)
def jv (p:Nat->Bool) (l:List Nat):Bool:=!l.isEmpty && l.all p
def gM:List Nat->List Nat
 | 45::r=>r
 | l=>l
def Ff (l:List Nat):Nat:=if jv dig (gM l)=true then 0 else if jv low l=true then 1 else 2
def cS (z:Str):Bool:=jv sgn z.cps.toList
def dB (z:Str):Nat:=Ff z.cps.toList
def qA:Nat->Str
 | 0=> "number"
 | 1=> "name"
 | _=> "other"
def cx:Nat->Str
 | 0=> "number"
 | 1=> "name"
 | _=> "any"
theorem rV {x y:Str} (h:x.cps.toList=y.cps.toList):x=y:=by
 cases x;cases y;simp only[Str.mk.injEq];exact Vb.mp h
theorem takeWhile_all {α:Type}{p:α->Bool}:∀{l:List α},(l.takeWhile p).length=l.length↔l.all p=true
 | []=>by simp
 | a::r=>by
  rw[List.takeWhile_cons,Vt];by_cases h:p a=true
  ·rw[Zn h,h,Ve];simp only[TR,Nat.add_right_cancel_iff];exact takeWhile_all
  ·rw[Zo h];simp[h]
theorem strip_nil (z y:Str):decide (V.str (Z0 z y)=V.str "")=z.cps.toList.all (λc=>y.cps.contains c):=by
 have e:Z0 z y=strSub z (stripLo (λc=>y.cps.contains c) true z) (stripHi (λc=>y.cps.contains c) true z (stripLo (λc=>y.cps.contains c) true z)):=PyProof.Rows.stripBy_eq _ true true z;have f:=PyProof.Rows.lo_facts (λc=>y.cps.contains c) z;have d:=PyProof.Rows.hi_facts (λc=>y.cps.contains c) z (stripLo (λc=>y.cps.contains c) true z) f.1;have a:stripLo (λc=>y.cps.contains c) true z=(z.cps.toList.takeWhile λc=>y.cps.contains c).length:=by simp[stripLo]
 have g:z.length=z.cps.toList.length:=by simp[Z2]
 (rw[Ue,decide_eq_true_eq])
 constructor
 ·intro h;have i:(Z0 z y).cps.size=0:=by
   have:Z0 z y = "" :=by injection h
   rw[this];rfl
  rw[e]at i;have b:stripHi (λc=>y.cps.contains c) true z (stripLo (λc=>y.cps.contains c) true z)<=stripLo (λc=>y.cps.contains c) true z:=by
   have j:(Array.extract z.cps (stripLo (λc=>y.cps.contains c) true z) (stripHi (λc=>y.cps.contains c) true z (stripLo (λc=>y.cps.contains c) true z))).size=0:=i;rw[VN]at j;have l:=d.2.1;have k:z.length=z.cps.size:=rfl;lia
  rcases Ur (stripLo (λc=>y.cps.contains c) true z) z.length with hl | hl
  ·rcases f.2.2 with q | q
   ·lia
   ·have:=d.2.2.1 (stripLo (λc=>y.cps.contains c) true z) b hl;rw[q]at this;cases this
  ·have q:stripLo (λc=>y.cps.contains c) true z=z.length:=Nat.le_antisymm f.1 hl;rw[a,g]at q;exact takeWhile_all.mp q
 ·intro h;have b:=takeWhile_all.mpr h;rw[<-a,<-g]at b;have:Z0 z y = "" :=by
   rw[e,b];refine rV ?_;have j:=d.2.1;refine UW ?_;show(Array.extract z.cps z.length _).toList.length=0;rw[T3,VN];have k:z.length=z.cps.size:=rfl;lia
  rw[this]
theorem zE (z:Str):(Txt.removeprefix z "-").cps.toList=gM z.cps.toList:=by
 rw[StrLaws.removeprefix_eq];have f:(("-" : Str)).length=1:=rfl;have g:(("-" : Str)).cps = #[45]:=by decide +kernel
 rw[f];have d:z.length=z.cps.toList.length:=by simp[Z2]
 have i:subAt z "-" 0=(z.cps.extract 0 (0+1) == #[45]):=by
  unfold subAt;rw[f,g]
 rw[i];cases e:z.cps.toList with
 | nil=>
  have c:z.length=0:=by rw[d,e];rfl
  rw[c];simp[gM,e]
 | cons a r=>
  have c:z.length=r.length+1:=by rw[d,e];rfl
  have k:z.cps.extract 0 (0+1) = #[a]:=by
   apply Vb.mp;rw[Array.toList_extract,e];simp
  rw[k,c];by_cases b:a=45
  ·subst b;simp[gM]
  ·have j:(#[a] == #[45])=false:=by
    rw[beq_eq_false_iff_ne];intro h;apply b;simpa using h
   rw[j];simp only[Bool.and_false,Ug,if_false];rw[e];unfold gM
   split
   ·rename_i q;cases q;exact(b rfl).elim
   ·rfl
end LG
namespace LG
open PySem L2 PySem.Builtin PySem.Builtin.Str PySem.StrLaws
def isB (l:List Nat) (i:Nat):Bool:=decide (l[i]? = some 32)
theorem zi:∀l:List Nat,(Y7 l.length).countP (isB l)=l.count 32
 | []=>rfl
 | a::r=>by
  rw[TR,List.range_succ_eq_map,US,List.countP_map,VF];have e:(isB (a::r) ∘ Nat.succ)=isB r:=by funext i;simp[isB]
  rw[e,zi r];have b:isB (a::r) 0=(a == 32):=by rw[Ue];simp[isB]
  rw[b]
theorem vS (z:Str) (i:Nat):subAt z " " i=isB z.cps.toList i:=by
 have b:((" " : Str)).cps.toList=[32]:=by decide +kernel
 have d:((" " : Str)).length=1:=rfl;rw[subAt_eq,d,b];unfold isB;cases e:z.cps.toList[i]? with
 | none=>
  rw[UL (Vq.mp e)];decide
 | some c=>
  have a:=aI e;rw[Um a];rw[Tu a]at e;cases e;rw[Ue];simp
theorem sQ (z:Str) (b:Nat) (d:z.length<b):∀(m k:Nat) (st:Array Nat×Nat),k+m<=z.length+1->st.1.size<=k->st.2<=k ->
  st.1.size+(List.range' k m).countP (isB z.cps.toList)<=(forIn (List.range' k m) st (occBody z " " z.length b)).run.1.size
 | 0,k,st,_,_,_=>by
  simp only[List.range'_zero,List.countP_nil,Nat.add_zero,List.forIn_nil];exact Tw _
 | m+1,k,st,hk,hs,hf=>by
  have f:((" " : Str)).length=1:=rfl;rw[List.range'_succ,U3,US];unfold occBody;by_cases a:isB z.cps.toList k=true
  ·have g:k<z.length:=by
    have:z.cps.toList[k]? = some 32:=by simpa[isB]using a
    have:=aI this;simpa[Z2]using this
   rw[Zn a,Zn ⟨⟨⟨by lia,hf⟩,by rw[f];lia⟩,by rw[vS];exact a⟩];have c:=sQ z b d m (k+1) (st.1.push k,k+((" " : Str)).length) (by lia) (by show(st.1.push k).size<=k+1;rw[VG];lia) (by show k+_<=k+1;rw[f];exact Tw _);have e:(st.1.push k,k+((" " : Str)).length).1.size=st.1.size+1:=by show(st.1.push k).size=_;rw[VG]
   rw[e]at c;refine TN ?_ c;lia
  ·rw[Zo a,Zo (by rw[vS];exactλh=>a h.2)];have c:=sQ z b d m (k+1) (st.1,st.2) (by lia) (by show st.1.size<=_;lia) (by show st.2<=_;lia);exact c
theorem wz (z:Str):z.cps.toList.count 32<=(occurrences z " " 0 z.length (z.length+1)).length:=by
 rw[occ_eq];have h:=sQ z (z.length+1) (Vo _) (z.length+1) 0 (#[],0) (by lia) (by simp) (Tw _);have e:(List.range' 0 (z.length+1)).countP (isB z.cps.toList)=z.cps.toList.count 32:=by
  rw[<-List.range_eq_range',List.range_succ,List.countP_append];have a:z.length=z.cps.toList.length:=by simp[Z2]
  have c:isB z.cps.toList z.length=false:=by
   unfold isB;rw[a,Ux (Tw _)];rfl
  rw[a,zi,<-a];simp[c]
 rw[e]at h;simp only[T3];have b:((#[]:Array Nat),0).1.size=0:=rfl;rw[b,VW]at h;exact h
theorem Bm (z:Str):(Y6 z " ").length=(occurrences z " " 0 z.length (z.length+1)).length+1\/(Y6 z " " = [z]/\z.cps.toList.count 32=0):=by
 unfold Y6
 split
 ·rename_i h
  right
  refine⟨rfl,?_⟩;rw[Bool.or_eq_true,decide_eq_true_eq,decide_eq_true_eq]at h;have b:((" " : Str)).length=1:=rfl;rcases h with h | h
  ·have a:z.cps.toList=[]:=UW (by rw[T3];have:z.length=z.cps.size:=rfl;lia);rw[a];rfl
  ·exfalso;have e:PySem.Builtin.Str.strKind (" " : Str)=1:=by decide +kernel
   rw[e]at h;unfold PySem.Builtin.Str.strKind at h
   split at h
   ·lia
   ·split at h <;> lia
 ·split
  ·rename_i h
   right
   refine⟨rfl,?_⟩;have:=wz z;rw[List.isEmpty_iff.mp h]at this;simpa using this
  ·left
   rw[length_partsBetween]
theorem A3 (ts:WF) (a:ts≠[]):(YI " " ts).cps.toList.count 32=(ts.map λt=>t.cps.toList.count 32).sum+(ts.length - 1):=by
 have c:((" " : Str)).cps.toList=[32]:=by decide +kernel
 induction ts with
 | nil=>exact(a rfl).elim
 | cons x r b=>
  cases r with
  | nil=>show x.cps.toList.count 32=_;simp
  | cons y r=>
   have e:YI " " (x::y::r)=x ++ " " ++ YI " " (y::r):=rfl;rw[e];have d:(x++(" " : Str)++YI " " (y::r)).cps.toList=x.cps.toList++[32]++(YI " " (y::r)).cps.toList:=by
    rw[<-c]
    (simp only[Str.cps_append,UE])
   rw[d,Vh,Vh,b (by simp)];simp only[TX,Uw,TR,Vr];lia
theorem yT:∀{l:List Nat},l.sum=0->∀x∈l,x=0
 | [],_,x,h=>by cases h
 | a::r,hs,x,h=>by
  simp only[Uw]at hs
  (rcases TM.mp h with rfl | h)
  ·lia
  ·exact yT (by lia) x h
theorem split_free (z:Str):∀x∈Y6 z " ",32∉x.cps.toList:=by
 intro x a;have d:=StrLaws.join_split z " ";have b:Y6 z " " ≠ []:=by intro e;rw[e]at a;cases a
 have c:=A3 (Y6 z " ") b;rw[d]at c;rcases Bm z with h | h
 ·rw[h]at c;have i:=wz z;have g:(List.map (λt:Str=>t.cps.toList.count 32) (Y6 z " ")).sum=0:=by lia
  have f:=yT g (x.cps.toList.count 32) (Tv.mpr ⟨x,a,rfl⟩);exact VM.mp f
 ·rw[h.1]at a;simp only[Tz]at a;subst a;exact VM.mp h.2
theorem JF {a b c d:List Nat} (h:a++32::b=c++32::d) (f:32∉a) (g:32∉c):a=c/\b=d:=by
 induction a generalizing c with
 | nil=>
  cases c with
  | nil=>simp at h;exact⟨rfl,h⟩
  | cons e c=>simp at h;exact(g (by simp[<-h.1])).elim
 | cons e a i=>
  cases c with
  | nil=>simp at h;exact(f (by simp[h.1])).elim
  | cons _ c=>
   simp only[U9,List.cons.injEq]at h;obtain⟨k,j⟩:=i h.2 (λq=>f (TC _ q)) (λq=>g (TC _ q));exact⟨by rw[h.1,k],j⟩
theorem CV (x y:Str) (r:WF):(YI " " (x::y::r)).cps.toList=x.cps.toList++32::(YI " " (y::r)).cps.toList:=by
 have a:((" " : Str)).cps.toList=[32]:=by decide +kernel
 have e:YI " " (x::y::r)=x ++ " " ++ YI " " (y::r):=rfl;rw[e];simp only[Str.cps_append,UE,a,UZ,List.singleton_append]
theorem Ak:∀{ts us:WF},ts≠[]->us≠[]->(∀x∈ts,32∉x.cps.toList)->(∀x∈us,32∉x.cps.toList)->(YI " " ts).cps.toList=(YI " " us).cps.toList->ts=us
 | [x],[y],_,_,_,_,h=>by rw[rV (x:=x) (y:=y) h]
 | [x],y::y2::r,_,_,hx,_,h=>by
  rw[CV]at h;have h:x.cps.toList=y.cps.toList++32::(YI " " (y2::r)).cps.toList:=h;exact(hx x (by simp) (by rw[h];simp)).elim
 | x::x2::r,[y],_,_,_,hy,h=>by
  rw[CV]at h;have h:x.cps.toList++32::(YI " " (x2::r)).cps.toList=y.cps.toList:=h;exact(hy y (by simp) (by rw[<-h];simp)).elim
 | x::x2::r,y::y2::q,_,_,hx,hy,h=>by
  rw[CV,CV]at h;obtain⟨c,b⟩:=JF h (hx x (by simp)) (hy y (by simp));have:=Ak (ts:=x2::r) (us:=y2::q) (by simp) (by simp) (λz a=>hx z (TC _ a)) (λz a=>hy z (TC _ a)) b;rw[rV c,this]
theorem B6 {ws:WF} (a:ws≠[]) (h:∀x∈ws,32∉x.cps.toList):Y6 (YH " " ws) " " = ws:=by
 have e:YH " " ws=YI " " ws:=StrLaws.glued_eq_join " " ws;have b:=StrLaws.join_split (YH " " ws) " ";refine Ak ?_ a (split_free _) h ?_
 ·intro e;have:=(L2.Be (z:=YH " " ws) (y:= " ")).1;rw[e]at this;exact absurd this (by decide)
 ·rw[b,e]
end LG
namespace LG
open PySem L2 PySem.Builtin PySem.Builtin.Str
theorem qv (y:Str) (p:Nat->Bool) (h1:∀c<200,y.cps.contains c=p c) (h2:∀x∈y.cps.toList,x<200) (a:∀c,200<=c->p c=false):(λc=>y.cps.contains c)=p:=by
 funext c
 rcases Ur c 200 with h | h
 ·exact h1 c h
 ·rw[a c h];rw[Uh];intro q;have:=h2 c (by simpa using q);lia
theorem Jx (c:Nat) (h:200<=c):sgn c=false:=by unfold sgn;rw[Zl (show¬ c<=126 by lia)];simp
theorem IR (c:Nat) (h:200<=c):dig c=false:=by unfold dig;rw[Zl (show¬ c<=57 by lia)];simp
theorem JD (c:Nat) (h:200<=c):low c=false:=by unfold low;rw[Zl (show¬ c<=122 by lia)];simp
@[irreducible] def DT:Str:= "0123456789"
@[irreducible] def Ea:Str:= "abcdefghijklmnopqrstuvwxyz"
@[irreducible] def wN:Str:= "!\"#$&'()*+,-./0123456789:;<=>?@ABCDEFGHIJKLMNOPQRSTUVWXYZ[\\]^_`abcdefghijklmnopqrstuvwxyz{|}~"
theorem Kv:DT = "0123456789" :=by unfold DT;rfl
theorem Je:Ea = "abcdefghijklmnopqrstuvwxyz" :=by unfold Ea;rfl
theorem FU:wN = "!\"#$&'()*+,-./0123456789:;<=>?@ABCDEFGHIJKLMNOPQRSTUVWXYZ[\\]^_`abcdefghijklmnopqrstuvwxyz{|}~" :=by unfold wN;rfl
theorem Fz:(λc=>DT.cps.contains c)=dig:=qv _ _ (by decide +kernel) (by decide +kernel) IR
theorem HS:(λc=>Ea.cps.contains c)=low:=qv _ _ (by decide +kernel) (by decide +kernel) JD
theorem ET:(λc=>wN.cps.contains c)=sgn:=qv _ _ (by decide +kernel) (by decide +kernel) Jx
theorem yk (z:Str):decide (V.str z=V.str "")=z.cps.toList.isEmpty:=by
 rw[Ue,decide_eq_true_eq,List.isEmpty_iff];constructor
 ·intro h;have:z = "" :=by injection h
  rw[this];rfl
 ·intro h;have:z = "" :=rV (by rw[h];rfl);rw[this]
theorem IL (z y:Str):((!decide (V.str z=V.str "")) && decide (V.str (Z0 z y)=V.str ""))=jv (λc=>y.cps.contains c) z.cps.toList:=by
 rw[yk,strip_nil];rfl
theorem DI {i j:Nat} (hi:i<3) (a:j<3):decide (V.str (qA i)=V.str (qA j))=decide (i=j):=by
 match i,j,hi,a with
 | 0,0,_,_=>decide +kernel
 | 0,1,_,_=>decide +kernel
 | 0,2,_,_=>decide +kernel
 | 1,0,_,_=>decide +kernel
 | 1,1,_,_=>decide +kernel
 | 1,2,_,_=>decide +kernel
 | 2,0,_,_=>decide +kernel
 | 2,1,_,_=>decide +kernel
 | 2,2,_,_=>decide +kernel
theorem sJ (l:List Nat):Ff l<3:=by
 unfold Ff
 split
 ·decide
 ·split <;> decide
def z6 (l:List Nat):Nat:=if jv dig (gM l)=true then 0 else if l.all low=true then 1 else 2
theorem lt1 (a b:Nat):decide ([a] < [b])=decide (a<b):=by
 (rw[Ue,decide_eq_true_eq,decide_eq_true_eq])
 constructor
 ·intro h;cases h with
  | rel h=>exact h
  | cons h=>cases h
 ·intro h;exact List.Lex.rel h
def sg (c:Nat):Str:=⟨#[c]⟩
section
variable {K:Wz}{tt:TT}{D:Za}{Q:VK}{H:Hp}
end
inductive Pt where
 | word (w:Str)
 | hole (k:Nat)
 deriving DecidableEq
abbrev WC:=List Pt
abbrev WB:=List WC
def Pt.dat:Pt->Zf
 | .word w=>.tuple [.str "word",.str w]
 | .hole k=>.tuple [.str "hole",.str (cx k)]
def TOk (w:Str):Prop:=w.length<=10000/\Y5 w=true
def Pt.ok:Pt->Prop
 | .word w=>TOk w
 | .hole k=>k<3
def aJ (ps:WC):Zf:=.list (ps.map Pt.dat)
def POk (ps:WC):Prop:=ps.length<=10000/\∀p∈ps,p.ok
def Pt.takes:Pt->Str->Bool
 | .word x,w=>decide (w=x)
 | .hole 0,w=>decide (dB w=0)
 | .hole 1,w=>decide (dB w=1)
 | .hole _,w=>cS w
def aV (ps:WC) (ws:WF):Bool:=decide (ps.length=ws.length) && (ps.zip ws).all λp=>p.1.takes p.2
def Pt.within:Pt->Pt->Bool
 | .word x,q=>q.takes x
 | .hole k,q=>decide (q = .hole k) || decide (q = .hole 2)
def wO (ps qs:WC):Bool:=decide (ps.length=qs.length) && (ps.zip qs).all λp=>p.1.within p.2
def Pt.loose:Pt->Int
 | .word _=>0
 | .hole 0=>1
 | .hole 1=>1
 | .hole _=>2
def Pt.around:Pt->Nat
 | .word w=>dB w
 | .hole k=>k
def iJ (ps:WC):Pt:=match ps with
 | []=>.hole 2
 | p::r=>if r.all (λq=>decide (q=p))=true then p else if r.all (λq=>decide (q.around=p.around))=true then .hole p.around else .hole 2
theorem vM {i j:Nat} (hi:i<3) (hj:j<3) (h:cx i=cx j):i=j:=by
 have key:∀i<3,∀j<3,cx i=cx j->i=j:=by decide +kernel
 exact key i hi j hj h
theorem Dc {p q:Pt} (a:p.ok) (c:q.ok) (h:p.dat=q.dat):p=q:=by
 cases p with
 | word w=>
  cases q with
  | word b=>simp[Pt.dat]at h;rw[h]
  | hole k=>
   have:("word" : Str) ≠ "hole" :=by decide +kernel
   simp[Pt.dat]at h;exact(this h.1).elim
 | hole k=>
  cases q with
  | word b=>
   have:("hole" : Str) ≠ "word" :=by decide +kernel
   simp[Pt.dat]at h;exact(this h.1).elim
  | hole _=>
   simp[Pt.dat]at h;rw[vM a c h]
def Kn:Sh:=.b6 .str (.b6 .str .vB)
theorem ID (p:Pt):Kn.has p.dat:=by
 cases p with
 | word w=>exact⟨_,_,rfl,⟨_,rfl⟩,_,_,rfl,⟨_,rfl⟩,rfl⟩
 | hole k=>exact⟨_,_,rfl,⟨_,rfl⟩,_,_,rfl,⟨_,rfl⟩,rfl⟩
theorem Mo {p q:Pt} (hp:p.ok) (hq:q.ok):Y9 p.dat q.dat=decide (p=q):=by
 rw[Ue,decide_eq_true_eq,(Sh.ok Kn).eqv _ _ (ID p) (ID q)];exact⟨Dc hp hq,λh=>by rw[h]⟩
theorem CP (pt:Pt):pt.dat.depth<=5:=by cases pt <;> simp[Pt.dat,Yj,Y3]
theorem cs (ps:WC):(aJ ps).depth<=90:=by
 have h:Y3 (ps.map Pt.dat)<=5:=cK _ λd hd=>by
  obtain⟨pt,_,rfl⟩:=Tv.mp hd;exact CP pt
 simp only[aJ,Yj];lia
theorem yV {K:Wz}{H:Hp}{v:V}{x:Str} (h:Den K H v (.str x)):v = .str x/\Y5 x=true:=by
 cases h with
 | str q=>exact⟨rfl,q⟩
theorem mw {K:Wz}{H:Hp}{v:V}{x y:Str} (h:Den K H v (.tuple [.str x,.str y])):∃a,v = .ref a/\SqT K H a [.str x,.str y]/\Y5 x=true/\Y5 y=true:=by
 cases h with
 | tup c t=>
  cases t with
  | cons f t=>cases t with
   | cons d t=>
    cases t;obtain⟨rfl,e⟩:=yV f;obtain⟨rfl,b⟩:=yV d;exact⟨_,rfl,c,e,b⟩
theorem tW {K:Wz}{H:Hp}{v:V}{e:Pt} (h:Den K H v e.dat):∃a x y,v = .ref a/\SqT K H a [.str x,.str y]/\Y5 x=true/\Y5 y=true/\(match e with | .word w=>x = "word" /\ y=w | .hole k=>x = "hole" /\ y=cx k):=by
 cases e with
 | word w=>obtain⟨a,rfl,c,d,b⟩:=mw h;exact⟨a,_,_,rfl,c,d,b,rfl,rfl⟩
 | hole k=>obtain⟨a,rfl,c,d,b⟩:=mw h;exact⟨a,_,_,rfl,c,d,b,rfl,rfl⟩
theorem fg {K:Wz}{H:Hp}{v:V}{ps:WC} (h:Den K H v (aJ ps)):∃a xs,v = .ref a/\SqL K H a xs/\aC K H xs (ps.map Pt.dat):=by
 cases h with
 | lst hq t=>exact⟨_,_,rfl,hq,t⟩
def LOk (w:Str):Prop:=w.length<=10000
theorem LOk.sx {w:Str} (h:LOk w):w.length<=Zg:=TN h (by decide)
def lz (K:Wz):Sp:=λvs H Q _=>∃z y:Str,vs=[.str z,.str y]/\LOk z/\Q (.bl (jv (λc=>y.cps.contains c) z.cps.toList)) H
def ow (K:Wz):Sp:=λvs H Q _=>∃z:Str,vs=[.str z]/\LOk z/\Q (.bl (cS z)) H
def nH (K:Wz):Sp:=λvs H Q _=>∃z:Str,vs=[.str z]/\LOk z/\Q (.str (qA (dB z))) H
def iY (K:Wz):Sp:=λvs H Q _=>∃z:Str,vs=[.str z]/\LOk z/\∀l,H l=none->Q (.ref l) (upd H l (.lst ((Y6 z " ").map V.str)))
def g9 (K:Wz):Sp:=λvs H Q _=>∃v pt,vs=[v]/\Den K H v (Pt.dat pt)/\Q (.bl (match pt with | .hole _=>true | _=>false)) H
def nC (K:Wz):Sp:=λvs H Q _=>∃(v:V) (w:Str) (p:Pt),vs=[v,.str w]/\Den K H v p.dat/\p.ok/\LOk w/\Q (.bl (p.takes w)) H
def oV (K:Wz):Sp:=λvs H Q _=>∃(a b:Za) (xs:WD) (ps:WC) (ws:WF),vs=[.ref a,.ref b]/\SqL K H a xs/\aC K H xs (ps.map Pt.dat)/\(∀p∈ps,p.ok)/\SqL K H b (ws.map V.str)/\(∀w∈ws,LOk w)/\∀H',ae H H'->Q (.bl (aV ps ws)) H'
def CY (K:Wz):Sp:=λvs H Q _=>∃(v:V) (z:Str) (ps:WC),vs=[v,.str z]/\Den K H v (aJ ps)/\(∀p∈ps,p.ok)/\LOk z/\Y5 z=true/\∀H',ae H H'->Q (.bl (aV ps (Y6 z " "))) H'
def fw (K:Wz):Sp:=λvs H Q _=>∃(v:V) (p:Pt),vs=[v]/\Den K H v p.dat/\p.ok/\Q (.str (cx p.around)) H
def fV (K:Wz):Sp:=λvs H Q _=>∃(v:V) (p:Pt),vs=[v]/\Den K H v p.dat/\p.ok/\Q (.int p.loose) H
def pP (K:Wz):Sp:=λvs H Q _=>∃(v:V) (ps:WC),vs=[v]/\Den K H v (aJ ps)/\POk ps/\∀D H',H D=none->ae H H'->H' D=some (.lst (ps.map λp=>.int p.loose))->Q (.ref D) H'
def lc (K:Wz):Sp:=λvs H Q _=>∃(a:Za) (xs:WD) (ps:WC),vs=[.ref a]/\SqL K H a xs/\aC K H xs (ps.map Pt.dat)/\ps≠[]/\POk ps/\∀r H',ae H H'->Den K H' r (iJ ps).dat->Q r H'
theorem p6 {p:Pt} (h:p.ok):p.around<3:=by
 cases p with
 | word w=>exact sJ _
 | hole k=>exact h
theorem yZ {k:Nat}:Y5 (cx k)=true:=by
 match k with
 | 0=>decide +kernel
 | 1=>decide +kernel
 | (n+2)=>show Y5 (cx 2)=true;decide +kernel
theorem y4 {k:Nat} (hk:k<3):decide (V.str (cx k)=V.str "any")=decide (k=2):=by
 match k,hk with
 | 0,_=>decide +kernel
 | 1,_=>decide +kernel
 | 2,_=>decide +kernel
theorem Fb {k:Nat} (hk:k<2) (w:Str):decide (V.str (qA (dB w))=V.str (cx k))=decide (dB w=k):=by
 have h:cx k=qA k:=by
  match k,hk with
  | 0,_=>rfl
  | 1,_=>rfl
 rw[h];exact DI (sJ _) (by lia)
theorem z7 (z:Str):dB z<3:=sJ _
theorem DS (z:Str):(Txt.removeprefix z "-").length<=z.length:=by
 have h:=zE z;have b:(Txt.removeprefix z "-").length=(Txt.removeprefix z "-").cps.toList.length:=by simp[Z2]
 have a:z.length=z.cps.toList.length:=by simp[Z2]
 rw[b,h,a];generalize z.cps.toList=l;unfold gM
 split <;> simp
theorem EW {ps:WC}{ws:WF} (h:ps.length≠ws.length):aV ps ws=false:=by unfold aV;rw[Zl h];rfl
theorem F7 {α β:Type}{f:α×β->Bool}{xs:List α}{ys:List β}{i:Nat}{x:α}{y:β} (hx:xs[i]? = some x) (b:ys[i]? = some y) (h:f (x,y)=false):(xs.zip ys).all f=false:=by
 rw[Uh];intro q;rw[T6]at q;have a:(x,y)∈xs.zip ys:=by
  refine TB (i:=i) ?_;rw[Uq];exact⟨hx,b⟩
 rw[q _ a]at h;cases h
theorem Js {α β:Type}{f:α×β->Bool}{xs:List α}{ys:List β} (h:∀(i:Nat) x y,i<min xs.length ys.length->xs[i]? = some x->ys[i]? = some y->f (x,y)=true):(xs.zip ys).all f=true:=by
 rw[T6];intro p b;obtain⟨i,a⟩:=Vk b;rw[Uq]at a;have d:=aI a.1;have c:=aI a.2;exact h i p.1 p.2 (by lia) a.1 a.2
theorem mP {K:Wz}{H:Hp}{xs:WD}{ps:WC}{i:Nat}{x:V} (h:aC K H xs (ps.map Pt.dat)) (hx:xs[i]? = some x):∃p,ps[i]? = some p/\Den K H x p.dat:=by
 obtain⟨d,a,b⟩:=h.get hx;rw[TF]at a;cases e:ps[i]? with
 | none=>rw[e]at a;cases a
 | some p=>rw[e]at a;cases a;exact⟨p,rfl,b⟩
theorem gG {ws:WF}{i:Nat}{y:V} (h:(ws.map V.str)[i]? = some y):∃w,ws[i]? = some w/\y = .str w:=by
 rw[TF]at h;cases e:ws[i]? with
 | none=>rw[e]at h;cases h
 | some w=>rw[e]at h;cases h;exact⟨w,rfl,rfl⟩
theorem JZ {K:Wz}{H0 e H':Hp} (f:LL H0 e) (s:ae e H') {v:V}{pt:Pt} (h:Den K e v pt.dat):Den K (lim H0 H') v pt.dat:=by
 cases pt with
 | word w=>obtain⟨a,rfl,c,d,b⟩:=mw h;exact .tup (c.Ou f s) (.cons (.str d) (.cons (.str b) .nil))
 | hole k=>obtain⟨a,rfl,c,d,b⟩:=mw h;exact .tup (c.Ou f s) (.cons (.str d) (.cons (.str b) .nil))
def bB (pss:WB) (n:Nat):WC:=(Y7 n).map λi=>iJ (pss.map λps=>ps.getD i (.hole 2))
def vK (K:Wz):Sp:=λvs H Q _=>∃(a:Za) (xs:WD) (pss:WB) (n:Nat),vs=[.ref a]/\SqL K H a xs/\aC K H xs (pss.map aJ)/\pss≠[]/\pss.length<=10000/\(∀ps∈pss,POk ps/\ps.length=n) /\
 ∀D acc H',H D=none->ae H H'->H' D=some (.lst acc)->aC K (lim H H') acc ((bB pss n).map Pt.dat)->Q (.ref D) H'
theorem xk (pss:WB) (n:Nat):bB pss (n+1)=bB pss n++[iJ (pss.map λps=>ps.getD n (.hole 2))]:=by simp[bB,List.range_succ]
theorem gq {K:Wz}{H:Hp}{xs:WD}{pss:WB}{i:Nat}{x:V} (h:aC K H xs (pss.map aJ)) (hx:xs[i]? = some x):∃ps,pss[i]? = some ps/\Den K H x (aJ ps):=by
 obtain⟨d,a,b⟩:=h.get hx;rw[TF]at a;cases e:pss[i]? with
 | none=>rw[e]at a;cases a
 | some p=>rw[e]at a;cases a;exact⟨p,rfl,b⟩
end LG
namespace LG
open PySem L2
def Pt.key:Pt->Zf
 | .word w=>.tuple [.int 0,.int w.length,.str w]
 | .hole k=>.tuple [.int 1,.int k,.str ""]
def fF (ps:WC):Zf:=.tuple [.int ps.length,.list (ps.map Pt.key)]
theorem Cz (pt:Pt):pt.key.depth<=5:=by cases pt <;> simp[Pt.key,Yj,Y3]
theorem HZ (ps:WC):(fF ps).depth<=100:=by
 have h:Y3 (ps.map Pt.key)<=5:=cK _ λd hd=>by
  obtain⟨pt,_,rfl⟩:=Tv.mp hd;exact Cz pt
 simp only[fF,Yj,Y3];lia
def Hw:Sh:=.b6 .int (.b6 .int (.b6 .str .vB))
def oW:Sh:=.b6 (.list Hw) .vB
theorem IK (pt:Pt):Hw.has pt.key:=by
 cases pt with
 | word w=>exact⟨_,_,rfl,⟨_,rfl⟩,_,_,rfl,⟨_,rfl⟩,_,_,rfl,⟨_,rfl⟩,rfl⟩
 | hole k=>exact⟨_,_,rfl,⟨_,rfl⟩,_,_,rfl,⟨_,rfl⟩,_,_,rfl,⟨_,rfl⟩,rfl⟩
theorem oh (ps:WC):(Sh.b6 .int oW).has (fF ps):=by
 refine⟨_,_,rfl,⟨_,rfl⟩,_,_,rfl,⟨_,rfl,λx hx=>?_⟩,rfl⟩;obtain⟨pt,_,rfl⟩:=Tv.mp hx;exact IK pt
theorem Kw {p q:Pt} (h:p.key=q.key):p=q:=by
 cases p with
 | word w=>
  cases q with
  | word a=>simp[Pt.key]at h;rw[h.2]
  | hole k=>simp[Pt.key]at h
 | hole k=>
  cases q with
  | word a=>simp[Pt.key]at h
  | hole k'=>
   simp[Pt.key]at h;have:k=k':=by lia
   rw[this]
theorem map_inj {α β:Type}{f:α->β} (c:∀a b,f a=f b->a=b):∀{l l':List α},l.map f=l'.map f->l=l'
 | [],[],_=>rfl
 | [],_::_,h=>by simp at h
 | _::_,[],h=>by simp at h
 | a::r,b::r',h=>by
  rw[TX,TX]at h;injection h with h1 h2;rw[c a b h1,map_inj c h2]
theorem o4 {ps qs:WC} (h:fF ps=fF qs):ps=qs:=by
 simp only[fF,PyData.tuple.injEq,List.cons.injEq,PyData.list.injEq,and_true]at h;exact map_inj (λa b=>Kw) h.2
def yl (l:WB):Prop:=l.Pairwise λa b=>ltv (fF b) (fF a)=false
def sel (pss:WB) (p:List Nat):WB:=p.map λi=>pss.getD i []
theorem Hy {pss:WB}{p:List Nat} (a:p.Perm (Y7 pss.length)):(sel pss p).Perm pss:=by
 have b:(sel pss p).Perm ((Y7 pss.length).map λi=>pss.getD i []):=a.map _
 rwa [gQ]at b
theorem Bq {pss:WB}{p:List Nat} (c:p.Perm (Y7 pss.length)) (h:eQ (pss.map fF) p):yl (sel pss p):=by
 unfold eQ at h;unfold yl sel;rw[Uk]at h ⊢;refine h.imp_of_mem λ{i j} g d q=>?_;have b:i<pss.length:=Uo.mp (c.mem_iff.mp g);have a:j<pss.length:=Uo.mp (c.mem_iff.mp d);have f:(pss.map fF).getD i .none=fF (pss.getD i []):=by simp[Yx,Tu b]
 have e:(pss.map fF).getD j .none=fF (pss.getD j []):=by simp[Yx,Tu a]
 rw[f,e]at q;exact q
theorem Ai {l l':WB} (c:l.Perm l') (h:yl l) (h':yl l'):l=l':=by
 refine map_inj (f:=fF) (λa b=>o4) ?_;refine i7 (Sh.ok (.b6 .int oW)) (λx d=>?_) (c.map _) ?_ ?_
 ·obtain⟨e,_,rfl⟩:=Tv.mp d;exact oh e
 ·rw[Uk];exact h
 ·rw[Uk];exact h'
def F4 (H H':Hp) (acc:WD):Prop:=∀x∈acc,∃t ys,x = .ref t/\H t=none/\H' t=some (.lst ys)/\ys.length<=10000
def qM (K:Wz):Sp:=λvs H Q _=>∃w,vs=[.str w]/\LOk w/\∀p,H p=none->Q (.ref p) (upd H p (.tup [.int w.length,.str w]))
def k9 (K:Wz):Sp:=λvs H Q _=>∃v pt,vs=[v]/\Den K H v (Pt.dat pt)/\pt.ok/\∀r H',ae H H'->Den K (lim H H') r pt.key->Q r H'
def lT (K:Wz):Sp:=λvs H Q _=>∃v ps,vs=[v]/\Den K H v (aJ ps)/\POk ps/\∀r H',ae H H'->Den K (lim H H') r (fF ps)->Q r H'
def nK (K:Wz):Sp:=λvs H Q _=>∃a xs pss,vs=[.ref a]/\SqL K H a xs/\xs.length<64/\aC K H xs (pss.map aJ)/\(∀ps∈pss,POk ps) /\
 ∀D acc H' l,H D=none->ae H H'->H' D=some (.lst acc)->l.Perm pss->yl l->F4 H H' acc->(∀x∈acc,x ≠ .ref D)->aC K (lim H H') acc (l.map aJ)->Q (.ref D) H'
theorem Jf {K:Wz}{H:Hp}{xs:WD}{pss:WB}{p:List Nat}{i:Nat}{x:V} (b:aC K H xs (pss.map aJ)) (d:p.Perm (Y7 pss.length)) (hx:(picked xs p)[i]? = some x) :
  ∃ps,(sel pss p)[i]? = some ps/\ps∈pss/\Den K H x (aJ ps):=by
 unfold picked at hx;rw[TF]at hx;cases e:p[i]? with
 | none=>rw[e]at hx;cases hx
 | some j=>
  rw[e]at hx;cases hx;have a:j<pss.length:=Uo.mp (d.mem_iff.mp (TB e));have f:=b.FQ j (by rw[Tt];exact a);have c:pss[j]? = some pss[j]:=Tu a;refine⟨pss[j],?_,Uj a,?_⟩
  ·unfold sel;rw[TF,e];simp[Yx,c]
  ·have g:(pss.map aJ).getD j .none=aJ pss[j]:=by simp[Yx,c]
   rw[<-g];exact f
theorem M7 {m:Nat} (a:m<3):eqV (([.str "number",.str "name",.str "any"]:WD).getD m .non) (.str (cx m))=true:=by
 match m,a with
 | 0,_=>decide +kernel
 | 1,_=>decide +kernel
 | 2,_=>decide +kernel
theorem Oe {m:Nat} (b:m<3):∀i,i<m->eqV (([.str "number",.str "name",.str "any"]:WD).getD i .non) (.str (cx m))=false:=by
 match m,b with
 | 0,_=>intro i a;lia
 | 1,_=>
  intro i a;have:i=0:=by lia
  subst this;decide +kernel
 | 2,_=>
  intro i a;have:i=0\/i=1:=by lia
  rcases this with rfl | rfl <;> decide +kernel
theorem J7:([.str "number",.str "name",.str "any"]:WD).all ie=true:=rfl
theorem MQ {K:Wz}{H H0 H':Hp} (e:ae H H0) (f:ae H H') {v:V}{pt:Pt} (h:Den K H v pt.dat):Den K (lim H0 H') v pt.dat:=by
 cases pt with
 | word w=>obtain⟨a,rfl,c,d,b⟩:=mw h;exact .tup (c.lim e f) (.cons (.str d) (.cons (.str b) .nil))
 | hole k=>obtain⟨a,rfl,c,d,b⟩:=mw h;exact .tup (c.lim e f) (.cons (.str d) (.cons (.str b) .nil))
theorem j6 {K:Wz}{H H0 H':Hp} (a:ae H H0) (b:ae H H'):∀{ps:WC}{xs:WD},aC K H xs (ps.map Pt.dat)->aC K (lim H0 H') xs (ps.map Pt.dat)
 | [],_,h=>by cases h;exact .nil
 | pt::r,_,h=>by
  cases h with
  | cons c t=>exact .cons (MQ a b c) (j6 a b t)
def looseD (ps:WC):Zf:=.list (ps.map λp=>.int p.loose)
theorem wI {K:Wz}{H:Hp}:∀{ps:WC},aC K H (ps.map λp=>V.int p.loose) (ps.map λp=>PyData.int p.loose)
 | []=>.nil
 | p::r=>.cons (.int _) wI
theorem lX (ps:WC):(Sh.list .int).has (looseD ps):=by
 refine⟨_,rfl,λx hx=>?_⟩;obtain⟨p,_,rfl⟩:=Tv.mp hx;exact⟨_,rfl⟩
theorem DF (ps:WC):(looseD ps).depth<=100:=by
 have h:Y3 (ps.map λp=>PyData.int p.loose)<=0:=cK _ λd a=>by
  obtain⟨p,_,rfl⟩:=Tv.mp a;exact Tw _
 simp only[looseD,Yj];lia
def uL (l:WB) (ps:WC):Prop:=ps∈l/\∀q∈l,ltv (looseD q) (looseD ps)=false/\(looseD q=looseD ps->ltv (fF q) (fF ps)=false)
theorem oY {l c:WB}{p q:WC} (h:uL l p) (h':uL c q) (b:∀x,x∈l↔x∈c):p=q:=by
 have d:=h.2 q ((b q).mpr h'.1);have a:=h'.2 p ((b p).mp h.1);have e:=(Sh.ok (.list .int)).tot _ _ (lX p) (lX q) a.1 d.1;exact o4 ((Sh.ok (.b6 .int oW)).tot _ _ (oh p) (oh q) (a.2 e) (d.2 e.symm))
theorem Hn {l:WB} (j:l≠[]) (i:yl l):∃ps,l[cq (l.map looseD)]? = some ps/\uL l ps:=by
 obtain⟨d,a,o,n⟩:=tz (Sh.ok (.list .int)) (all:=l.map looseD) (λd a=>by obtain⟨ps,_,rfl⟩:=Tv.mp a;exact lX ps) (by intro z;exact j (UD.mp z));rw[TF]at a;cases e:l[cq (l.map looseD)]? with
 | none=>rw[e]at a;cases a
 | some ps=>
  rw[e]at a;cases a;refine⟨ps,rfl,TB e,λq k=>?_⟩;obtain⟨m,b⟩:=Vk k;have c:(l.map looseD)[m]? = some (looseD q):=by rw[TF,b];rfl
  refine⟨o m _ c,λg=>?_⟩;rcases Nat.lt_trichotomy m (cq (l.map looseD))with z | z | z
  ·have:=n m _ z c;rw[g,(Sh.ok (.list .int)).irr _ (lX ps)]at this;cases this
  ·rw[z,e]at b;cases b;exact(Sh.ok (.b6 .int oW)).irr _ (oh _)
  ·have f:m<l.length:=aI b;have h:cq (l.map looseD)<l.length:=aI e;have:=VP.mp i _ m h f z;rw[Tu f]at b;rw[Tu h]at e;cases b;cases e;exact this
def cX (z:Str) (ps:WC):Bool:=aV ps (Y6 z " ")
def KQ (K:Wz) (H H':Hp) (l:WB) (r:V):Prop:=(l=[]/\r = .non)\/∃(t:Za) (ys:WD) (ps:WC),r = .ref t/\H t=none/\H' t=some (.lst ys)/\uL l ps/\Den K (lim H H') r (aJ ps)
def l7 (K:Wz):Sp:=λvs H Q _=>∃(z:Str) (a:Za) (xs:WD) (pss:WB),vs=[.str z,.ref a]/\SqL K H a xs/\xs.length<64/\aC K H xs (pss.map aJ)/\(∀ps∈pss,POk ps)/\LOk z/\Y5 z=true /\
 ∀r H',ae H H'->KQ K H H' (pss.filter (cX z)) r->Q r H'
end LG
namespace LG
open PySem L2 PySem.Builtin PySem.Builtin.Str
def Dk (H:Hp) (d:Za) (n:Nat):Prop:=∃a b c:Int,H d=some (.lst [.int a,.int b,.int c])/\0<=a/\0<=b/\b<2147483579/\0<=c/\c<=n
theorem Dk.mono {H:Hp}{d:Za}{n m:Nat} (h:Dk H d n) (hm:n<=m):Dk H d m:=by
 obtain⟨a,b,c,h1,h2,h3,h4,h5,h6⟩:=h;exact⟨a,b,c,h1,h2,h3,h4,h5,by lia⟩
theorem Dk.lst {H:Hp}{d:Za}{n:Nat} (h:Dk H d n):∃ys,H d=some (.lst ys):=by
 obtain⟨a,b,c,h1,_⟩:=h;exact⟨_,h1⟩
theorem Dk.same {H H':Hp}{d:Za}{n:Nat} (h:Dk H d n) (s:ae H H'):Dk H' d n:=by
 obtain⟨a,b,c,h1,h2⟩:=h;exact⟨a,b,c,s _ _ h1,h2⟩
theorem Dk.upd {H:Hp}{d D:Za}{n:Nat}{o:HO} (h:Dk H d n) (hne:d≠D):Dk (upd H D o) d n:=by
 obtain⟨a,b,c,h1,h2⟩:=h;exact⟨a,b,c,by rw[ao hne];exact h1,h2⟩
theorem Dk.ne {H:Hp}{d p:Za}{n:Nat} (h:Dk H d n) (hp:H p=none):d≠p:=by
 obtain⟨ys,h1⟩:=h.lst;exact aw h1 hp
theorem dw {H H':Hp}{d p:Za}{o:HO} (s:ae (wo d H) H') (h:H p=some o) (hne:d≠p):H' p=some o:=s p o (Zp (YQ hne) h)
theorem mh {l:WF}{r:Int} (b:0<=r) (h1:r<l.length):∃x∈l,atI (l.map V.str) r=some (.str x):=by
 obtain⟨j,rfl⟩:=Va (b:(0:Int)<=r);have a:j<l.length:=by lia
 exact⟨l[j],Uj a,cy (by rw[TF,Tu a];rfl)⟩
theorem IT {z:Str}{r:Int} (b:0<=r) (h1:r<z.length):∃(c i:Nat),atI z.cps.toList r=some c/\z.cps[i]? = some c:=by
 obtain⟨j,rfl⟩:=Va (b:(0:Int)<=r);have a:j<z.cps.size:=by have:z.length=z.cps.size:=rfl;lia
 exact⟨z.cps[j],j,cy (by rw[Up,Uc a]),Uc a⟩
theorem Gb {n:Nat}{i:Int} (h0:0<=i) (h1:i<n):ixN n i=some i.toNat:=by
 unfold ixN;rw[Zn h0,Zn h1]
theorem Fx {xs:WD}{i:Int} (h:0<=i):rR xs none (some i)=xs.take i.toNat:=by
 unfold rR;have a:HT.sIx xs.length 0 none=0:=by simp[HT.sIx]
 rw[a];obtain⟨j,rfl⟩:=Va (h:(0:Int)<=i);rw[HT.xP,Us,List.drop_zero,Nat.sub_zero];rcases Nat.le_total j xs.length with q | q
 ·rw[Nat.min_eq_left q]
 ·rw[Nat.min_eq_right q,TY (Tw _),TY q]
structure WOk (w:Str):Prop where
 word:cS w=true
 len:w.length<=6
 ok:Y5 w=true
theorem GP:sgn 32=false:=by decide
theorem WOk.blank {w:Str} (h:WOk w):32∉w.cps.toList:=λq=>by
 have h1:=h.word;unfold cS jv at h1;rw[Ub,T6]at h1;have:=h1.2 32 q;rw[GP]at this;cases this
def xG:WF:=["get","put","a"]
def yA:WF:=["0","7","12","-3","007"]
def yG:WF:=["id=4","<any>","=","x1","-","A","<","none"]
def Bz:WF:=["abcdefghijklmnopqrstuvwxyz","0123456789","-09az","!\"#$&'()*+,-./:;<=>?@AZ[\\]^_{|}~"]
theorem w1:∀x∈xG,cS x=true/\x.length<=6/\Y5 x=true:=by decide +kernel
theorem w2:∀x∈yA,cS x=true/\x.length<=6/\Y5 x=true:=by decide +kernel
theorem w3:∀x∈yG,cS x=true/\x.length<=6/\Y5 x=true:=by decide +kernel
theorem w4:∀x∈Bz,Y5 x=true/\x.length<=100/\0<x.length/\x.cps.toList.all sgn=true:=by decide +kernel
theorem Ie {p:Nat->Prop}{y:Str} (d:∀c∈y.cps,p c):∀(xs:WF) (acc:Array Nat),(∀x∈xs,∀c∈x.cps,p c)->(∀c∈acc,p c)->(∀c∈xs.foldl (λacc q=>acc++y.cps++q.cps) acc,p c)/\acc.size<=(xs.foldl (λacc q=>acc++y.cps++q.cps) acc).size
 | [],acc,_,h=>⟨h,Tw _⟩
 | x::r,acc,hx,h=>by
  have b:=Ie d r (acc++y.cps++x.cps) (λz e=>hx z (TC _ e)) λc a=>by
   rcases VB.mp a with a | a
   ·rcases VB.mp a with a | a
    ·exact h c a
    ·exact d c a
   ·exact hx x (TH ..) c a
  refine⟨b.1,TN ?_ b.2⟩;rw[Array.size_append,Array.size_append];lia
theorem EY {l:WF} (v:1<=l.length) (w:l.length<=4) (h:∀y∈l,Y5 y=true/\y.length<=1/\∃c,y=⟨#[c]⟩/\sgn c=true):WOk (YH "" l):=by
 have o:=Cw (y:= "") (m:=1) (by decide +kernel) (λy i=>⟨(h y i).1,(h y i).2.1⟩);have u:(("" : Str)).length=0:=rfl;rw[u]at o;refine⟨?_,by lia,o.1⟩;cases l with
 | nil=>simp at v
 | cons x r=>
  have s:=h x (TH ..);obtain⟨c,g,j⟩:=s.2.2;have n:=Ie (p:=λc=>sgn c=true) (y:= "") (λc f=>by rw[show(Yk "").cps = #[]from rfl]at f;simp at f) r x.cps (λy i c f=>by
   obtain⟨_,rfl,t⟩:=(h y (TC _ i)).2.2;simp at f;subst f;exact t) (λc f=>by
   subst g;simp at f;subst f;exact j)
  have e:(YH "" (x::r)).cps=r.foldl (λd q=>d++(("" : Str)).cps++q.cps) x.cps:=rfl;unfold cS jv;rw[e,Ub];constructor
  ·have k:1<=(r.foldl (λd q=>d++(("" : Str)).cps++q.cps) x.cps).size:=TN (by subst g;simp) n.2;cases q:(r.foldl (λd q=>d++(("" : Str)).cps++q.cps) x.cps).toList with
   | nil=>rw[<-T3,q]at k;simp at k
   | cons a b=>rfl
  ·rw[T6];intro c f;exact n.1 c (by simpa using f)
def dR (K:Wz):Sp:=λvs H Q _=>∃(d:Za) (m:Int) (n:Nat),vs=[.ref d,.int m]/\Dk H d n/\n<1000000/\0<m/\m<1000000/\∀(r:Int) H',ae (wo d H) H'->Dk H' d (n+1)->0<=r->r<m->Q (.int r) H'
def gJ (K:Wz):Sp:=λvs H Q _=>∃(d:Za) (n:Nat),vs=[.ref d]/\Dk H d n/\n<900000/\∀(x:Str) H',ae (wo d H) H'->Dk H' d (n+6)->WOk x->Q (.str x) H'
structure fP (m:Nat) (x:Str) (ws:WF):Prop where
 eq:x=YH " " ws
 pos:1<=ws.length
 le:ws.length<=m
 wd:∀w∈ws,WOk w
theorem fP.split {m:Nat}{x:Str}{ws:WF} (h:fP m x ws):Y6 x " " = ws:=by
 rw[h.eq];exact B6 (by intro e;have:=h.pos;rw[e]at this;simp at this) λw hw=>(h.wd w hw).blank
theorem fP.ok {m:Nat}{x:Str}{ws:WF} (h:fP m x ws) (d:m<=12):Y5 x=true/\x.length<=84:=by
 have a:=Cw (y:= " ") (m:=6) (by decide +kernel) (λy b=>⟨(h.wd y b).ok,(h.wd y b).len⟩);have c:((" " : Str)).length=1:=rfl;rw[c,<-h.eq]at a;have:=h.le;exact⟨a.1,by lia⟩
def jG (K:Wz):Sp:=λvs H Q _=>∃(d:Za) (m:Int) (n:Nat),vs=[.ref d,.int m]/\Dk H d n/\n<800000/\0<m/\m<13/\∀(x:Str) (ws:WF) H',ae (wo d H) H'->Dk H' d (n+80)->fP m.toNat x ws->Q (.str x) H'
def Drawn (w:Str) (p:Pt):Prop:=p = .word w\/(p = .hole (z6 w.cps.toList)/\z6 w.cps.toList<2)\/p = .hole 2
end LG
namespace LG
open PySem L2
structure yD (ws:WF):Prop where
 pos:1<=ws.length
 le:ws.length<=12
 wd:∀w∈ws,WOk w
theorem yD.line {ws:WF} (h:yD ws):fP 12 (YH " " ws) ws:=⟨rfl,h.pos,h.le,h.wd⟩
def nA (K:Wz):Sp:=λvs H Q _=>∃(d:Za) (m:Int) (n:Nat),vs=[.ref d,.int m]/\Dk H d n/\n<700000/\0<=m/\m<=60 /\
 ∀D (ls:WF) H',H D=none->ae (wo d H) H'->Dk H' d (n+2000)->H' D=some (.lst (ls.map V.str))->(∀x∈ls,∃ws,fP 12 x ws)->ls.length<=m.toNat->Q (.ref D) H'
def M9 (Hs:Hp) (acc:WD):Prop:=∀x∈acc,∃(s:Za) (ws:WF),x = .ref s/\Hs s=some (.lst (ws.map V.str))/\yD ws
theorem Kj {r:Int} (a:0<=r) (h1:r<3):∃v:Int,atI [V.int 3,V.int 6,V.int 12] r=some (.int v)/\0<v/\v<13:=by
 have:r=0\/r=1\/r=2:=by lia
 rcases this with rfl | rfl | rfl
 ·exact⟨3,rfl,by decide,by decide⟩
 ·exact⟨6,rfl,by decide,by decide⟩
 ·exact⟨12,rfl,by decide,by decide⟩
theorem yD.set {ws:WF} (h:yD ws) {i:Nat}{x:Str} (hx:WOk x):yD (ws.set i x):=by
 refine⟨by rw[List.length_set];exact h.pos,by rw[List.length_set];exact h.le,λw a=>?_⟩;rcases List.mem_or_eq_of_mem_set a with q | q
 ·exact h.wd w q
 ·rw[q];exact hx
structure Sy (ws:WF) (ps:WC):Prop where
 ok:POk ps
 len:ps.length=ws.length
 takes:∀(i:Nat) w p,ws[i]? = some w->ps[i]? = some p->p.takes w=true
theorem yI:∀{ps qs:WC},(∀p∈ps,p.ok)->(∀p∈qs,p.ok)->ps.map Pt.dat=qs.map Pt.dat->ps=qs
 | [],[],_,_,_=>rfl
 | [],_::_,_,_,h=>by simp at h
 | _::_,[],_,_,h=>by simp at h
 | p::r,q::t,hp,hq,h=>by
  rw[TX,TX]at h;injection h with h1 h2;rw[Dc (hp p (TH ..)) (hq q (TH ..)) h1,yI (λx a=>hp x (TC _ a)) (λx a=>hq x (TC _ a)) h2]
theorem FH (ps:WC):(Sh.list Kn).has (aJ ps):=by
 refine⟨_,rfl,λx hx=>?_⟩;obtain⟨pt,_,rfl⟩:=Tv.mp hx;exact ID pt
theorem rY {ps a:WC} (c:∀p∈ps,p.ok) (b:∀p∈a,p.ok):Y9 (aJ ps) (aJ a)=decide (ps=a):=by
 rw[Ue,decide_eq_true_eq,(Sh.ok (.list Kn)).eqv _ _ (FH ps) (FH a)];constructor
 ·intro h;simp only[aJ,PyData.list.injEq]at h;exact yI c b h
 ·rintro rfl;rfl
section
variable {K:Wz}{H0 H H':Hp}{d S:Za}{ws:WF}{n n' m:Nat}{xs:WD}{pss:WB}
end
def xa (K:Wz):Sp:=λvs H Q _=>∃(a:Za) (ns:List Int),vs=[.ref a]/\SqL K H a (ns.map V.int)/\ns.length<=63/\∀H',Q (.bl true) H'
def oD:Option WC->Zf
 | none=>.none
 | some ps=>aJ ps
structure QG (l:WB) (o:Option WC):Prop where
 nil:o=none↔l=[]
 least:∀ps,o=some ps->uL l ps
theorem zr (pss:WB):(PyData.list (pss.map aJ)).depth<=100:=by
 have h:Y3 (pss.map aJ)<=90:=cK _ λd a=>by
  obtain⟨b,_,rfl⟩:=Tv.mp a;exact cs b
 simp only[Yj];lia
end LG
namespace LG
open PySem L2 PySem.Builtin PySem.Builtin.Str
def PtW:Pt->Prop
 | .word w=>cS w=true/\w.length<=500/\Y5 w=true
 | .hole k=>k<3
def PW (ps:WC):Prop:=∀p∈ps,PtW p
def Words (ws:WF):Prop:=∀w∈ws,cS w=true
def wj (pss:WB) (ws:WF):Bool:=pss.any λps=>aV ps ws
def sR (ps:WC) (oss:WB):Bool:=oss.any λos=>wO ps os
theorem PtW.ok {p:Pt} (h:PtW p):p.ok:=by
 cases p with
 | word w=>exact⟨TN h.2.1 (by decide),h.2.2⟩
 | hole k=>exact h
def JN (w:Str):WC->Bool
 | []=>false
 | p::_=>p.takes w
def mi (oss:WB) (w:Str):WB:=(oss.filter (JN w)).map List.tail
def wkD (w:Str):Zf:=.tuple [.int w.length,.str w]
def lkD (ws:WF):Zf:=.tuple [.int ws.length,.list (ws.map wkD)]
def wlt (a b:Str):Bool:=ltv (wkD a) (wkD b)
def Bd (w:Str):Prop:=w.length<=500/\Y5 w=true
structure LW (k:Nat) (named:WF) (x:Str):Prop where
 wd:cS x=true
 kd:dB x=k
 no:x∉named
 le:∀y,cS y=true->dB y=k->y∉named->wlt y x=false
 bd:Bd x
def named:WC->WF
 | []=>[]
 | .word w::r=>w::named r
 | .hole _::r=>named r
structure FW (p:Pt) (ps:WC) (oss:WB) (w:Str):Prop where
 tk:p.takes w=true
 nd:sR ps (mi oss w)=false
 le:∀y,p.takes y=true->sR ps (mi oss y)=false->wlt y w=false
 bd:Bd w
structure LP (ps:WC) (oss:WB) (ws:WF):Prop where
 tk:aV ps ws=true
 kn:wj oss ws=false
 le:∀vs,aV ps vs=true->wj oss vs=false->aQ (vs.map wkD) (ws.map wkD)=false
 bd:∀w∈ws,Bd w
structure PLn (pss qss:WB) (ws:WF):Prop where
 pa:wj pss ws≠wj qss ws
 wd:Words ws
 bd:∀w∈ws,Bd w
 ne:ws≠[]
 ln:ws.length<=12
 le:∀vs,wj pss vs≠wj qss vs->ltv (lkD vs) (lkD ws)=false
structure Qc (pss qss:WB) (L:WE):Prop where
 of:∀ws∈L,∃ps∈pss,LP ps qss ws
 all:∀ps∈pss,sR ps qss=true\/∃ws∈L,LP ps qss ws
def pG (pss:WB):Prop:=∀ps∈pss,PW ps/\ps≠[]/\ps.length<=12
def lnV (ws:WF):V:=.str (YH " " ws)
def oS:Option WF->V
 | none=>.non
 | some ws=>lnV ws
end LG
namespace LG
open PySem L2
theorem d5 {C:St->Prop}{σ:St}{f:Option V->St} (h:∃u0,σ=f u0) (k:∀u0,C (f u0)):C σ:=by
 obtain⟨u0,rfl⟩:=h;exact k _
theorem rO {C:St->Prop}{σ:St}{f:Option V->Option V->St} (h:∃u0 u1,σ=f u0 u1) (k:∀u0 u1,C (f u0 u1)):C σ:=by
 obtain⟨u0,u1,rfl⟩:=h;exact k _ _
theorem Oy {C:St->Prop}{σ:St}{f:Option V->Option V->Option V->St} (h:∃u0 u1 u2,σ=f u0 u1 u2) (k:∀u0 u1 u2,C (f u0 u1 u2)):C σ:=by
 obtain⟨u0,u1,u2,rfl⟩:=h;exact k _ _ _
end LG
namespace LG
open PySem L2 PySem.Builtin PySem.Builtin.Str
end LG
namespace LG
open PySem L2
def Pt.place:Pt->Zf
 | .word w=>.tuple [.int 0,.int w.length,.str w]
 | .hole k=>.tuple [.int (k+1),.int 0,.str ""]
end LG
namespace LG
open PySem L2 PySem.Builtin PySem.Builtin.Str
structure Mx (P N:WB):Prop where
 nd:N.Nodup
 ko:yl N
 mem:∀p,p∈N↔p∈P/\∀q∈P,wO p q=true->q=p
def pts (d:Zf):List Nat:=d.shown.cps.toList
theorem EZ:∀c<127,sgn c=true->Unicode.isPrintable c=true/\c≠10/\c≠13/\c≠9:=by decide +kernel
theorem Df {q c:Nat} (h:sgn c=true):reprChar q c=if c=q\/c=92 then[92,c]else[c]:=by
 have d:c<127:=by simp only[sgn,Ub,decide_eq_true_eq]at h;lia
 obtain⟨g,b,a,f⟩:=EZ c d h;unfold reprChar;by_cases e:c=q\/c=92
 ·rw[Zn e,Zn (by simpa using e)]
 ·rw[Zo e,Zo (by simpa using e),Zo (by simpa using b),Zo (by simpa using a),Zo (by simpa using f),Zn g]
theorem zm (q:Nat):∀(l:List Nat) (acc:Array Nat),(l.foldl (λout c=>out++(reprChar q c).toArray) acc).toList=acc.toList++l.flatMap (reprChar q)
 | [],acc=>by simp
 | c::l,acc=>by
  rw[List.foldl_cons,zm q l,UY];simp
theorem CQ (x:Str):pts (.str x)=reprQuote x::(x.cps.toList.flatMap (reprChar (reprQuote x))++[reprQuote x]):=by
 unfold pts;rw[PyData.shown_str];unfold reprText;rw[VS,<-Array.foldl_toList,zm];simp
def Sgs (x:Str):Prop:=∀c∈x.cps.toList,sgn c=true
theorem sV (a b:Str):pts (.tuple [.str a,.str b])=40::(pts (.str a)++44::32::(pts (.str b)++[41])):=by
 have f:(("(" : Str)).cps.toList=[40]:=by decide +kernel
 have e:(((if ([PyData.str a,PyData.str b].length == 1)=true then ",)" else ")" : String)):Str).cps.toList=[41]:=by
  show((")" : String):Str).cps.toList=[41];decide +kernel
 have d:((", " : Str)).cps.toList=[44,32]:=by decide +kernel
 have c:∀x y:Str,YI ", " [x,y]=x ++ ", " ++ y:=λ_ _=>rfl;unfold pts;rw[PyData.shown_tuple,YJ,YJ,PyData.shownAll_nil,c];simp only[Str.cps_append,UE,f,e,d,UZ,U9,List.nil_append]
def jn:List (List Nat)->List Nat
 | []=>[]
 | [t]=>t
 | t::u::r=>t++44::32::jn (u::r)
theorem yC:∀xs:WI,(YI ", " (PyData.shownAll xs)).cps.toList=jn (xs.map pts)
 | []=>by rw[PyData.shownAll_nil];rfl
 | [x]=>by rw[YJ,PyData.shownAll_nil];rfl
 | x::y::r=>by
  have b:((", " : Str)).cps.toList=[44,32]:=by decide +kernel
  have a:=yC (y::r);rw[YJ]at a;rw[YJ,YJ];have e:YI ", " (x.shown::y.shown::PyData.shownAll r)=x.shown ++ ", " ++ YI ", " (y.shown::PyData.shownAll r):=rfl;rw[e];simp only[Str.cps_append,UE,b,UZ,a];rfl
theorem Aa (xs:WI):pts (.list xs)=91::(jn (xs.map pts)++[93]):=by
 have b:(("[" : Str)).cps.toList=[91]:=by decide +kernel
 have a:(("]" : Str)).cps.toList=[93]:=by decide +kernel
 unfold pts;rw[PyData.shown_list];simp only[Str.cps_append,UE,b,a,yC,UZ,U9,List.nil_append];rfl
theorem A0 {w:Str} (h:cS w=true):Sgs w:=by
 unfold cS jv at h;rw[Ub]at h;exactλc hc=>T6.mp h.2 c hc
theorem kC:Sgs "word" /\ Sgs "hole" /\ Sgs "number" /\ Sgs "name" /\ Sgs "any" :=by
 refine⟨?_,?_,?_,?_,?_⟩ <;> exact A0 (by decide +kernel)
def vT (pss:WB):Zf:=.list (pss.map aJ)
def kyD (n:Nat) (one other:WB):Zf:=.list [.int n,vT one,vT other]
def L4 (n:Nat):List Nat:=((toString (n:Int):String):Str).cps.toList
theorem Jm (n:Nat):pts (.int n)=L4 n:=by
 unfold pts L4;rw[PyData.shown_int]
structure Sw (P Q:WB) (l:WF):Prop where
 wd:∀x∈l,cS x=true/\Bd x
 up:l.Pairwise λa b=>wlt b a=false
 all:∀y,cS y=true->∃x∈l,wlt y x=false/\mi P x=mi P y/\mi Q x=mi Q y
def dr (n:Nat) (P:WB):WB:=P.map (List.drop n)
def at_ (n:Nat) (w:Str) (P:WB):WB:=P.filter λps=>(ps.getD n (.hole 2)).takes w
def ng (c:Nat):Str:=⟨#[45,c]⟩
theorem Nc {c:Nat} (h:sgn c=true):c<127:=by simp only[sgn,Ub,decide_eq_true_eq]at h;lia
theorem CZ {q:Nat}:∀{l:List Nat},(∀c∈l,sgn c=true)->(l.flatMap (reprChar q)).length<=2 * l.length
 | [],_=>by simp
 | c::l,h=>by
  have b:=CZ (q:=q) (l:=l) λd a=>h d (TC _ a);rw[UY,TJ,TR,Df (h c (TH ..))]
  split
  ·show 2+_<=_;lia
  ·show 1+_<=_;lia
theorem eR {x:Str} (h:Sgs x):(pts (.str x)).length<=2 * x.length+2:=by
 rw[CQ,TR,TJ,T1];have:=CZ (q:=reprQuote x) h;have e:x.length=x.cps.toList.length:=by simp[Z2]
 lia
theorem FZ {p:Pt} (h:PtW p):(pts p.dat).length<=1100:=by
 cases p with
 | word w=>
  show(pts (.tuple [.str "word",.str w])).length<=1100;rw[sV];have c:=eR kC.1;have b:("word" : Str).length=4:=by decide +kernel
  have a:=eR (A0 h.1);have d:=h.2.1;simp only[TR,TJ,Ut];lia
 | hole k=>
  show(pts (.tuple [.str "hole",.str (cx k)])).length<=1100;rw[sV];have c:=eR kC.2.1;have b:("hole" : Str).length=4:=by decide +kernel
  have a:(pts (.str (cx k))).length<=20:=by
   match k with
   | 0=>have:=eR kC.2.2.1;have e:("number" : Str).length=6:=(by decide +kernel);show(pts (.str "number")).length<=20;lia
   | 1=>have:=eR kC.2.2.2.1;have e:("name" : Str).length=4:=(by decide +kernel);show(pts (.str "name")).length<=20;lia
   | k+2=>have:=eR kC.2.2.2.2;have e:("any" : Str).length=3:=(by decide +kernel);show(pts (.str "any")).length<=20;lia
  simp only[TR,TJ,Ut];lia
theorem FA {B:Nat}:∀{l:List (List Nat)},(∀t∈l,t.length<=B)->(jn l).length<=l.length * (B+2)
 | [],_=>by simp[jn]
 | [t],h=>by
  have:=h t (TH ..);show t.length<=1 * (B+2);lia
 | t::u::r,h=>by
  have b:=FA (l:=u::r) λx a=>h x (TC _ a);have:=h t (TH ..);show(t++44::32::jn (u::r)).length<=(u::r).length.succ * (B+2);rw[TJ,TR,TR,Nat.succ_mul];lia
theorem yw {B:Nat}{xs:WI} (h:∀x∈xs,(pts x).length<=B):(pts (.list xs)).length<=xs.length * (B+2)+2:=by
 rw[Aa,TR,TJ,T1];have:=FA (B:=B) (l:=xs.map pts) λt b=>by obtain⟨x,a,rfl⟩:=Tv.mp b;exact h x a
 rw[Tt]at this;lia
theorem xp {ps:WC} (h:PW ps) (c:ps.length<=12):(pts (aJ ps)).length<=13226:=by
 have:=yw (B:=1100) (xs:=ps.map Pt.dat) λx b=>by obtain⟨p,a,rfl⟩:=Tv.mp b;exact FZ (h p a)
 rw[Tt]at this;exact TN this (by have:=Nat.mul_le_mul_right 1102 c;lia)
theorem vc (pss:WB):(vT pss).showable=true/\(vT pss).hasDict=false:=by
 have k:∀p:Pt,p.dat.showable=true/\p.dat.hasDict=false:=λp=>by cases p <;> exact⟨rfl,rfl⟩
 have i:∀l:WI,(∀d∈l,d.showable=true/\d.hasDict=false)->Z5 l=true/\PyData.hasDictAll l=false:=by
  intro l
  induction l with
  | nil=>intro _;exact⟨by simp only[Z5],by simp only[PyData.hasDictAll]⟩
  | cons d l m=>
   intro h;obtain⟨a,b⟩:=m λx n=>h x (TC _ n);obtain⟨c,e⟩:=h d (TH ..);exact⟨by simp only[Z5,a,c,Bool.and_self],by simp only[PyData.hasDictAll,b,e,Bool.or_self]⟩
 have j:∀f:WC,(aJ f).showable=true/\(aJ f).hasDict=false:=λf=>by
  have:=i (f.map Pt.dat) λd g=>by obtain⟨p,_,rfl⟩:=Tv.mp g;exact k p
  exact⟨by show(PyData.list _).showable=true;simp only[PyData.showable];exact this.1,by show(PyData.list _).hasDict=false;simp only[PyData.hasDict];exact this.2⟩
 have:=i (pss.map aJ) λd g=>by obtain⟨p,_,rfl⟩:=Tv.mp g;exact j p
 exact⟨by show(PyData.list _).showable=true;simp only[PyData.showable];exact this.1,by show(PyData.list _).hasDict=false;simp only[PyData.hasDict];exact this.2⟩
def ky (n:Nat) (P Q:WB):Key:=.inr (tR (kyD n P Q))
structure Base (m:Nat) (P0 Q0:WB):Prop where
 m12:m<=12
 p:∀ps∈P0,PW ps/\ps.length=m
 q:∀ps∈Q0,PW ps/\ps.length=m
 lp:P0.length<=7
 lq:Q0.length<=8
structure KnK (P0 Q0:WB) (kvs:List (Key×V)):Prop where
 nd:(kvs.map (·.1)).Nodup
 of:∀k∈kvs.map (·.1),∃n P Q,n<13/\P.Sublist P0/\Q.Sublist Q0/\k=ky n P Q
end LG
namespace LG
open PySem L2
section
variable {K:Wz}
def ptV:Pt->WD
 | .word w=>[.str "word",.str w]
 | .hole k=>[.str "hole",.str (cx k)]
def ME (H:Hp) (v:V) (p:Pt):Prop:=∃t,v = .ref t/\H t=some (.tup (ptV p))
def NL (o:HO):Prop:=∀xs,o ≠ .lst xs
def tO (H:Hp):Hp:=λa=>match H a with
 | some (.lst _)=>none
 | o=>o
theorem C6 {H:Hp}{a:Za}{o:HO} (h:tO H a=some o):NL o/\H a=some o:=by
 unfold tO at h
 split at h
 ·cases h
 ·rename_i n;exact⟨λxs e=>n xs (by rw[h,e]),h⟩
theorem FY {H:Hp}{a:Za}{o:HO} (h:H a=some o) (n:NL o):tO H a=some o:=by
 unfold tO
 split
 ·rename_i xs e;rw[h]at e;cases e;exact(n xs rfl).elim
 ·exact h
theorem Cn {H H':Hp} (k:∀a o,NL o->H a=some o->H' a=some o):ae (tO H) (tO H'):=λa o h=>by
 obtain⟨n,e⟩:=C6 h;exact FY (k a o n e) n
theorem FP {xs:WD}:NL (.tup xs):=λys e=>by cases e
inductive PL (K:Wz) (H:Hp):WH->WB->Prop
 | nil:PL K H [] []
 | cons {a:Za}{ys:WD}{as:WH}{ps:WC}{pss:WB} (h1:H a=some (.lst ys)) (h2:aC K (tO H) ys (ps.map Pt.dat)) (h3:a∉as) (t:PL K H as pss):PL K H (a::as) (ps::pss)
theorem ME.den {H:Hp}{v:V}{p:Pt} (h:ME H v p) (a:PtW p):Den K (tO H) v p.dat:=by
 obtain⟨t,rfl,h⟩:=h;cases p with
 | word w=>exact .tup (.of (FY h FP)) (.cons (.str (by decide +kernel)) (.cons (.str a.2.2) .nil))
 | hole k=>exact .tup (.of (FY h FP)) (.cons (.str (by decide +kernel)) (.cons (.str yZ) .nil))
theorem Od {H H':Hp} (s:ae H H'):ae (tO H) (tO H'):=Cn λa o _ h=>s a _ h
theorem Lr {H:Hp}{a:Za}{xs ys:WD} (h:H a=some (.lst xs)):ae (tO H) (tO (upd H a (.lst ys))):=Cn λc o n hc=>by
 have:c≠a:=λz=>by rw[z,h]at hc;cases hc;exact n _ rfl
 rw[ao this];exact hc
end
def bJ {α:Type} (st:List (Key×List α)) (k:Key) (x:α):List (Key×List α):=
 if (st.any λp=>decide (p.1=k))=true then st.map (λp=>if p.1=k then(p.1,p.2++[x])else p)else st++[(k,[x])]
def bZ {α:Type} (l:List (Key×α)):List (Key×List α):=l.foldl (λst p=>bJ st p.1 p.2) []
def grp {α:Type} (ks:List Key) (xs:List α):List (List α):=(bZ (ks.zip xs)).map (·.2)
theorem zN {α:Type}{l:List (Key×α)}{i:Nat}{p:Key×α} (h:l[i]? = some p):bZ (l.take (i+1))=bJ (bZ (l.take i)) p.1 p.2:=by
 unfold bZ;rw[T4,h,Vy];rfl
inductive gp {α β:Type} (R:α->β->Prop):List α->List β->Prop
 | nil:gp R [] []
 | cons {a:α}{b:β}{l:List α}{m:List β} (h:R a b) (t:gp R l m):gp R (a::l) (b::m)
theorem gp.len {α β:Type}{R:α->β->Prop}{l:List α}{m:List β} (h:gp R l m):l.length=m.length:=by
 induction h with
 | nil=>rfl
 | cons _ _ ih=>rw[TR,TR,ih]
theorem gp.mono {α β:Type}{R S:α->β->Prop} (f:∀a b,R a b->S a b) {l:List α}{m:List β} (h:gp R l m):gp S l m:=by
 induction h with
 | nil=>exact .nil
 | cons h _ ih=>exact .cons (f _ _ h) ih
theorem gp.snoc {α β:Type}{R:α->β->Prop}{l:List α}{m:List β}{a:α}{b:β} (h:gp R l m) (r:R a b):gp R (l++[a]) (m++[b]):=by
 induction h with
 | nil=>exact .cons r .nil
 | cons h _ ih=>exact .cons h ih
theorem gp.at {α β:Type}{R:α->β->Prop}{l:List α}{m:List β} (h:gp R l m):∀{i:Nat}{a:α},l[i]? = some a->∃b,m[i]? = some b/\R a b:=by
 induction h with
 | nil=>intro i a e;cases e
 | cons h _ c=>
  intro i a e;cases i with
  | zero=>cases e;exact⟨_,rfl,h⟩
  | succ i=>exact c e
def Fw {α β:Type} (R:α->β->Prop) (p:Key×List α) (q:Key×List β):Prop:=p.1=q.1/\gp R p.2 q.2
theorem Jc {α β:Type}{R:α->β->Prop}{st:List (Key×List α)}{tt:List (Key×List β)}{k:Key}{x:α}{y:β} (h:gp (Fw R) st tt) (r:R x y):gp (Fw R) (bJ st k x) (bJ tt k y):=by
 have d:(st.any λp=>decide (p.1=k))=(tt.any λp=>decide (p.1=k)):=by
  induction h with
  | nil=>rfl
  | cons h _ c=>rw[UA,UA,c,h.1]
 unfold bJ;rw[d]
 split
 ·rename_i hh;clear d hh
  induction h with
  | nil=>exact .nil
  | @cons a b l m h _ c=>
   refine .cons ?_ c;show Fw R (if a.1=k then(a.1,a.2++[x])else a) (if b.1=k then(b.1,b.2++[y])else b);rw[h.1]
   split
   ·exact⟨rfl,h.2.snoc r⟩
   ·exact h
 ·exact h.snoc ⟨rfl,.cons r .nil⟩
theorem Dv {α β:Type}{R:α->β->Prop}{xs:List α}{ys:List β} (h:gp R xs ys) (ks:List Key):gp (gp R) (grp ks xs) (grp ks ys):=by
 have f:∀(ks:List Key) {xs:List α}{ys:List β}{st:List (Key×List α)}{tt:List (Key×List β)},gp R xs ys->gp (Fw R) st tt->gp (Fw R) ((ks.zip xs).foldl (λst p=>bJ st p.1 p.2) st) ((ks.zip ys).foldl (λst p=>bJ st p.1 p.2) tt):=λks=>by
  induction ks with
  | nil=>intro xs ys st tt _ h;simpa using h
  | cons k ks c=>
   intro xs ys st tt e d;cases e with
   | nil=>simpa using d
   | cons r t=>exact c t (Jc d r)
 have z:=f ks h (st:=[]) (tt:=[]) .nil;unfold grp bZ;generalize(ks.zip xs).foldl (λst p=>bJ st p.1 p.2) []=a at z;generalize(ks.zip ys).foldl (λst p=>bJ st p.1 p.2) []=b at z
 induction z with
 | nil=>exact .nil
 | cons h _ c=>exact .cons h.2 c
inductive GL (H0 H:Hp) (D:Za):WH->List (Key×V)->List (Key×WD)->Prop
 | nil:GL H0 H D [] [] []
 | cons {a:Za}{k:Key}{g:WD}{as:WH}{kvs:List (Key×V)}{st:List (Key×WD)} (h:H a=some (.lst g)) (hn:H0 a=none) (hD:a≠D) (ha:a∉as) (hk:k∉kvs.map (·.1)) (hs:st.map (·.1)=kvs.map (·.1)) (t:GL H0 H D as kvs st):GL H0 H D (a::as) ((k,.ref a)::kvs) ((k,g)::st)
theorem GL.keys {H0 H:Hp}{D:Za}{a:WH}{kvs:List (Key×V)}{st:List (Key×WD)} (h:GL H0 H D a kvs st):st.map (·.1)=kvs.map (·.1):=by
 cases h with
 | nil=>rfl
 | cons _ _ _ _ _ b _=>simp[b]
theorem GL.vals {H0 H:Hp}{D:Za}{a:WH}{kvs:List (Key×V)}{st:List (Key×WD)} (h:GL H0 H D a kvs st):kvs.map (·.2)=a.map V.ref:=by
 induction h with
 | nil=>rfl
 | cons _ _ _ _ _ _ _ b=>simp[b]
theorem GL.lists {H0 H:Hp}{D:Za}{b:WH}{kvs:List (Key×V)}{st:List (Key×WD)} (h:GL H0 H D b kvs st):gp (λa g=>H a=some (.lst g)) b (st.map (·.2)):=by
 induction h with
 | nil=>exact .nil
 | cons h _ _ _ _ _ _ c=>exact .cons h c
theorem GL.mem {H0 H:Hp}{D:Za}{c:WH}{kvs:List (Key×V)}{st:List (Key×WD)} (h:GL H0 H D c kvs st):∀a∈c,(∃g,H a=some (.lst g))/\H0 a=none/\a≠D:=by
 induction h with
 | nil=>intro a b;cases b
 | cons h d f _ _ _ _ i=>
  intro a b;rcases TM.mp b with e | b
  ·rw[e];exact⟨⟨_,h⟩,d,f⟩
  ·exact i a b
theorem GL.keep {H0 H H':Hp}{D:Za}{b:WH}{kvs:List (Key×V)}{st:List (Key×WD)} (h:GL H0 H D b kvs st) (k:∀a∈b,H' a=H a):GL H0 H' D b kvs st:=by
 induction h with
 | nil=>exact .nil
 | cons h e f c g i t d=>exact .cons ((k _ (.head _)).trans h) e f c g i (d λa z=>k a (.tail _ z))
theorem GL.snoc {H0 H:Hp}{D L:Za}{k:Key}{g:WD}{b:WH}{kvs:List (Key×V)}{st:List (Key×WD)} (h:GL H0 H D b kvs st) (hL:H L=some (.lst g)) (e:H0 L=none) (f:L≠D) (c:L∉b) (d:k∉kvs.map (·.1)) :
  GL H0 H D (b++[L]) (kvs++[(k,.ref L)]) (st++[(k,g)]):=by
 induction h with
 | nil=>exact .cons hL e f (by simp) (by simp) rfl .nil
 | @cons a k' g' b kvs st h hn' hD' ha' hk' hs t ih=>
  rw[TM,not_or]at c;simp only[TX,TM,not_or]at d;refine .cons h hn' hD' ?_ ?_ (by simp[hs]) (ih c.2 d.2)
  ·show a∉b++[L];rw[TV,not_or];exact⟨ha',λz=>c.1 (Tz.mp z).symm⟩
  ·show k'∉(kvs++[(k,V.ref L)]).map (·.1)
   rw[TK,TV,not_or];exact⟨hk',λz=>d.1 (Tz.mp z).symm⟩
theorem GQ {kvs:List (Key×V)}{k:Key} (h:jr kvs k=none):k∉kvs.map (·.1)/\(kvs.any λkv=>decide (kv.1=k))=false:=by
 induction kvs with
 | nil=>exact⟨by simp,rfl⟩
 | cons p r b=>
  by_cases e:p.1=k
  ·rw[tX e]at h;cases h
  ·have a:jr r k=none:=by
    unfold jr at h ⊢;rw[UO,Zl e]at h;exact h
   obtain⟨d,c⟩:=b a;refine⟨λz=>?_,by rw[UA,Zl e,c];rfl⟩;rcases TM.mp z with w | w
   ·exact e w.symm
   ·exact d w
theorem any_keys {α β:Type}{st:List (Key×α)}{kvs:List (Key×β)} (h:st.map (·.1)=kvs.map (·.1)) (k:Key):(st.any λp=>decide (p.1=k))=(kvs.any λp=>decide (p.1=k)):=by
 have a:∀{γ:Type} (l:List (Key×γ)),(l.any λp=>decide (p.1=k))=(l.map (·.1)).any λx=>decide (x=k):=λl=>by
  rw[List.any_map];rfl
 rw[a,a,h]
theorem GL.grow {H0 H:Hp}{D:Za}{c:WH}{kvs:List (Key×V)}{st:List (Key×WD)}{k:Key}{v x:V} (h:GL H0 H D c kvs st):jr kvs k=some v->∃a g,v = .ref a/\a∈c/\H a=some (.lst g)/\g∈st.map (·.2)/\GL H0 (upd H a (.lst (g++[x]))) D c kvs (bJ st k x):=by
 have l:∀{c kvs st},GL H0 H D c kvs st->jr kvs k=some v->∃a g,v = .ref a/\a∈c/\H a=some (.lst g)/\g∈st.map (·.2)/\(st.any λp=>decide (p.1=k))=true/\GL H0 (upd H a (.lst (g++[x]))) D c kvs (st.map λp=>if p.1=k then(p.1,p.2++[x])else p):=λ{c kvs st} h=>by
  induction h with
  | nil=>intro e;cases e
  | @cons a k' g c kvs st h hn hD ha hk hs t ih=>
   intro e;by_cases d:k' = k
   ·rw[tX d]at e;cases e;refine⟨a,g,rfl,.head _,h,by simp,by rw[UA,Zk d];rfl,?_⟩;have y:(st.map λp=>if p.1=k then(p.1,p.2++[x])else p)=st:=by
     have f:∀p∈st,(if p.1=k then(p.1,p.2++[x])else p)=p:=λp u=>Zo λz=>hk (by rw[<-hs,d,<-z];exact U6 u);exact(T8 f).trans (List.map_id' st)
    rw[TX,Zn d,y];exact .cons ab hn hD ha hk hs (t.keep λb w=>ao λ(z:b=a)=>ha (z ▸ w))
   ·have s:jr kvs k=some v:=by
     unfold jr at e ⊢;rw[UO,Zl d]at e;exact e
    obtain⟨b,r,f,i,q,o,j,n⟩:=ih s;refine⟨b,r,f,.tail _ i,q,TC _ o,by rw[UA,j,Bool.or_true],?_⟩;rw[TX,Zo d];have m:a≠b:=λz=>ha (z ▸ i);refine .cons (by rw[ao m];exact h) hn hD ha hk ?_ n;rw[T7,<-hs];exact T8 λp _=>by show(if p.1=k then(p.1,p.2++[x])else p).1=p.1;split <;> rfl
 intro e;obtain⟨a,g,f,i,q,o,j,n⟩:=l h e;refine⟨a,g,f,i,q,o,?_⟩;unfold bJ;rw[Zn j];exact n
theorem GL.more {H0 H:Hp}{D L:Za}{a:WH}{kvs:List (Key×V)}{st:List (Key×WD)}{k:Key}{x:V} (h:GL H0 H D a kvs st) (e:jr kvs k=none) (hL:H L=some (.lst [x])) (d:H0 L=none) (f:L≠D) (c:L∉a) :
  putK kvs k (.ref L)=kvs++[(k,.ref L)]/\GL H0 H D (a++[L]) (kvs++[(k,.ref L)]) (bJ st k x):=by
 obtain⟨g,b⟩:=GQ e;refine⟨by unfold putK;rw[b];rfl,?_⟩;unfold bJ;rw[any_keys h.keys k,b];exact h.snoc hL d f c g
def wsD (ws:WF):Zf:=.list (ws.map PyData.str)
def gD (wss:WE):Zf:=.list (wss.map wsD)
structure GOk (n:Nat) (wss:WE):Prop where
 ne:wss≠[]
 le:wss.length<64
 EF:n<=12
 pos:0<n
 row:∀ws∈wss,ws.length=n/\∀w∈ws,PtW (.word w)
def wAt (wss:WE) (p:Nat):WF:=wss.map λws=>ws.getD p Yh
def uAt (wss:WE) (p:Nat):WF:=eU [] (wAt wss p)
def gF (wss:WE) (p:Nat) (s l:Int):Bool:=decide (2<=((uAt wss p).length:Int)) && (decide (((uAt wss p).length:Int)<=s) && (uAt wss p).all λw=>decide (l<=((wAt wss p).countP λz=>decide (z=w):Nat)))
section
variable {K:Wz}{H:Hp}
theorem pM:∀{ws:WF}{ys:WD},aC K H ys (ws.map PyData.str)->ys=ws.map V.str
 | [],_,h=>by cases h;rfl
 | w::ws,_,h=>by
  cases h with
  | cons a t=>
   cases a;rw[pM t];rfl
theorem Lz {x:V}{ws:WF} (h:Den K H x (wsD ws)):∃r,x = .ref r/\SqL K H r (ws.map V.str):=by
 cases h with
 | lst hq t=>
  rw[pM t]at hq;exact⟨_,rfl,hq⟩
theorem Dz {x:V}{wss:WE} (h:Den K H x (gD wss)):∃a xs,x = .ref a/\SqL K H a xs/\aC K H xs (wss.map wsD):=by
 cases h with
 | lst hq t=>exact⟨_,_,rfl,hq,t⟩
theorem r9 {xs:WD}{wss:WE}{i:Nat}{x:V} (h:aC K H xs (wss.map wsD)) (hx:xs[i]? = some x):∃ws r,wss[i]? = some ws/\x = .ref r/\SqL K H r (ws.map V.str):=by
 obtain⟨d,a,b⟩:=h.get hx;rw[TF]at a;cases e:wss[i]? with
 | none=>rw[e]at a;cases a
 | some ws=>
  rw[e]at a;cases a;obtain⟨r,rfl,c⟩:=Lz b;exact⟨ws,r,rfl,rfl,c⟩
end
theorem Gg {wss:WE}{ws:WF}{i p:Nat} (h:wss[i]? = some ws):wAt (wss.take (i+1)) p=wAt (wss.take i) p++[ws.getD p Yh]:=by
 unfold wAt;rw[T4,h];simp
theorem tV (zs:WF):(eU [] zs).length<=zs.length:=by
 have:=DC zs [];simpa using this
theorem GOk.LA {n:Nat}{wss:WE} (h:GOk n wss) (p:Nat):(wAt wss p).length<64:=by unfold wAt;rw[Tt];exact h.le
theorem GOk.O7 {n:Nat}{wss:WE} (h:GOk n wss) (p:Nat):(uAt wss p).length<64:=VI (tV _) (h.LA p)
section
variable {K:Wz}{H H':Hp}{P:Za}
theorem Bh {ps:WG}{a:Za}{o:HO} (h:H P=some (.tbl ps)) (e:H a=some o) (n:∀qs,o ≠ .tbl qs):a≠P:=λz=>by
 rw[z,h]at e;cases e;exact n _ rfl
theorem Hc {ps:WG}{a:Za}{o:HO} (h:H P=some (.tbl ps)) (r:Rd H a o) (n:∀qs,o ≠ .tbl qs):Rd (wo P H) a o:=by
 rcases r with r | ⟨b,r⟩
 ·exact .inl (Zp (Bh h r n) r)
 ·exact .inr ⟨b,by rw[av (Bh h r λqs e=>by cases e)];exact r⟩
theorem yd {ps:WG}{a:Za}{xs:WD} (h:H P=some (.tbl ps)) (r:SqL K H a xs):SqL K (wo P H) a xs:=by
 rcases r with r | r
 ·exact .inl (Hc h r λqs e=>by cases e)
 ·exact .inr r
theorem oJ {ps:WG}{a:Za}{xs:WD} (h:H P=some (.tbl ps)) (r:SqT K H a xs):SqT K (wo P H) a xs:=by
 rcases r with r | r
 ·exact .inl (Hc h r λqs e=>by cases e)
 ·exact .inr r
theorem C0 {ps:WG}{v:V}{d:Zf} (h:H P=some (.tbl ps)) (r:Den K H v d):Den K (wo P H) v d:=r.keep (λ_ _ q=>yd h q) λ_ _ q=>oJ h q
theorem zl {ps:WG}{v:WD}{d:WI} (h:H P=some (.tbl ps)) (r:aC K H v d):aC K (wo P H) v d:=r.keep (λ_ _ q=>yd h q) λ_ _ q=>oJ h q
theorem aR {pos:Pos}{qual:Str} (h:ig P pos qual H):∃ps,H P=some (.tbl ps):=let ⟨ps,e,_⟩:=h;⟨ps,e⟩
theorem aF {pos:Pos}{qual:Str} (h:ig P pos qual H) (s:ae H H'):ig P pos qual H':=by
 obtain⟨ps,h1,h2,h3⟩:=h;refine⟨ps,s _ _ h1,h2,h3.imp id λ⟨c,a,b⟩=>⟨c,a,s _ _ b⟩⟩
theorem FR {c:Za}{qual:Str}{H1 H2:Hp}{u v:Wy} (h:H2=H1\/∃ps,H1 P=some (.tbl ps)/\H1 c=none/\H2=upd (upd H1 P (.tbl (ps ++ #[u,v,.ref c]))) c (qz c qual)):ae (wo P H1) H2:=by
 rcases h with rfl | ⟨ps,_,a,rfl⟩
 ·exact bA
 ·refine aA ?_ (aA cu bA);by_cases e:c=P
  ·rw[e,cu]
  ·rw[av e];exact a
theorem yr {a:Za}{o:HO}{ps:WG} (s:ae (wo P H) H') (h:H P=some (.tbl ps)) (e:H a=some o) (n:∀qs,o ≠ .tbl qs):H' a=some o:=s _ _ (Zp (Bh h e n) e)
end
def jz (wss:WE) (n:Nat) (s l:Int):List Nat:=(Y7 n).filter λp=>gF wss p s l
def plc (wss:WE) (n:Nat) (s l:Int):Option Nat:=if jz wss n s l=[]then none else some ((jz wss n s l).getD (cq ((jz wss n s l).map λp=>.int (uAt wss p).length)) 0)
def Rq:Option Nat->V
 | none=>.non
 | some p=>.int p
theorem Ep {wss:WE}{i:Nat}{s l:Int}:jz wss (i+1) s l=jz wss i s l++[i].filter λp=>gF wss p s l:=by
 unfold jz;rw[List.range_succ,UJ]
theorem Ge {wss:WE}{i:Nat}{s l:Int}:(jz wss i s l).length<=i:=by
 unfold jz;exact TN (UG _ _) (by rw[UX];exact Tw _)
theorem yQ {wss:WE}{n p:Nat}{s l:Int} (h:p∈jz wss n s l):p<n/\gF wss p s l=true:=by
 unfold jz at h;obtain⟨h1,h2⟩:=Ud.mp h;exact⟨Uo.mp h1,h2⟩
theorem ze (wss:WE) (ps:List Nat) (h:ps≠[]):cq (ps.map λp=>PyData.int (uAt wss p).length)<ps.length:=by
 obtain⟨d,b,_⟩:=tz (all:=ps.map λp=>PyData.int (uAt wss p).length) (Sh.ok .int) (λd a=>by
  obtain⟨p,_,rfl⟩:=Tv.mp a;exact⟨_,rfl⟩) (λe=>h (UD.mp e))
 have:=aI b
 rwa [Tt]at this
theorem yp {wss:WE}{n p:Nat}{s l:Int} (h:plc wss n s l=some p):p<n/\gF wss p s l=true:=by
 unfold plc at h
 split at h
 ·cases h
 ·rename_i hne;have a:=ze wss _ hne;rw[TU,Tu a]at h;cases h;exact yQ (Uj a)
theorem J3 (i:Int):(PyData.int i).depth<=100:=T2 _
structure DP {α:Type} (l:List (Key×α)) (p:Key×List α):Prop where
 ne:p.2≠[]
 of:∀x∈p.2,(p.1,x)∈l
 le:p.2.length<=l.length
theorem L7 {α:Type}{l:List (Key×α)}{st:List (Key×List α)}{k:Key}{x:α} (h:∀p∈st,DP l p):∀p∈bJ st k x,DP (l++[(k,x)]) p:=λp c=>by
 have d:∀q∈st,DP (l++[(k,x)]) q:=λq a=>⟨(h q a).ne,λy b=>U4 _ ((h q a).of y b),by rw[TJ];exact TN (h q a).le (Nat.le_add_right _ _)⟩;unfold bJ at c
 split at c
 ·obtain⟨q,a,rfl⟩:=Tv.mp c;by_cases e:q.1=k
  ·rw[Zn e];refine⟨by simp,λy b=>?_,?_⟩
   ·rcases TV.mp b with z | z
    ·exact(d q a).of y z
    ·rw[Tz.mp z];show(q.1,x)∈_;rw[e];simp
   ·show(q.2++[x]).length<=_;rw[TJ,TJ,T1,T1];exact Nat.succ_le_succ (h q a).le
  ·rw[Zo e];exact d q a
 ·rcases TV.mp c with z | z
  ·exact d p z
  ·rw[Tz.mp z];refine⟨by simp,λy b=>?_,by simp⟩;rw[Tz.mp b];simp
theorem wJ {α:Type} (l:List (Key×α)):∀p∈bZ l,DP l p:=by
 have e:∀(r a:List (Key×α)) (b:List (Key×List α)),(∀p∈b,DP a p)->∀p∈r.foldl (λb p=>bJ b p.1 p.2) b,DP (a++r) p:=λr=>by
  induction r with
  | nil=>intro a b h p c;rw[Uu];exact h p c
  | cons q r d=>
   intro a b h p c;have:=d (a++[q]) (bJ b q.1 q.2) (L7 h) p c
   rwa [UZ,List.singleton_append]at this
 exact e l [] [] (λp c=>by cases c)
def byW (wss:WE) (p:Nat):List WE:=grp ((wAt wss p).map Sum.inr) wss
theorem zip_map {α β:Type} (f:α->β):∀l:List α,(l.map f).zip l=l.map λx=>(f x,x)
 | []=>rfl
 | a::l=>by rw[TX,U2,zip_map f l];rfl
theorem pZ {wss g:WE}{p:Nat} (h:g∈byW wss p):g≠[]/\g.length<=wss.length/\(∀ws∈g,ws∈wss)/\∃w:Str,∀ws∈g,ws.getD p Yh=w:=by
 unfold byW grp at h;obtain⟨q,d,rfl⟩:=Tv.mp h;have f:((wAt wss p).map (Sum.inr:Str->Key)).zip wss=wss.map λws=>(Sum.inr (ws.getD p Yh),ws):=by
  unfold wAt;rw[T7];exact zip_map _ wss
 rw[f]at d;have c:=wJ _ q d;have b:∀ws∈q.2,ws∈wss/\(Sum.inr (ws.getD p Yh):Key)=q.1:=λws a=>by
  obtain⟨v,j,e⟩:=Tv.mp (c.of ws a);injection e with e1 e2;rw[<-e2];exact⟨j,e1⟩
 refine⟨c.ne,?_,λws a=>(b ws a).1,?_⟩
 ·have:=c.le
  rwa [Tt]at this
 ·cases e:q.1 with
  | inl i=>
   obtain⟨ws,a⟩:=UQ _ c.ne;have:=(b ws a).2;rw[e]at this;cases this
  | inr w=>
   refine⟨w,λws a=>?_⟩;have:=(b ws a).2;rw[e]at this;exact Sum.inr.inj this
theorem GOk.sub {n p:Nat}{wss g:WE} (h:GOk n wss) (hg:g∈byW wss p):GOk n g:=by
 obtain⟨h1,h2,h3,_⟩:=pZ hg;exact⟨h1,VI h2 h.le,h.EF,h.pos,λws hws=>h.row ws (h3 ws hws)⟩
theorem iZ {x:Str}:∀{zs us:WF},x∈eU us zs↔x∈us\/x∈zs
 | [],us=>by simp[eU]
 | z::zs,us=>by
  unfold eU;rw[iZ];by_cases h:z∈us
  ·rw[Zn h,TM];constructor
   ·rintro(a | a)
    ·exact .inl a
    ·exact .inr (.inr a)
   ·rintro(a | a | a)
    ·exact .inl a
    ·rw[a];exact .inl h
    ·exact .inr a
  ·rw[Zo h,TV,Tz,TM];constructor
   ·rintro((a | a) | a)
    ·exact .inl a
    ·exact .inr (.inl a)
    ·exact .inr (.inr a)
   ·rintro(a | a | a)
    ·exact .inl (.inl a)
    ·exact .inl (.inr a)
    ·exact .inr a
theorem gW:∀{zs us:WF},us.Nodup->(eU us zs).Nodup
 | [],us,h=>h
 | z::zs,us,h=>by
  unfold eU;refine gW ?_;by_cases e:z∈us
  ·rw[Zn e];exact h
  ·rw[Zo e,Vg];refine⟨h,by simp,λa c b d=>?_⟩;rw[Tz.mp d];exactλf=>e (f ▸ c)
def two (wss:WE) (p:Nat):Bool:=decide (2<=(uAt wss p).length)
theorem Fv {wss:WE}{p:Nat} (h:two wss p=true):∃x y,x≠y/\x∈wAt wss p/\y∈wAt wss p:=by
 have d:2<=(uAt wss p).length:=Zm h;have b:(uAt wss p).Nodup:=gW (by simp);have a:∀z∈uAt wss p,z∈wAt wss p:=λz c=>(iZ.mp c).resolve_left (by simp)
 match e:uAt wss p,d,b,a with
 | x::y::r,_,b,a=>exact⟨x,y,λz=>(UI.mp b).1 (by rw[z];simp),a x (by simp),a y (by simp)⟩
theorem M8 {wss:WE}{p:Nat}{x y:Str} (c:x≠y) (hx:x∈wAt wss p) (d:y∈wAt wss p):two wss p=true:=by
 have a:x∈uAt wss p:=iZ.mpr (.inr hx);have b:y∈uAt wss p:=iZ.mpr (.inr d);refine Zk ?_
 match e:uAt wss p,a,b with
 | [z],a,b=>exact(c ((Tz.mp a).trans (Tz.mp b).symm)).elim
 | _::_::r,_,_=>simp
def mu (n:Nat) (wss:WE):Nat:=(Y7 n).countP (two wss)
theorem K7 (n:Nat) (wss:WE):mu n wss<=n:=by
 unfold mu;exact TN List.countP_le_length (by rw[UX];exact Tw _)
theorem E7 {l:List Nat}{f g:Nat->Bool}{p:Nat} (h:∀q,f q=true->g q=true) (b:p∈l) (h1:f p=false) (h2:g p=true):l.countP f<l.countP g:=by
 induction l with
 | nil=>cases b
 | cons a l d=>
  have c:l.countP f<=l.countP g:=List.countP_mono_left λq _=>h q;rw[US,US];rcases TM.mp b with e | e
  ·rw[<-e,h1,h2];simp;lia
  ·have:=d e;have i:(if f a=true then 1 else 0)<=(if g a=true then 1 else 0):=by
    cases hf:f a with
    | false=>simp
    | true=>rw[h a hf];simp
   lia
theorem KN {n p:Nat}{wss g:WE} (m:p<n) (j:two wss p=true) (l:g∈byW wss p):mu n g<mu n wss:=by
 obtain⟨_,_,o,w,h⟩:=pZ l;refine E7 (p:=p) (λq r=>?_) (Uo.mpr m) ?_ j
 ·obtain⟨x,y,c,e,f⟩:=Fv r;have i:∀z∈wAt g q,z∈wAt wss q:=λz s=>by
   obtain⟨k,d,rfl⟩:=Tv.mp s;exact U6 (o k d)
  exact M8 c (i x e) (i y f)
 ·rw[Uh];intro z;obtain⟨x,y,c,e,f⟩:=Fv z;obtain⟨a,u,rfl⟩:=Tv.mp e;obtain⟨b,t,rfl⟩:=Tv.mp f;exact c ((h a u).trans (h b t).symm)
theorem xU {wss:WE}{p:Nat}{s l:Int} (h:gF wss p s l=true):two wss p=true:=by
 unfold gF at h;have:=Zm (U5.mp h).1;exact Zk (by lia)
def prt (n:Nat) (s l:Int):Nat->WE->List WE
 | 0,g=>[g]
 | N+1,g=>match plc g n s l with
  | none=>[g]
  | some p=>(byW g p).flatMap (prt n s l N)
theorem kq {n:Nat}{s l:Int}:∀{N:Nat}{wss:WE},GOk n wss->∀g∈prt n s l N wss,GOk n g
 | 0,wss,h,g,hg=>by rw[Tz.mp hg];exact h
 | N+1,wss,h,g,hg=>by
  unfold prt at hg
  split at hg
  ·rw[Tz.mp hg];exact h
  ·rename_i p _;obtain⟨_,b,a⟩:=UK.mp hg;exact kq (h.sub b) g a
theorem vX {K:Wz}{H:Hp}{xs:WD}{wss:WE}:aC K H xs (wss.map wsD)->gp (λx ws=>Den K H x (wsD ws)) xs wss:=by
 induction wss generalizing xs with
 | nil=>intro h;cases h;exact .nil
 | cons ws wss b=>
  intro h;cases h with
  | cons a t=>exact .cons a (b t)
theorem wA {K:Wz}{H:Hp}{xs:WD}{wss:WE} (h:gp (λx ws=>Den K H x (wsD ws)) xs wss):aC K H xs (wss.map wsD):=by
 induction h with
 | nil=>exact .nil
 | cons h _ ih=>exact .cons h ih
def tot {α:Type} (st:List (Key×List α)):Nat:=(st.map λp=>p.2.length).sum
theorem ES {α:Type}{st:List (Key×List α)}{k:Key}{x:α} (h:(st.map (·.1)).Nodup):((bJ st k x).map (·.1)).Nodup/\tot (bJ st k x)=tot st+1:=by
 unfold bJ
 split
 ·rename_i ha;have e:(st.map λp=>if p.1=k then(p.1,p.2++[x])else p).map (·.1)=st.map (·.1):=by
   rw[T7];exact T8 λp _=>by show(if p.1=k then(p.1,p.2++[x])else p).1=p.1;split <;> rfl
  refine⟨by rw[e];exact h,?_⟩;have f:∀l:List (Key×List α),(l.map (·.1)).Nodup->(l.any λp=>decide (p.1=k))=true->tot (l.map λp=>if p.1=k then(p.1,p.2++[x])else p)=tot l+1:=λl=>by
   induction l with
   | nil=>intro _ h;cases h
   | cons a l j=>
    intro m ha;have c:=UI.mp m;by_cases e:a.1=k
    ·have o:(l.map λp=>if p.1=k then(p.1,p.2++[x])else p)=l:=by
      have:∀p∈l,(if p.1=k then(p.1,p.2++[x])else p)=p:=λp d=>Zo λz=>c.1 (by show a.1∈_;rw[e,<-z];exact U6 d);exact(T8 this).trans (List.map_id' l)
     rw[TX,Zn e,o];simp[tot];lia
    ·have g:(l.any λp=>decide (p.1=k))=true:=by
      rw[UA,Zl e]at ha;simpa using ha
     have:=j c.2 g;rw[TX,Zo e];simp only[tot,TX,Uw]at this ⊢;lia
  exact f st h ha
 ·rename_i ha;refine⟨?_,by simp[tot]⟩;rw[TK,Vg];refine⟨h,by simp,λa n b i e=>?_⟩;apply ha;rw[TX,U0,Tz]at i;obtain⟨p,d,rfl⟩:=Tv.mp n;rw[UC];exact⟨p,d,Zk (e.trans i)⟩
theorem uz {α:Type} (l:List (Key×α)):tot (bZ l)=l.length:=by
 have c:∀(r:List (Key×α)) (a:List (Key×List α)),(a.map (·.1)).Nodup->tot (r.foldl (λa p=>bJ a p.1 p.2) a)=tot a+r.length:=λr=>by
  induction r with
  | nil=>intro a _;rfl
  | cons q r b=>
   intro a h;have:=ES (k:=q.1) (x:=q.2) h;rw[List.foldl_cons,b _ this.1,this.2,TR];lia
 have:=c l [] (by simp);simpa[bZ,tot]using this
def iG {α:Type} (gs:List (List α)):Nat:=(gs.map List.length).sum
theorem Af (wss:WE) (p:Nat):iG (byW wss p)=wss.length:=by
 have h:=uz (((wAt wss p).map (Sum.inr:Str->Key)).zip wss);have e:iG (byW wss p)=tot (bZ (((wAt wss p).map (Sum.inr:Str->Key)).zip wss)):=by
  unfold iG byW grp tot;rw[T7];rfl
 rw[e,h,Ul,Tt];unfold wAt;rw[Tt,Vm]
theorem pA {n:Nat}{s l:Int}:∀{N:Nat}{wss:WE},wss≠[]->(prt n s l N wss).length<=wss.length
 | 0,wss,h=>by
  show 1<=_;exact Vs.mpr h
 | N+1,wss,h=>by
  unfold prt
  split
  ·show 1<=_;exact Vs.mpr h
  ·rename_i p _;have b:∀gs:List WE,(∀g∈gs,g≠[])->(gs.flatMap (prt n s l N)).length<=iG gs:=λgs=>by
    induction gs with
    | nil=>intro _;exact Tw _
    | cons g gs e=>
     intro a;rw[UY,TJ];have i:=pA (n:=n) (s:=s) (l:=l) (N:=N) (a g (by simp));have f:=e λd c=>a d (by simp[c]);simp only[iG,TX,Uw]at f ⊢;lia
   have:=b (byW wss p) λg a=>(pZ a).1;rw[Af]at this;exact this
theorem Jv {n:Nat}{s l:Int}{N:Nat}{wss:WE}{p:Nat} (i:Nat):(((byW wss p).take i).flatMap (prt n s l N)).length<=wss.length:=by
 have d:∀gs:List WE,(∀g∈gs,g≠[])->(gs.flatMap (prt n s l N)).length<=iG gs:=λgs=>by
  induction gs with
  | nil=>intro _;exact Tw _
  | cons g gs c=>
   intro b;rw[UY,TJ];have j:=pA (n:=n) (s:=s) (l:=l) (N:=N) (b g (by simp));have e:=c λh f=>b h (by simp[f]);simp only[iG,TX,Uw]at e ⊢;lia
 have a:∀(gs:List WE) (i:Nat),iG (gs.take i)<=iG gs:=λgs=>by
  induction gs with
  | nil=>intro i;simp[iG]
  | cons g gs c=>
   intro i;cases i with
   | zero=>simp[iG]
   | succ i=>
    have:=c i;simp only[iG,List.take_succ_cons,TX,Uw]at this ⊢;lia
 have j:=d ((byW wss p).take i) λg b=>(pZ (UT b)).1;have e:=a (byW wss p) i;rw[Af]at e;lia
def hU (A B:Hp):Hp:=λb=>match A b with
 | some o=>some o
 | none=>B b
section
variable {A B H:Hp}
theorem Pz:ae A (hU A B):=λb o e=>by unfold hU;rw[e]
theorem Sb (a:ae A H) (b:ae B H):ae B (hU A B):=λc o e=>by
 unfold hU;cases q:A c with
 | none=>exact e
 | some o'=>
  have h1:=a c o' q;have h2:=b c o e;rw[h1]at h2;exact h2
theorem PJ (a:ae A H) (b:ae B H):ae (hU A B) H:=λc o e=>by
 unfold hU at e
 split at e
 ·rename_i o' q;cases e;exact a c _ q
 ·exact b c o e
theorem xo {c:Za} (a:A c=none) (b:B c=none):hU A B c=none:=by unfold hU;rw[a];exact b
theorem PN {c:Za} (h:hU A B c≠none):A c≠none\/B c≠none:=by
 unfold hU at h
 split at h
 ·rename_i o q;exact .inl (by rw[q];simp)
 ·exact .inr h
end
theorem jS {P G:Za}{pos:Pos}{qual:Str}{H:Hp}{xs ys:WD} (h:ig P pos qual H) (f:H G=some (.lst xs)):ig P pos qual (upd H G (.lst ys)):=by
 obtain⟨j,d,i,g⟩:=h;have a:P≠G:=nn d f
 refine⟨j,by rw[ao a];exact d,i,g.imp id λ⟨c,x,y⟩=>⟨c,x,?_⟩⟩;have b:c≠G:=nn y f
 rw[ao b];exact y
def jA (ws:WF):WC:=ws.map Pt.word
def byL (rss:WE):List WE:=grp (rss.map λws=>(Sum.inl (ws.length:Int):Key)) rss
theorem BH {rss g:WE} (h:g∈byL rss):g≠[]/\g.length<=rss.length/\(∀ws∈g,ws∈rss)/\∃n:Nat,∀ws∈g,ws.length=n:=by
 unfold byL grp at h;obtain⟨q,f,rfl⟩:=Tv.mp h;rw[zip_map]at f;have c:=wJ _ q f;have b:∀ws∈q.2,ws∈rss/\(Sum.inl (ws.length:Int):Key)=q.1:=λws a=>by
  obtain⟨v,j,e⟩:=Tv.mp (c.of ws a);injection e with e1 e2;rw[<-e2];exact⟨j,e1⟩
 refine⟨c.ne,?_,λws a=>(b ws a).1,?_⟩
 ·have:=c.le
  rwa [Tt]at this
 ·obtain⟨i,d⟩:=UQ _ c.ne;refine⟨i.length,λws a=>?_⟩;have:=(b ws a).2.trans (b i d).2.symm;have:=Sum.inl.inj this;lia
theorem Hf (rss:WE):iG (byL rss)=rss.length:=by
 have h:=uz ((rss.map λa=>(Sum.inl (a.length:Int):Key)).zip rss);have e:iG (byL rss)=tot (bZ ((rss.map λa=>(Sum.inl (a.length:Int):Key)).zip rss)):=by
  unfold iG byL grp tot;rw[T7];rfl
 rw[e,h,Ul,Tt,Vm]
def kG (rss:WE):Prop:=rss.length<64/\∀ws∈rss,0<ws.length/\ws.length<=12/\∀w∈ws,PtW (.word w)
def gn (g:WE):Nat:=(g.headD []).length
theorem qK {rss g:WE} (h:kG rss) (j:g∈byL rss):GOk (gn g) g:=by
 obtain⟨i,k,f,n,d⟩:=BH j;obtain⟨a,r,rfl⟩:∃w r,g=w::r:=by
  cases g with
  | nil=>exact(i rfl).elim
  | cons w r=>exact⟨w,r,rfl⟩
 have e:gn (a::r)=n:=d a (by simp);have:=h.2 a (f a (by simp));have l:=d a (by simp);refine⟨i,VI k h.1,by lia,by lia,λc b=>⟨by rw[e];exact d c b,(h.2 c (f c b)).2.2⟩⟩
def x8 (s l:Int) (g:WE):WB:=(prt (gn g) s l 13 g).map λg'=>bB (g'.map jA) (gn g)
def gth (s l:Int) (rss:WE):WB:=(byL rss).flatMap (x8 s l)
theorem zC (s l:Int) (rss:WE) (i:Nat):(((byL rss).take i).flatMap (x8 s l)).length<=rss.length:=by
 have d:∀gs:List WE,(∀g∈gs,g≠[])->(gs.flatMap (x8 s l)).length<=iG gs:=λgs=>by
  induction gs with
  | nil=>intro _;exact Tw _
  | cons g gs c=>
   intro b;rw[UY,TJ];have j:(x8 s l g).length<=g.length:=by unfold x8;rw[Tt];exact pA (b g (by simp))
   have e:=c λh f=>b h (by simp[f]);simp only[iG,TX,Uw]at e ⊢;lia
 have a:∀(gs:List WE) (i:Nat),iG (gs.take i)<=iG gs:=λgs=>by
  induction gs with
  | nil=>intro i;simp[iG]
  | cons g gs c=>
   intro i;cases i with
   | zero=>simp[iG]
   | succ i=>
    have:=c i;simp only[iG,List.take_succ_cons,TX,Uw]at this ⊢;lia
 have j:=d ((byL rss).take i) λg b=>(BH (UT b)).1;have e:=a (byL rss) i;rw[Hf]at e;lia
theorem IZ {ps:WC} (a:ps≠[]) (h:∀p∈ps,PtW p):PtW (iJ ps):=by
 cases ps with
 | nil=>exact(a rfl).elim
 | cons p r=>
  have b:=h p (by simp);show PtW (if r.all (λq=>decide (q=p))=true then p else if r.all (λq=>decide (q.around=p.around))=true then .hole p.around else .hole 2)
  split
  ·exact b
  ·split
   ·exact p6 b.ok
   ·exact(by decide:2<3)
theorem BF {n:Nat}{g:WE} (h:GOk n g):PW (bB (g.map jA) n)/\bB (g.map jA) n≠[]/\(bB (g.map jA) n).length<=12:=by
 have f:(bB (g.map jA) n).length=n:=by unfold bB;rw[Tt,UX]
 refine⟨λp d=>?_,λe=>?_,by rw[f];exact h.EF⟩
 ·unfold bB at d;obtain⟨i,m,rfl⟩:=Tv.mp d;have k:=Uo.mp m;refine IZ (λe=>h.ne (UD.mp (UD.mp e))) λq j=>?_;obtain⟨_,b,rfl⟩:=Tv.mp j;obtain⟨ws,c,rfl⟩:=Tv.mp b;have l:=h.row ws c;have a:i<ws.length:=by lia
  unfold jA;rw[TU,TF,Tu a];exact l.2 _ (Uj a)
 ·have:=congrArg List.length e;rw[f]at this;have o:=h.pos;simp at this;lia
theorem JH {s l:Int}{g:WE} (h:GOk (gn g) g):pG (x8 s l g):=λps hps=>by
 unfold x8 at hps;obtain⟨g',hg',rfl⟩:=Tv.mp hps;exact BF (kq h g' hg')
theorem L9 {s l:Int}{rss:WE} (h:kG rss):pG (gth s l rss):=λps hps=>by
 obtain⟨g,hg,hp⟩:=UK.mp hps;exact JH (qK h hg) ps hp
def bX {α:Type} (l:List (Key×α)):List Key:=l.foldl (λks p=>if (ks.any λq=>decide (q=p.1))=true then ks else ks++[p.1]) []
theorem Nq {k:Key}{ks:List Key}:(ks.any λq=>decide (q=k))=true↔k∈ks:=by
 rw[UC];constructor
 ·rintro⟨q,hq,e⟩;rw[<-Zm e];exact hq
 ·exactλh=>⟨k,h,Zk rfl⟩
theorem tN {α:Type}{l:List (Key×α)}{p:Key×α} (h:p.1∈bX l):bX (l++[p])=bX l:=by
 have e:bX (l++[p])=if ((bX l).any λq=>decide (q=p.1))=true then bX l else bX l++[p.1]:=by
  unfold bX;rw[Vy];rfl
 rw[e,Zn (Nq.mpr h)]
theorem qx {α:Type}{l:List (Key×α)}{p:Key×α} (h:p.1∉bX l):bX (l++[p])=bX l++[p.1]:=by
 have e:bX (l++[p])=if ((bX l).any λq=>decide (q=p.1))=true then bX l else bX l++[p.1]:=by
  unfold bX;rw[Vy];rfl
 rw[e,Zo (λz=>h (Nq.mp z))]
theorem snoc_ind {α:Type}{C:List α->Prop} (b:C []) (c:∀l x,C l->C (l++[x])) (l:List α):C l:=by
 have:∀r:List α,C r.reverse:=λr=>by
  induction r with
  | nil=>exact b
  | cons x r a=>rw[List.reverse_cons];exact c _ _ a
 have e:=this l.reverse
 rwa [List.reverse_reverse]at e
theorem rc {α:Type} (l:List (Key×α)):(bX l).Nodup:=by
 refine snoc_ind (C:=λl=>(bX l).Nodup) Vj (λl p d=>?_) l;by_cases c:p.1∈bX l
 ·rw[tN c];exact d
 ·rw[qx c,Vg];refine⟨d,by simp,λa f b g=>?_⟩;rw[Tz.mp g];exactλe=>c (e ▸ f)
theorem qb {α:Type}{k:Key} (l:List (Key×α)):k∈bX l↔∃x,(k,x)∈l:=by
 refine snoc_ind (C:=λl=>k∈bX l↔∃x,(k,x)∈l) (by simp[bX]) (λl p c=>?_) l;have e:k∈bX (l++[p])↔k∈bX l\/k=p.1:=by
  by_cases b:p.1∈bX l
  ·rw[tN b];exact⟨.inl,λh=>h.elim id λz=>z ▸ b⟩
  ·rw[qx b,TV,Tz]
 rw[e,c];constructor
 ·rintro(⟨x,a⟩ | rfl)
  ·exact⟨x,U4 _ a⟩
  ·exact⟨p.2,Ua _ (Tz.mpr rfl)⟩
 ·rintro⟨x,a⟩;rcases TV.mp a with a | a
  ·exact .inl ⟨x,a⟩
  ·exact .inr (by rw[<-Tz.mp a])
def ofK {α:Type} (l:List (Key×α)) (k:Key):List α:=(l.filter λp=>decide (p.1=k)).map (·.2)
theorem uu {α:Type} (l:List (Key×α)) (p:Key×α) (k:Key):ofK (l++[p]) k=if p.1=k then ofK l k++[p.2]else ofK l k:=by
 unfold ofK;rw[UJ,TK];by_cases h:p.1=k
 ·rw[Zn h];simp[h]
 ·rw[Zo h];simp[h]
theorem Hk {α:Type}{l:List (Key×α)}{k:Key} (h:k∉bX l):ofK l k=[]:=by
 unfold ofK;rw[UD,Vz];intro p hp e;have e':=Zm e;exact h ((qb l).mpr ⟨p.2,by rw[<-e'];exact hp⟩)
theorem Ex {α:Type} (l:List (Key×α)):bZ l=(bX l).map λk=>(k,ofK l k):=by
 refine snoc_ind (C:=λl=>bZ l=(bX l).map λk=>(k,ofK l k)) rfl (λl p c=>?_) l;have e:bZ (l++[p])=bJ (bZ l) p.1 p.2:=by
  unfold bZ;rw[Vy];rfl
 rw[e,c];unfold bJ;by_cases h:p.1∈bX l
 ·rw[tN h];have b:(((bX l).map λk=>(k,ofK l k)).any λq=>decide (q.1=p.1))=true:=by
   rw[UC];exact⟨_,Tv.mpr ⟨_,h,rfl⟩,Zk rfl⟩
  rw[Zn b,T7];refine T8 λk a=>?_;show(if k=p.1 then(k,ofK l k++[p.2])else(k,ofK l k))=(k,ofK (l++[p]) k);rw[uu];by_cases e:k=p.1
  ·rw[Zn e,Zn e.symm]
  ·rw[Zo e,Zo (YQ e)]
 ·rw[qx h];have b:¬ (((bX l).map λk=>(k,ofK l k)).any λq=>decide (q.1=p.1))=true:=by
   intro z;obtain⟨q,d,f⟩:=UC.mp z;obtain⟨k,a,rfl⟩:=Tv.mp d;have:=Zm f;exact h (this ▸ a)
  rw[Zo b,TK]
  congr 1
  ·refine T8 λk a=>?_;show(k,ofK l k)=(k,ofK (l++[p]) k);rw[uu,Zo (λe:p.1=k=>h (e ▸ a))]
  ·show[(p.1,[p.2])]=[(p.1,ofK (l++[p]) p.1)];rw[uu,Zn rfl,Hk h];rfl
theorem Dd {α:Type} (f:α->Key) (xs:List α):grp (xs.map f) xs=(bX (xs.map λx=>(f x,x))).map λk=>xs.filter λx=>decide (f x=k):=by
 unfold grp;rw[zip_map,Ex,T7];refine T8 λk _=>?_;show ofK (xs.map λx=>(f x,x)) k=_;unfold ofK;rw[List.filter_map,T7];simp[Function.comp_def]
theorem GS (wss:WE) (p:Nat):∃ks:List Key,ks.Nodup/\(∀k,k∈ks↔∃ws∈wss,(Sum.inr (ws.getD p Yh):Key)=k)/\byW wss p=ks.map λk=>wss.filter λws=>decide ((Sum.inr (ws.getD p Yh):Key)=k):=by
 refine⟨_,rc (wss.map λws=>((Sum.inr (ws.getD p Yh):Key),ws)),λk=>?_,?_⟩
 ·rw[qb];constructor
  ·rintro⟨x,b⟩;obtain⟨ws,a,e⟩:=Tv.mp b;injection e with e1 e2;exact⟨ws,a,e1⟩
  ·rintro⟨ws,a,rfl⟩;exact⟨ws,Tv.mpr ⟨ws,a,rfl⟩⟩
 ·unfold byW wAt;rw[T7];exact Dd (λws:WF=>(Sum.inr (ws.getD p Yh):Key)) wss
theorem FC (rss:WE):∃ks:List Key,ks.Nodup/\(∀k,k∈ks↔∃ws∈rss,(Sum.inl (ws.length:Int):Key)=k)/\byL rss=ks.map λk=>rss.filter λws=>decide ((Sum.inl (ws.length:Int):Key)=k):=by
 refine⟨_,rc (rss.map λws=>((Sum.inl (ws.length:Int):Key),ws)),λk=>?_,?_⟩
 ·rw[qb];constructor
  ·rintro⟨x,b⟩;obtain⟨ws,a,e⟩:=Tv.mp b;injection e with e1 e2;exact⟨ws,a,e1⟩
  ·rintro⟨ws,a,rfl⟩;exact⟨ws,Tv.mpr ⟨ws,a,rfl⟩⟩
 ·exact Dd (λws:WF=>(Sum.inl (ws.length:Int):Key)) rss
theorem DB {wss:WE}{p:Nat}{ws:WF}:(∃g∈byW wss p,ws∈g)↔ws∈wss:=by
 obtain⟨_,_,b,e⟩:=GS wss p;rw[e];constructor
 ·rintro⟨g,a,c⟩;obtain⟨k,_,rfl⟩:=Tv.mp a;exact(Ud.mp c).1
 ·intro h;exact⟨_,Tv.mpr ⟨_,(b _).mpr ⟨ws,h,rfl⟩,rfl⟩,Ud.mpr ⟨h,Zk rfl⟩⟩
theorem Ko {rss:WE}{ws:WF}:(∃g∈byL rss,ws∈g)↔ws∈rss:=by
 obtain⟨_,_,b,e⟩:=FC rss;rw[e];constructor
 ·rintro⟨g,a,c⟩;obtain⟨k,_,rfl⟩:=Tv.mp a;exact(Ud.mp c).1
 ·intro h;exact⟨_,Tv.mpr ⟨_,(b _).mpr ⟨ws,h,rfl⟩,rfl⟩,Ud.mpr ⟨h,Zk rfl⟩⟩
theorem ml {n:Nat}{s l:Int}:∀{N:Nat}{wss:WE}{ws:WF},(∃g∈prt n s l N wss,ws∈g)↔ws∈wss
 | 0,wss,ws=>by simp[prt]
 | N+1,wss,ws=>by
  unfold prt
  split
  ·simp
  ·rename_i p _;constructor
   ·rintro⟨g,d,f⟩;obtain⟨a,c,b⟩:=UK.mp d;exact DB.mp ⟨a,c,ml.mp ⟨g,b,f⟩⟩
   ·intro h;obtain⟨a,c,b⟩:=DB.mpr h;obtain⟨g,e,i⟩:=ml.mpr b;exact⟨g,UK.mpr ⟨a,c,e⟩,i⟩
def vk (n:Nat) (g g':WE):Prop:=∃(p:Nat) (w w':Str),p<n/\w≠w'/\(∀ws∈g,ws.getD p Yh=w)/\∀ws∈g',ws.getD p Yh=w'
theorem Jd {n p:Nat}{wss:WE} (i:p<n):(byW wss p).Pairwise (vk n):=by
 obtain⟨_,a,f,e⟩:=GS wss p;rw[e,Uk];refine a.imp_of_mem λ{k l} h g b=>?_;obtain⟨j,_,rfl⟩:=(f k).mp h;obtain⟨c,_,rfl⟩:=(f l).mp g;refine⟨p,_,_,i,λz:j.getD p Yh=c.getD p Yh=>b (congrArg Sum.inr z),λv d=>?_,λv d=>?_⟩
 ·exact Sum.inr.inj (Zm (Ud.mp d).2)
 ·exact Sum.inr.inj (Zm (Ud.mp d).2)
theorem vk.sub {n:Nat}{g g' h h':WE} (s:vk n g g') (a:∀ws∈h,ws∈g) (b:∀ws∈h',ws∈g'):vk n h h':=by
 obtain⟨p,w,f,e,c,j,i⟩:=s;exact⟨p,w,f,e,c,λws d=>j ws (a ws d),λws d=>i ws (b ws d)⟩
theorem CG {n:Nat}{s l:Int}:∀{N:Nat}{wss:WE},(prt n s l N wss).Pairwise (vk n)
 | 0,wss=>by simp[prt]
 | N+1,wss=>by
  unfold prt
  split
  ·simp
  ·rename_i p hp;rw[List.pairwise_flatMap];refine⟨λg _=>CG,(Jd (yp hp).1).imp λ{g _} c x d y e=>?_⟩;exact c.sub (λb a=>ml.mp ⟨x,d,a⟩) λb a=>ml.mp ⟨y,e,a⟩
theorem yz {n:Nat}{s l:Int}{N:Nat}{wss g:WE} (hg:g∈prt n s l N wss) {ws:WF} (h:ws∈g):ws∈wss:=ml.mp ⟨g,hg,h⟩
theorem CB {n:Nat}{s l:Int}:∀{N:Nat}{wss:WE},mu n wss<=N->∀g∈prt n s l N wss,plc g n s l=none
 | 0,wss,hm,g,hg=>by
  rw[Tz.mp hg];cases e:plc wss n s l with
  | none=>rfl
  | some p=>
   obtain⟨b,a⟩:=yp e;have:0<mu n wss:=List.countP_pos_iff.mpr ⟨p,Uo.mpr b,xU a⟩;lia
 | N+1,wss,hm,g,hg=>by
  unfold prt at hg
  split at hg
  ·rename_i e;rw[Tz.mp hg];exact e
  ·rename_i p e;obtain⟨b,a⟩:=yp e;obtain⟨_,c,d⟩:=UK.mp hg;have:=KN b (xU a) c;exact CB (by lia) g d
theorem tm {pss:WB}{n i:Nat} (hi:i<n):(bB pss n)[i]? = some (iJ (pss.map λps=>ps.getD i (.hole 2))):=by
 unfold bB;rw[TF,List.getElem?_range hi];rfl
theorem qV (pss:WB) (n:Nat):(bB pss n).length=n:=by simp[bB]
theorem Jl {ws:WF}{i:Nat} (h:i<ws.length):(jA ws).getD i (.hole 2) = .word (ws.getD i Yh):=by
 unfold jA;simp[Yx,TF,Tu h]
theorem Fk {n i:Nat}{g:WE} (b:∀ws∈g,ws.length=n) (hi:i<n):((g.map jA).map λps=>ps.getD i (.hole 2))=(wAt g i).map Pt.word:=by
 unfold wAt;rw[T7,T7];refine T8 λws a=>?_;exact Jl (by rw[b ws a];exact hi)
theorem E5 {ps qs:WC} (n:ps≠[]) (h:∀p,p∈ps↔p∈qs):iJ ps=iJ qs:=by
 cases ps with
 | nil=>exact absurd rfl n
 | cons p r=>
  cases qs with
  | nil=>exact absurd ((h p).mp (TH ..)) (by simp)
  | cons q t=>
   have d:∀{x y:Pt}{r t:WC},(∀p,p∈x::r↔p∈y::t)->∀f:Pt->Pt->Bool,(∀a,f a a=true)->(∀a b,f a b=true->f b a=true)->(∀a b c,f a b=true->f b c=true->f a c=true)->(r.all (λq=>f q x))=true->(t.all (λq=>f q y))=true:=λ{x y r t} h f m l k A=>by
    have s:∀z∈x::r,f z x=true:=λz j=>by
     rcases TM.mp j with rfl | j
     ·exact m _
     ·exact T6.mp A z j
    exact T6.mpr λz j=>k _ _ _ (s z ((h z).mpr (TC _ j))) (l _ _ (s y ((h y).mpr (TH ..))))
   have u:∀f:Pt->Pt->Bool,(∀a,f a a=true)->(∀a b,f a b=true->f b a=true)->(∀a b c,f a b=true->f b c=true->f a c=true)->r.all (λz=>f z p)=t.all (λz=>f z q):=λf m l k=>by
    rw[Ue];exact⟨d h f m l k,d (λp=>(h p).symm) f m l k⟩
   have w:=u (λa b=>decide (a=b)) (λa=>by simp) (λa b e=>by simpa using(Zm e).symm) (λa b c e o=>by simpa using(Zm e).trans (Zm o));have v:=u (λa b=>decide (a.around=b.around)) (λa=>by simp) (λa b e=>by simpa using(Zm e).symm) (λa b c e o=>by simpa using(Zm e).trans (Zm o));unfold iJ;simp only at w v ⊢;rw[<-w,<-v];by_cases i:r.all (λz=>decide (z=p))=true
   ·rw[Zn i,Zn i];rcases TM.mp ((h q).mpr (TH ..))with e | e
    ·exact e.symm
    ·exact(Zm (T6.mp i q e)).symm
   ·rw[Zo i,Zo i];by_cases g:r.all (λz=>decide (z.around=p.around))=true
    ·rw[Zn g,Zn g];rcases TM.mp ((h q).mpr (TH ..))with e | e
     ·rw[e]
     ·rw[Zm (T6.mp g q e)]
    ·rw[Zo g,Zo g]
theorem Ax {n p:Nat}{w:Str}{g:WE} (a:g≠[]) (f:∀ws∈g,ws.length=n) (c:p<n) (d:∀ws∈g,ws.getD p Yh=w):(bB (g.map jA) n)[p]? = some (.word w):=by
 rw[tm c,Fk f c];have e:iJ ((wAt g p).map Pt.word)=iJ [.word w]:=E5 (by simpa[wAt]using a) λq=>by
  rw[Tz];constructor
  ·intro h;obtain⟨z,i,rfl⟩:=Tv.mp h;obtain⟨ws,b,rfl⟩:=Tv.mp i;show Pt.word (ws.getD p Yh)=_;rw[d ws b]
  ·rintro rfl;obtain⟨ws,b⟩:=UQ _ a;exact Tv.mpr ⟨w,Tv.mpr ⟨ws,b,d ws b⟩,rfl⟩
 rw[e];simp[iJ]
theorem zQ {ws:WF}{w:Str} (a:w∈ws) (f:∀z∈ws,cS z=true):(iJ (ws.map Pt.word)).takes w=true:=by
 cases ws with
 | nil=>cases a
 | cons x r=>
  unfold iJ;simp only[TX];by_cases d:(r.map Pt.word).all (λz=>decide (z=Pt.word x))=true
  ·rw[Zn d];rcases TM.mp a with rfl | h
   ·exact Zk rfl
   ·have:=Zm (T6.mp d _ (Tv.mpr ⟨w,h,rfl⟩));injection this with this;exact Zk this
  ·rw[Zo d];by_cases b:(r.map Pt.word).all (λz=>decide (z.around=(Pt.word x).around))=true
   ·rw[Zn b];have g:dB w=dB x:=by
     rcases TM.mp a with rfl | h
     ·rfl
     ·exact Zm (T6.mp b _ (Tv.mpr ⟨w,h,rfl⟩))
    show(Pt.hole (dB x)).takes w=true;rw[<-g];have c:=f w a
    match e:dB w with
    | 0=>exact Zk e
    | 1=>exact Zk e
    | n+2=>exact c
   ·rw[Zo b];exact f w a
theorem Ag {ps:WC}{ws:WF} (c:ps.length=ws.length) (h:∀(i:Nat) p w,ps[i]? = some p->ws[i]? = some w->p.takes w=true):aV ps ws=true:=by
 unfold aV;rw[Zk c,Ve,T6];intro x b;obtain⟨i,a⟩:=Vk b;rw[Uq]at a;exact h i _ _ a.1 a.2
theorem AL {n:Nat}{g:WE} (b:∀ws∈g,ws.length=n/\∀w∈ws,cS w=true) {ws:WF} (h:ws∈g):aV (bB (g.map jA) n) ws=true:=by
 have j:=(b ws h).1;refine Ag (by rw[qV,j]) λi p w e f=>?_;have d:i<n:=by rw[<-j];exact aI f
 rw[tm d,Fk (λv a=>(b v a).1) d]at e;cases e;refine zQ (Tv.mpr ⟨ws,h,by simp[Yx,f]⟩) λz k=>?_;obtain⟨v,a,rfl⟩:=Tv.mp k;have c:i<v.length:=by rw[(b v a).1];exact d
 refine(b v a).2 _ ?_;show v.getD i Yh∈v;simp[Yx,Tu c]
theorem yK {ps:WC}{ws:WF}{i:Nat}{p:Pt}{w:Str} (h:aV ps ws=true) (b:ps[i]? = some p) (a:ws[i]? = some w):p.takes w=true:=by
 unfold aV at h;have:=T6.mp (U5.mp h).2 (p,w) (TB (Uq.mpr ⟨b,a⟩));exact this
theorem D8 {n:Nat}{g g':WE} (sp:vk n g g') (b:g≠[]) (f:∀ws∈g,ws.length=n) (c:∀ws∈g',ws.length=n) {ws:WF} (h:ws∈g'):aV (bB (g.map jA) n) ws=false:=by
 obtain⟨p,w,w',d,i,l,j⟩:=sp;refine Uh.mpr λz=>?_;have a:p<ws.length:=by rw[c ws h];exact d
 have e:=j ws h;have k:ws[p]? = some w':=by
  rw[Tu a];simp[Yx,Tu a]at e;rw[e]
 have:=yK z (Ax b f d l) k;exact i (Zm this).symm
theorem vk.symm {n:Nat}{g g':WE} (s:vk n g g'):vk n g' g:=by
 obtain⟨p,w,w',hp,hne,h1,h2⟩:=s;exact⟨p,w',w,hp,YQ hne,h2,h1⟩
theorem pw_all {α:Type}{R:α->α->Prop} (c:∀a b,R a b->R b a):∀{l:List α},l.Pairwise R->∀a∈l,∀b∈l,a≠b->R a b
 | [],_,a,ha,_,_,_=>by cases ha
 | x::r,h,a,ha,b,hb,hne=>by
  obtain⟨d,e⟩:=List.pairwise_cons.mp h;rcases TM.mp ha with ea | ha'
  ·rcases TM.mp hb with eb | hb'
   ·exact absurd (ea.trans eb.symm) hne
   ·rw[ea];exact d b hb'
  ·rcases TM.mp hb with eb | hb'
   ·rw[eb];exact c _ _ (d a ha')
   ·exact pw_all c e a ha' b hb' hne
def jnG (g:WE):WC:=bB (g.map jA) (gn g)
def grs (s l:Int) (rss:WE):List WE:=(byL rss).flatMap λg=>prt (gn g) s l 13 g
theorem Py {n:Nat}{g:WE} (hne:g≠[]) (h:∀ws∈g,ws.length=n):gn g=n:=by
 cases g with
 | nil=>exact absurd rfl hne
 | cons a r=>exact h a (TH ..)
theorem GOk.gn {n:Nat}{g:WE} (h:GOk n g):gn g=n:=Py h.ne λws hw=>(h.row ws hw).1
theorem MJ {s l:Int}{rss:WE} (h:kG rss):gth s l rss=(grs s l rss).map jnG:=by
 unfold gth grs x8;rw[List.map_flatMap];rw[List.flatMap_def,List.flatMap_def]
 congr 1
 refine T8 λg c=>T8 λa b=>?_;have:=(kq (qK h c) a b).gn;show _=bB (a.map jA) (LG.gn a);rw[this]
theorem xK {s l:Int}{rss g:WE} (h:kG rss) (d:g∈grs s l rss):GOk (gn g) g/\plc g (gn g) s l=none:=by
 obtain⟨_,f,b⟩:=UK.mp d;have c:=qK h f;have a:=kq c g b;have e:=a.gn;rw[e];refine⟨a,CB (TN (K7 _ _) (TN c.EF (by decide))) g b⟩
theorem Cu {s l:Int}{rss:WE}{ws:WF}:(∃g∈grs s l rss,ws∈g)↔ws∈rss:=by
 rw[<-Ko];constructor
 ·rintro⟨g,d,f⟩;obtain⟨a,c,b⟩:=UK.mp d;exact⟨a,c,yz b f⟩
 ·rintro⟨a,c,b⟩;obtain⟨g,e,h⟩:=ml.mpr b;exact⟨g,UK.mpr ⟨a,c,e⟩,h⟩
def Sep (g g':WE):Prop:=gn g≠gn g'\/(gn g=gn g'/\vk (gn g) g g')
theorem Jk {rss:WE}:(byL rss).Pairwise λg g'=>∀ws∈g,∀ws'∈g',ws.length≠ws'.length:=by
 obtain⟨_,a,_,e⟩:=FC rss;rw[e,Uk];refine a.imp λ{k _} b ws h ws' d z=>?_;have c:=Zm (Ud.mp h).2;have f:=Zm (Ud.mp d).2;rw[z]at c;exact b (c.symm.trans f)
theorem Dt {s l:Int}{rss:WE} (h:kG rss):(grs s l rss).Pairwise Sep:=by
 unfold grs;rw[List.pairwise_flatMap];constructor
 ·intro g c;refine CG.imp_of_mem λ{x y} d e o=>?_;have k:=(kq (qK h c) x d).gn;have q:=(kq (qK h c) y e).gn;exact .inr ⟨by rw[k,q],by rw[k];exact o⟩
 ·refine Jk.imp_of_mem λ{g _} c j p x d y e=>.inl λz=>?_;have f:=kq (qK h c) x d;have i:=kq (qK h j) y e;obtain⟨a,n⟩:=UQ _ f.ne;obtain⟨b,m⟩:=UQ _ i.ne;refine p a (yz d n) b (yz e m) ?_;rw[(f.row a n).1,(i.row b m).1,<-f.gn,<-i.gn,z]
theorem Sep.symm {g g':WE} (s:Sep g g'):Sep g' g:=s.elim (λh=>.inl h.symm) λh=>.inr ⟨h.1.symm,by rw[<-h.1];exact h.2.symm⟩
theorem Il {g g':WE} (s:Sep g g') (o:GOk (gn g) g) (o':GOk (gn g') g') {ws:WF} (a:ws∈g'):aV (jnG g) ws=false:=by
 rcases s with h | ⟨c,b⟩
 ·refine Uh.mpr λz=>h ?_;unfold aV at z;have:=Zm (U5.mp z).1;unfold jnG at this;rw[qV,(o'.row ws a).1]at this;exact this
 ·exact D8 b o.ne (λws a=>(o.row ws a).1) (λws a=>by rw[c];exact(o'.row ws a).1) a
theorem G5 {w:Str} (h:PtW (.word w)):cS w=true:=h.1
theorem y3 {s l:Int}{rss g:WE} (h:kG rss) (m:g∈grs s l rss) {ws:WF} (f:ws∈rss):aV (jnG g) ws=true↔ws∈g:=by
 have o:=(xK h m).1;constructor
 ·intro j;obtain⟨i,d,c⟩:=Cu (s:=s) (l:=l).mpr f;by_cases e:g=i
  ·rw[e];exact c
  ·have n:=pw_all (λa b q=>Sep.symm q) (Dt (s:=s) (l:=l) h) g m i d e;rw[Il n o (xK h d).1 c]at j;cases j
 ·exactλc=>AL (λv k=>⟨(o.row v k).1,λw f=>G5 ((o.row v k).2 w f)⟩) c
theorem kA {a b:WF} (c:a.Perm b) (h:UpS a) (h':UpS b):a=b:=by
 refine map_inj (f:=PyData.str) (λx y e=>by injection e) ?_;refine i7 (Sh.ok .str) (λx d=>?_) (c.map _) ?_ ?_
 ·obtain⟨z,_,rfl⟩:=Tv.mp d;exact⟨z,rfl⟩
 ·rw[Uk];exact h
 ·rw[Uk];exact h'
theorem FV {zs c a b:WF} (d:a.Perm (eU [] zs)) (e:b.Perm (eU [] c)) (f:UpS a) (g:UpS b) (h:∀z,z∈zs↔z∈c):a=b:=by
 refine kA ((VJ (d.nodup_iff.mpr (gW Vj)) (e.nodup_iff.mpr (gW Vj))).mpr λz=>?_) f g;rw[d.mem_iff,e.mem_iff,iZ,iZ,h z]
end LG
namespace L2
open PySem
end L2
namespace LG
open PySem L2
theorem IE {zs ms:WF} (hp:ms.Perm (eU [] zs)) {z:Str}:z∈ms↔z∈zs:=by
 rw[hp.mem_iff,iZ];simp
theorem MH {zs ms:WF} (hp:ms.Perm (eU [] zs)):ms.length<=zs.length:=by
 rw[hp.length_eq];exact tV zs
theorem JE {zs ms:WF} (e:ms.Perm (eU [] zs)) (f:zs.length<64) (hz:∀z∈zs,∃ws,fP 12 z ws):kG (ms.map λz=>Y6 z " "):=by
 have:=MH e;refine⟨by rw[Tt];lia,λws b=>?_⟩;obtain⟨z,d,rfl⟩:=Tv.mp b;obtain⟨ws,a⟩:=hz z ((IE e).mp d);rw[a.split];exact⟨a.pos,a.le,λw c=>⟨(a.wd w c).word,TN (a.wd w c).len (by decide),(a.wd w c).ok⟩⟩
section
variable {s l:Int}{zs ms:WF}{g:WE}
theorem GJ {α:Type}{f:α->Bool}:∀{l:List α},l.Pairwise (λa b=>f a=true->f b=true->False)->(∃a∈l,f a=true)->(l.filter f).length=1
 | [],_,h=>by obtain⟨a,g,_⟩:=h;cases g
 | x::r,hp,h=>by
  obtain⟨m,j⟩:=List.pairwise_cons.mp hp;by_cases d:f x=true
  ·rw[Vw d];have:r.filter f=[]:=Vz.mpr λb k i=>m b k d i;rw[this];rfl
  ·rw[Vx d];refine GJ j ?_;obtain⟨a,g,c⟩:=h;rcases TM.mp g with e | e
   ·exact absurd (e ▸ c) d
   ·exact⟨a,e,c⟩
theorem Gh {ps:WB}{z:Str} (m:ms.Perm (eU [] zs)) (c:kG (ms.map λz=>Y6 z " ")) (h:ps.Perm (gth s l (ms.map λz=>Y6 z " "))) (hz:z∈zs):(ps.filter λp=>aV p (Y6 z " ")).length=1:=by
 have e:Y6 z " " ∈ ms.map λz=>Y6 z " " :=Tv.mpr ⟨z,(IE m).mpr hz,rfl⟩;rw[(h.filter _).length_eq,MJ c,List.filter_map,Tt];obtain⟨g,i,q⟩:=Cu (s:=s) (l:=l).mpr e;refine GJ ((Dt c).imp_of_mem λ{a b} k j o r n=>?_) ⟨g,i,(y3 c i e).mpr q⟩;have f:=(y3 c j e).mp n;have:=Il o (xK c k).1 (xK c j).1 f;have d:aV (jnG a) (Y6 z " ")=true:=r;rw[this]at d;cases d
end
section
variable {wss:WE}{s l:Int}{n:Nat}
end
theorem nM (us:WF):∃ms:WF,ms.Perm us/\UpS ms:=by
 have o:=Sh.ok .str;have d:∀x:Str,Sh.str.has (.str x):=λx=>⟨x,rfl⟩;refine⟨us.mergeSort λx y=>!ltv (.str y) (.str x),List.mergeSort_perm _ _,?_⟩;refine(List.pairwise_mergeSort (λa b c g f=>?_) (λa b=>?_) us).imp λ{a b} h=>by simpa using h
 ·cases q:ltv (.str c) (.str a)with
  | false=>rfl
  | true=>
   rcases o.neg (d c) (d b) (d a) q with e | e
   ·rw[e]at f;cases f
   ·rw[e]at g;cases g
 ·cases q:ltv (.str b) (.str a)with
  | false=>rfl
  | true=>rw[o.asymm (d b) (d a) q];rfl
theorem Gw {K:Wz}{H:Hp}{F:Za}{ys xs:WD}{ps:WC} (hF:H F=some (.lst ys)) (h:aC K H xs (ps.map Pt.dat)):aC K (wo F H) xs (ps.map Pt.dat):=(j6 (ae.refl H) (ae.refl H) h).same (Fc hF)
noncomputable def Ek (zs:WF):WF:=(nM (eU [] zs)).choose
theorem xw (zs:WF):(Ek zs).Perm (eU [] zs)/\UpS (Ek zs):=(nM (eU [] zs)).choose_spec
theorem Nl {zs ms:WF} (hp:ms.Perm (eU [] zs)) (hu:UpS ms):ms=Ek zs:=kA (hp.trans (xw zs).1.symm) hu (xw zs).2
noncomputable def LJ (s l:Int) (zs:WF):WB:=gth s l ((Ek zs).map λz=>Y6 z " ")
noncomputable def wW (s l:Int) (zs:WF) (z:Str):Bool:=!((LJ s l zs).any λp=>aV p (Y6 z " "))
noncomputable def Sv (s l:Int) (zs:WF) (n:Nat):List Nat:=(Y7 n).filter λi=>wW s l (zs.take i) (zs.getD i Yh)
theorem GU {α:Type}{f:α->Bool}{a b:List α} (h:a.Perm b):a.any f=b.any f:=by
 rw[Ue,UC,UC];exact⟨λ⟨x,h1,h2⟩=>⟨x,h.mem_iff.mp h1,h2⟩,λ⟨x,h1,h2⟩=>⟨x,h.mem_iff.mpr h1,h2⟩⟩
theorem Hz {s l:Int}{zs ms:WF}{z:Str}{ps:WB} (c:ms.Perm (eU [] zs)) (b:UpS ms) (a:ps.Perm (gth s l (ms.map λz=>Y6 z " "))):wW s l zs z = !(ps.any λp=>aV p (Y6 z " ")):=by
 unfold wW LJ;rw[<-Nl c b,GU a]
theorem BY {α:Type}{f:α->Bool} (l:List α):(l.filter f).isEmpty = !(l.any f):=by
 induction l with
 | nil=>rfl
 | cons a l b=>
  rw[UA];cases h:f a with
  | true=>rw[Vw h];rfl
  | false=>rw[Vx (by rw[h];decide),b];rfl
theorem Ir {s l:Int}{zs:WF}{z:Str} (d:zs.length<64) (hz:∀z∈zs,∃ws,fP 12 z ws) (h:z∈zs):wW s l zs z=false:=by
 obtain⟨e,_⟩:=xw zs;have c:=JE e d hz;have g:=Gh (s:=s) (l:=l) e c (Z8 _) h;unfold wW LJ;have:=BY (f:=λp=>aV p (Y6 z " ")) (gth s l ((Ek zs).map λz=>Y6 z " "));rw[<-this];cases q:(gth s l ((Ek zs).map λz=>Y6 z " ")).filter λp=>aV p (Y6 z " ")with
 | nil=>rw[q]at g;cases g
 | cons a b=>rfl
def oP:Option WC->Zf
 | none=>.none
 | some ps=>aJ ps
def zf (r:Int×Str):Zf:=.tuple [.int r.1,.str r.2]
def DN (bs:WB) (z:Str) (o:Option WC):Prop:=(bs.filter (cX z)=[]/\o=none)\/∃p,o=some p/\uL (bs.filter (cX z)) p
def k4 (bs fs:WB) (z:Str) (o:Option WC):Prop:=(∃p,o=some p/\uL (bs.filter (cX z)) p)\/(bs.filter (cX z)=[]/\DN fs z o)
def ql (bs fs:WB) (zs:WF) (os:List (Option WC)):Prop:=os.length=zs.length/\∀(i:Nat) z o,zs[i]? = some z->os[i]? = some o->k4 bs fs z o
structure iT (s l:Int) (zs:WF) (ps:WB):Prop where
 ex:∃ms:WF,ms.Perm (eU [] zs)/\UpS ms/\ps.Perm (gth s l (ms.map λz=>Y6 z " "))
 ord:yl ps
 ok:pG ps
 lt:ps.length<64
def l8 (bs:WB) (zs:WF):WF:=zs.filter λz=>(bs.filter (cX z)).isEmpty
section
variable {K:Wz}{H H':Hp}{g C dx:Za}{fs:List (Str×V)}
theorem GI {a:Za}{o:HO} (h:H g=some (.ins C dx fs)) (r:Rd H a o) (n:∀C dx fs,o ≠ .ins C dx fs):Rd (wo g H) a o:=by
 rcases r with r | ⟨b,r⟩
 ·exact .inl (by rw[av λe=>by rw[e,h]at r;cases r;exact n _ _ _ rfl];exact r)
 ·exact .inr ⟨b,by rw[av λe=>by rw[e,h]at r;cases r];exact r⟩
theorem JK {a:Za}{xs:WD} (h:H g=some (.ins C dx fs)) (r:SqL K H a xs):SqL K (wo g H) a xs:=by
 rcases r with r | r
 ·exact .inl (GI h r λ_ _ _ e=>by cases e)
 ·exact .inr r
theorem r6 {a:Za}{xs:WD} (h:H g=some (.ins C dx fs)) (r:SqT K H a xs):SqT K (wo g H) a xs:=by
 rcases r with r | r
 ·exact .inl (GI h r λ_ _ _ e=>by cases e)
 ·exact .inr r
theorem uC {v:WD}{d:WI} (h:H g=some (.ins C dx fs)) (r:aC K H v d):aC K (wo g H) v d:=r.keep (λ_ _ q=>JK h q) λ_ _ q=>r6 h q
theorem Kr {P:Za}{pos:Pos}{qual:Str}{j d:Za}{fs':List (Str×V)} (h:ig P pos qual H) (i:H g=some (.ins C dx fs)):ig P pos qual (upd H g (.ins j d fs')):=by
 obtain⟨m,f,l,k⟩:=h;have a:P≠g:=nn f i
 refine⟨m,by rw[ao a];exact f,l,k.imp id λ⟨c,x,y⟩=>⟨c,x,?_⟩⟩;have b:c≠g:=nn y i
 rw[ao b];exact y
theorem eG {P:Za}{pos:Pos}{qual:Str}{b a:Za}{fs':List (Str×V)}{p:Hp->Prop} (d:ig P pos qual H) (e:H g=some (.ins C dx fs)) (k:∀H',H' g=some (.ins b a fs')->(∀c,c≠g->H' c=H c)->ig P pos qual H'->p H'):p (upd H g (.ins b a fs')):=k _ ab (λc h=>ao h) (Kr d e)
theorem eH {a:Za} (o:HO) (h:H a=none):∃H',upd H a o=H'/\ae H H'/\H' a=some o:=⟨_,rfl,ae.new h,ab⟩
theorem AN {a e:Za} (B:Za) (h:H a=none) (h':H e=none) (n:e≠a):∃H',upd (upd H e (.own a)) a (.ins B e [])=H'/\ae H H'/\H' a=some (.ins B e []):=⟨_,rfl,(ae.new h').trans (ae.new (by rw[ao n.symm];exact h)),ab⟩
theorem zP {xs:WD}{f:List (Int×Str)}{i:Nat}{x:V} (h:aC K H xs (f.map zf)) (hx:xs[i]? = some x):∃r t,f[i]? = some r/\x = .ref t/\SqT K H t [.int r.1,.str r.2]/\Y5 r.2=true:=by
 obtain⟨d,c,k⟩:=h.get hx;rw[TF]at c;cases e:f[i]? with
 | none=>rw[e]at c;cases c
 | some r=>
  rw[e]at c;cases c;cases k with
  | tup g c=>
   cases c with
   | cons a t=>
    cases t with
    | cons b t=>
     cases t;cases a;cases b with
     | str j=>exact⟨r,_,rfl,rfl,g,j⟩
theorem si {xs:WD}{b:List (Option WC)}{i:Nat}{x:V} (h:aC K H xs (b.map oP)) (hx:xs[i]? = some x):∃o,b[i]? = some o/\Den K H x (oP o):=by
 obtain⟨d,a,c⟩:=h.get hx;rw[TF]at a;cases e:b[i]? with
 | none=>rw[e]at a;cases a
 | some o=>rw[e]at a;cases a;exact⟨o,rfl,c⟩
theorem Bu {x:V}{o:Option WC} (h:Den K H x (oP o)):decide (x = .non)=o.isNone:=by
 cases o with
 | none=>cases h;rfl
 | some ps=>cases h;exact Zl (by intro e;cases e)
theorem AB {bs:WB}{z:Str}{r:V} (h:KQ K H H' (bs.filter (cX z)) r):∃o,DN bs z o/\Den K (lim H H') r (oP o):=by
 rcases h with⟨e,rfl⟩ | ⟨t,_,a,rfl,_,_,c,b⟩
 ·exact⟨none,.inl ⟨e,rfl⟩,.non⟩
 ·exact⟨some a,.inr ⟨a,rfl,c⟩,b⟩
end
theorem o6 {K:Wz}{Ha Hb T:Hp}{x P:Za}{v:WD}{ds:WI} (d:aC K (lim Ha Hb) v ds) (hx:∃C dx fs,lim Ha Hb x=some (.ins C dx fs)) (a:∃ps,lim Ha Hb P=some (.tbl ps))
  (h:∀b o,b≠x->b≠P->(∀zs,Ha b≠some (.lst zs))->Hb b=some o->T b=some o):aC K T v ds:=by
 obtain⟨C,dx,fs,hx⟩:=hx;obtain⟨ps,a⟩:=a;have c:P≠x:=nn a hx
 have d2:=zl (P:=P) (ps:=ps) (Zp c a) (uC hx d);refine d2.same λb o e=>?_;obtain⟨i,e⟩:=aZ e;obtain⟨g,e⟩:=aZ e;have f:=fQ e;rw[bw f]at e;exact h b o g i f e
theorem Cm {K:Wz}{Ha Hb T:Hp}{x P:Za}{v:V}{ds:Zf} (d:Den K (lim Ha Hb) v ds) (hx:∃C dx fs,lim Ha Hb x=some (.ins C dx fs)) (c:∃ps,lim Ha Hb P=some (.tbl ps))
  (h:∀b o,b≠x->b≠P->(∀zs,Ha b≠some (.lst zs))->Hb b=some o->T b=some o):Den K T v ds:=by
 cases o6 (.cons d .nil) hx c h with
 | cons a _=>exact a
theorem Fj {H H2 H3:Hp}{F:Za}{ys:WD} (s:ae H H2) (hF:H2 F=some (.lst ys)):ae (lim H2 H3) (wo F (lim H H3)):=λb o e=>by
 have a:=fQ e;rw[bw a]at e;rw[av λz=>a ys (by rw[z];exact hF),bw λc z=>a c (s _ _ z)];exact e
theorem rS {H H3:Hp}{F:Za}{o:HO}:wo F (lim H (upd H3 F o))=wo F (lim H H3):=by
 funext b
 by_cases e:b=F
 ·rw[e,cu,cu]
 ·rw[av e,av e];unfold lim
  split
  ·rfl
  ·exact ao e
theorem DN.none {bs:WB}{z:Str}{o:Option WC} (h:DN bs z o):o.isNone=(bs.filter (cX z)).isEmpty:=by
 rcases h with⟨e,rfl⟩ | ⟨p,rfl,b⟩
 ·rw[e];rfl
 ·cases hf:bs.filter (cX z)with
  | nil=>rw[hf]at b;cases b.1
  | cons a r=>rfl
theorem iT.unique {s l:Int}{zs:WF}{ps qs:WB} (h:iT s l zs ps) (h':iT s l zs qs):ps=qs:=by
 obtain⟨_,a,b,c⟩:=h.ex;obtain⟨_,e,f,d⟩:=h'.ex;rw[kA (e.trans a.symm) f b]at d;exact Ai (c.trans d.symm) h.ord h'.ord
theorem iT.QL {s l:Int}{zs d:WF}{ps:WB} (h:iT s l zs ps) (i:∀z,z∈zs↔z∈d):iT s l d ps:=by
 obtain⟨_,a,b,c⟩:=h.ex;obtain⟨e,f,g⟩:=nM (eU [] d);rw[<-FV f a g b λz=>(i z).symm]at c;exact⟨⟨e,f,g,c⟩,h.ord,h.ok,h.lt⟩
theorem iT.news {s l:Int}{zs:WF}{ps:WB}{z:Str} (h:iT s l zs ps):wW s l zs z = !(ps.any (cX z)):=by
 obtain⟨ms,a,b,c⟩:=h.ex;exact Hz a b c
def core (H:Hp):Hp:=λc=>match H c with | some (.ins _ _ _)=>none | some (.tbl _)=>none | o=>o
theorem G7 {H:Hp}{c:Za}{o:HO} (h:core H c=some o):H c=some o/\(∀C dx fs,o ≠ .ins C dx fs)/\∀ps,o ≠ .tbl ps:=by
 unfold core at h
 split at h
 ·cases h
 ·cases h
 ·rename_i h1 h2;refine⟨h,λC dx fs e=>?_,λps e=>?_⟩
  ·subst e;exact h1 _ _ _ h
  ·subst e;exact h2 _ h
theorem Dm {H:Hp}{c:Za}{o:HO} (h:H c=some o) (h1:∀C dx fs,o ≠ .ins C dx fs) (h2:∀ps,o ≠ .tbl ps):core H c=some o:=by
 unfold core
 split
 ·rename_i e;rw[h]at e;cases e;exact(h1 _ _ _ rfl).elim
 ·rename_i e;rw[h]at e;cases e;exact(h2 _ rfl).elim
 ·exact h
theorem Dg {H:Hp}{a:Za}{o:HO} (r:Rd H a o) (h1:∀C dx fs,o ≠ .ins C dx fs) (h2:∀ps,o ≠ .tbl ps):Rd (core H) a o:=by
 rcases r with r | ⟨b,r⟩
 ·exact .inl (Dm r h1 h2)
 ·exact .inr ⟨b,Dm r (λ_ _ _ e=>by cases e) λ_ e=>by cases e⟩
theorem EA {K:Wz}{H:Hp}{v:WD}{d:WI} (r:aC K H v d):aC K (core H) v d:=by
 refine r.keep (λa b q=>?_) λa b q=>?_
 ·rcases q with q | q
  ·exact .inl (Dg q (λ_ _ _ e=>by cases e) λ_ e=>by cases e)
  ·exact .inr q
 ·rcases q with q | q
  ·exact .inl (Dg q (λ_ _ _ e=>by cases e) λ_ e=>by cases e)
  ·exact .inr q
structure StV where
 rs:List (Int×Str)
 bs:WB
 fs:WB
 os:List (Option WC)
def StV.zZ (v:StV):WF:=v.rs.map (·.2)
structure StV.Ok (v:StV) (s l:Int):Prop where
 gth:iT s l (l8 v.bs v.zZ) v.fs
 fls:ql v.bs v.fs v.zZ v.os
 lns:∀q∈v.rs,∃ws,fP 12 q.2 ws
 hnd:pG v.bs
 rl:v.rs.length<64
 bl:v.bs.length<64
structure gr where
 s:Int
 l:Int
 cur:StV
 ah:StV
 past:List (List (Int×Str)×WB)
 tbk:List (List (Int×Str)×WB)
def wZ (K:Wz) (C:Za) (B:Hp) (st:Za) (v:StV):Prop:=∃(dx r b f fl:Za) (rv bv fv lv:WD),B st=some (.ins C dx [("rows",.ref r),("by_hand",.ref b),("found",.ref f),("falls",.ref fl)]) /\
 B r=some (.lst rv)/\aC K B rv (v.rs.map zf)/\B b=some (.lst bv)/\aC K B bv (v.bs.map aJ)/\B f=some (.lst fv)/\aC K B fv (v.fs.map aJ)/\B fl=some (.lst lv)/\aC K B lv (v.os.map oP)
theorem wZ.same {K:Wz}{C:Za}{B B':Hp}{st:Za}{v:StV} (h:wZ K C B st v) (s:ae B B'):wZ K C B' st v:=by
 obtain⟨q,r,b,f,o,l,t,p,c,g,k,e,d,m,n,j,i,a⟩:=h;exact⟨q,r,b,f,o,l,t,p,c,s _ _ g,s _ _ k,e.same s,s _ _ d,m.same s,s _ _ n,j.same s,s _ _ i,a.same s⟩
def HeldAt (K:Wz) (B:Hp) (x:V) (h:List (Int×Str)×WB):Prop:=∃(t r b:Za) (rv bv:WD),x = .ref t/\SqT K B t [.ref r,.ref b]/\B r=some (.lst rv)/\aC K B rv (h.1.map zf)/\B b=some (.lst bv)/\aC K B bv (h.2.map aJ)
theorem HeldAt.same {K:Wz}{B B':Hp}{x:V}{h:List (Int×Str)×WB} (a:HeldAt K B x h) (s:ae B B'):HeldAt K B' x h:=by
 obtain⟨t,r,b,g,k,e,j,f,d,c,i⟩:=a;exact⟨t,r,b,g,k,e,s.cU j,s _ _ f,d.same s,s _ _ c,i.same s⟩
def cR (K:Wz) (B:Hp) (xs:WD) (l:List (List (Int×Str)×WB)):Prop:=xs.length=l.length/\∀(i:Nat) x h,xs[i]? = some x->l[i]? = some h->HeldAt K B x h
section
variable {K:Wz}{B B':Hp}{xs:WD}{x:V}{l:List (List (Int×Str)×WB)}{h:List (Int×Str)×WB}
theorem cR.same (a:cR K B xs l) (s:ae B B'):cR K B' xs l:=⟨a.1,λi x h h1 h2=>(a.2 i x h h1 h2).same s⟩
theorem cR.nil:cR K B [] []:=⟨rfl,λi x h e=>by cases e⟩
theorem cR.snoc (a:cR K B xs l) (b:HeldAt K B x h):cR K B (xs++[x]) (l++[h]):=by
 refine⟨by rw[TJ,TJ,a.1];rfl,λi y k c d=>?_⟩;by_cases f:i<xs.length
 ·rw[Ui f]at c;rw[Ui (a.1 ▸ f)]at d;exact a.2 i y k c d
 ·have e:i=xs.length:=by
   have:=aI c;rw[TJ,T1]at this;lia
  rw[e,Uy (Tw _),Nat.sub_self]at c;rw[e,a.1,Uy (Tw _),Nat.sub_self]at d;cases c;cases d;exact b
theorem cR.pop (a:cR K B xs (l++[h])):∃ys y,xs=ys++[y]/\cR K B ys l/\HeldAt K B y h:=by
 have e:=a.1;rw[TJ,T1]at e;have b:xs≠[]:=λz=>by rw[z]at e;simp at e
 have c:=(VE b).symm;generalize xs.dropLast=ys at c;generalize xs.getLast b=y at c;subst c;rw[TJ,T1]at e;have d:ys.length=l.length:=by lia
 refine⟨ys,y,rfl,⟨d,λi x k g f=>?_⟩,?_⟩
 ·exact a.2 i x k (by rw[Ui (aI g)];exact g) (by rw[Ui (aI f)];exact f)
 ·exact a.2 ys.length y h (by simp) (by rw[d];simp)
end
def br (K:Wz) (CL CS:Za) (B H:Hp) (g pa tb:Za) (v:gr):Prop:=∃(dx t st ah:Za) (pv tv:WD),H g=some (.ins CL dx [("sieve",.ref t),("state",.ref st),("ahead",.ref ah),("past",.ref pa),("taken_back",.ref tb)]) /\
 H pa=some (.lst pv)/\H tb=some (.lst tv)/\ae B H/\B g=none/\B pa=none/\B tb=none/\pa≠tb/\SqT K B t [.int v.s,.int v.l]/\wZ K CS B st v.cur/\wZ K CS B ah v.ah/\cR K B pv v.past/\cR K B tv v.tbk/\v.cur.Ok v.s v.l/\v.ah.Ok v.s v.l
section
variable {K:Wz}{CL CS:Za}{B B' H H':Hp}{g pa tb d:Za}{v:gr}
theorem br.grow (h:br K CL CS B H g pa tb v) (s:ae B B') (s':ae B' H') (j:B' g=none) (o:B' pa=none) (f:B' tb=none) (l:H' g=H g) (ep:H' pa=H pa) (m:H' tb=H tb):br K CL CS B' H' g pa tb v:=by
 obtain⟨w,t,k,i,pv,u,x,r,p,_,_,_,_,q,n,c,a,e,d,b⟩:=h;exact⟨w,t,k,i,pv,u,l.trans x,ep.trans r,m.trans p,s',j,o,f,q,s.cU n,c.same s,a.same s,e.same s,d.same s,b⟩
theorem br.to (h:br K CL CS B H g pa tb v) (s':ae B H') (c:H' g=H g) (ep:H' pa=H pa) (a:H' tb=H tb):br K CL CS B H' g pa tb v:=by
 have b:=h;obtain⟨_,t,_,_,pv,_,_,_,_,_,e,f,d,_⟩:=b;exact h.grow (ae.refl B) s' e f d c ep a
theorem br.same (h:br K CL CS B H g pa tb v) (s:ae H H'):br K CL CS B H' g pa tb v:=by
 have d:=h;obtain⟨_,t,_,_,pv,_,c,b,a,e,_⟩:=d;exact h.to (e.trans s) ((s _ _ c).trans c.symm) ((s _ _ b).trans b.symm) ((s _ _ a).trans a.symm)
theorem br.wo (h:br K CL CS B H g pa tb v) (f:B d=none) (j:d≠g) (n2:d≠pa) (k:d≠tb) (s:ae (wo d H) H'):br K CL CS B H' g pa tb v:=by
 have e:=h;obtain⟨_,t,_,_,pv,_,c,b,a,i,_⟩:=e;exact h.to ((fU f i).trans s) ((s _ _ (Zp j.symm c)).trans c.symm) ((s _ _ (Zp n2.symm b)).trans b.symm) ((s _ _ (Zp k.symm a)).trans a.symm)
end
def nxt (B H H':Hp) (g pa tb:Za):Hp:=λc=>if c=g\/c=pa\/c=tb then none else match H c with | some (.lst _)=>B c | some (.ins _ _ _)=>B c | some (.tbl _)=>B c | _=>H' c
section
variable {B H H':Hp}{g pa tb c:Za}{o:HO}
theorem JR (b:c≠g) (n2:c≠pa) (a:c≠tb) (h:(∃ys,H c=some (.lst ys))\/(∃C dx fs,H c=some (.ins C dx fs))\/∃ps,H c=some (.tbl ps)):nxt B H H' g pa tb c=B c:=by
 unfold nxt;rw[Zo (λe=>e.elim b λe=>e.elim n2 a)];rcases h with⟨_,e⟩ | ⟨_,_,_,e⟩ | ⟨_,e⟩ <;> rw[e]
theorem gT (d:c≠g) (n2:c≠pa) (b:c≠tb) (h1:∀ys,H c≠some (.lst ys)) (h2:∀C dx fs,H c≠some (.ins C dx fs)) (a:∀ps,H c≠some (.tbl ps)):nxt B H H' g pa tb c=H' c:=by
 unfold nxt;rw[Zo (λe=>e.elim d λe=>e.elim n2 b)]
 split
 ·rename_i e;exact(h1 _ e).elim
 ·rename_i e;exact(h2 _ _ _ e).elim
 ·rename_i e;exact(a _ e).elim
 ·rfl
theorem sm:nxt B H H' g pa tb g=none/\nxt B H H' g pa tb pa=none/\nxt B H H' g pa tb tb=none:=by
 unfold nxt;exact⟨Zn (.inl rfl),Zn (.inr (.inl rfl)),Zn (.inr (.inr rfl))⟩
theorem Ae (j:ae B H) (a:B g=none) (b:B pa=none) (d:B tb=none) (s:∀c o,B c=some o->H' c=some o):ae B (nxt B H H' g pa tb):=λc o e=>by
 have h:c≠g:=nn e a
 have i:c≠pa:=nn e b
 have f:c≠tb:=nn e d
 unfold nxt;rw[Zo (λz=>z.elim h λz=>z.elim i f)]
 split
 ·exact e
 ·exact e
 ·exact e
 ·exact s c o e
theorem BE (s:∀c o,B c=some o->H' c=some o):ae (nxt B H H' g pa tb) H':=λc o e=>by
 unfold nxt at e
 split at e
 ·cases e
 ·split at e
  ·exact s c o e
  ·exact s c o e
  ·exact s c o e
  ·exact e
end
def xJ (o:HO):Prop:=(∃ys,o = .lst ys)\/(∃C dx fs,o = .ins C dx fs)\/∃ps,o = .tbl ps
theorem sf {B H H':Hp}{g pa tb c:Za}{o:HO} (i:B c=none) (h:H c=some o) (m:xJ o):nxt B H H' g pa tb c=none:=by
 have a:=sm (B:=B) (H:=H) (H':=H') (g:=g) (pa:=pa) (tb:=tb);by_cases b:c=g
 ·rw[b];exact a.1
 by_cases d:c=pa
 ·rw[d];exact a.2.1
 by_cases f:c=tb
 ·rw[f];exact a.2.2
 rw[JR b d f ?_]
 ·exact i
 ·rcases m with⟨_,e⟩ | ⟨_,_,_,e⟩ | ⟨_,e⟩
  ·exact .inl ⟨_,by rw[h,e]⟩
  ·exact .inr (.inl ⟨_,_,_,by rw[h,e]⟩)
  ·exact .inr (.inr ⟨_,by rw[h,e]⟩)
theorem o9 {K:Wz}{Ha Hb T:Hp}{v:WD}{ds:WI} (d:aC K (lim Ha Hb) v ds) (h:∀c o,(∀ys,Ha c≠some (.lst ys))->Hb c=some o -> ¬ xJ o\/(∃ys,o = .lst ys)->(∀C dx fs,o ≠ .ins C dx fs)->(∀ps,o ≠ .tbl ps)->T c=some o):aC K T v ds:=by
 refine(EA d).same λc o e=>?_;obtain⟨e,f,b⟩:=G7 e;have a:=fQ e;rw[bw a]at e;refine h c o a e ?_ f b;by_cases q:∃ys,o = .lst ys
 ·exact .inr q
 ·exact .inl λm=>m.elim q λm=>m.elim (λ⟨_,_,_,z⟩=>f _ _ _ z) λ⟨_,z⟩=>b _ z
theorem J2 {xs:WD}{x:V}:atI (xs++[x]) (-1)=some x:=by
 unfold atI ixN;rw[Zo (by lia),Zn (by rw[TJ];simp;lia)];show(xs++[x])[(-1+((xs++[x]).length:Int)).toNat]? = some x;rw[TJ,show(-1+((xs.length + [x].length:Nat):Int)).toNat=xs.length by simp;lia];simp
theorem JO (zs:WF):l8 [] zs=zs:=by
 unfold l8;rw[List.filter_eq_self];intro z _;rfl
theorem IA {ps:WB}{z:Str}:(ps.filter (cX z)).isEmpty = !(ps.any (cX z)):=by
 induction ps with
 | nil=>rfl
 | cons a r b=>
  rw[U8,UA];cases h:cX z a with
  | true=>rfl
  | false=>simpa using b
theorem br.gg {K:Wz}{CL CS:Za}{B H:Hp}{g pa tb:Za}{v:gr} (h:br K CL CS B H g pa tb v):∃dx t st ah,H g=some (.ins CL dx [("sieve",.ref t),("state",.ref st),("ahead",.ref ah),("past",.ref pa),("taken_back",.ref tb)]):=by
 obtain⟨dx,t,st,ah,_,_,a,_⟩:=h;exact⟨dx,t,st,ah,a⟩
theorem br.okc {K:Wz}{CL CS:Za}{B H:Hp}{g pa tb:Za}{v:gr} (h:br K CL CS B H g pa tb v):v.cur.Ok v.s v.l:=by
 obtain⟨_,_,_,_,_,_,_,_,_,_,_,_,_,_,_,_,_,_,_,okc,_⟩:=h;exact okc
theorem br.neT {K:Wz}{CL CS:Za}{B H:Hp}{g pa tb P:Za}{v:gr}{q:WG} (h:br K CL CS B H g pa tb v) (a:H P=some (.tbl q)):P≠g/\P≠pa/\P≠tb:=by
 obtain⟨_,t,_,_,_,_,d,b,c,_⟩:=h;exact⟨(nn a d),(nn a b),nn a c⟩
def nr (K:Wz):Sp:=λvs H Q _=>∃(c:Int) (m:Nat),vs=[.int c,.int m]/\m<10000/\∀d H',H d=none->ae H H'->Dk H' d m->Q (.ref d) H'
def Ny:Pt->Bool
 | .word w=>cS w
 | .hole _=>true
theorem Ji {pss:WB}{ps:WC} (h:∀q∈pss,∀p∈q,p.ok) (b:∀p∈ps,p.ok):((pss.map aJ).any λe=>Y9 e (aJ ps))=decide (ps∈pss):=by
 rw[List.any_map]
 induction pss with
 | nil=>rfl
 | cons a r c=>
  rw[UA,c λq d=>h q (TC _ d)];show(Y9 (aJ a) (aJ ps) || _)=_;rw[rY (h a (TH ..)) b,Ue,Bool.or_eq_true,decide_eq_true_eq,decide_eq_true_eq,decide_eq_true_eq,TM];exact⟨λz=>z.imp Eq.symm id,λz=>z.imp Eq.symm id⟩
theorem PtW.okP {p:Pt} (h:PtW p):p.ok/\Ny p=true:=by
 cases p with
 | word w=>exact⟨⟨TN h.2.1 (by decide),h.2.2⟩,h.1⟩
 | hole k=>exact⟨h,rfl⟩
structure IM (h:List (Int×Str)×WB):Prop where
 rl:h.1.length<64
 lns:∀q∈h.1,∃ws,fP 12 q.2 ws
 bl:h.2.length<64
 hnd:pG h.2
theorem StV.Ok.held {v:StV}{s l:Int} (h:v.Ok s l):IM (v.rs,v.bs):=⟨h.rl,h.lns,h.bl,h.hnd⟩
section
variable {K:Wz}{CL CS P:Za}{B H Ha Hb H5 H6:Hp}{g pa tb:Za}{v:gr}
theorem uB {dx t st x R r b f fl:Za}{fs:List (Str×V)}{pv tv rv bv fv lv I F:WD}{a7:WG}{Q:List (Int×Str)}{bs m:WB}{G:List (Option WC)}{past tbk:List (List (Int×Str)×WB)}
  (Z:H g=some (.ins CL dx fs)) (k:H pa=some (.lst pv)) (u:H tb=some (.lst tv)) (sB:ae B H) (T:B g=none) (kX:B pa=none) (m5:B tb=none) (a8:pa≠tb) (ak:SqT K B t [.int v.s,.int v.l]) (aa:wZ K CS B st v.cur) (a4:v.cur.Ok v.s v.l) (a5:B P=none) (S:H P=some (.tbl a7))
  (W:∀c o,c≠pa->c≠tb->H c=some o->H5 c=some o) (L:H5 pa=some (.lst I)) (J:H5 tb=some (.lst F))
  (hx:H5 x=none) (hf:H5 f=none) (af:H5 fl=none) (Y:ae (wo g (wo P H5)) H6) (Sg:∃q,H6 P=some (.tbl q)) (U:H6 g=some (.ins CL dx [("sieve",.ref t),("state",.ref x),("ahead",.ref st),("past",.ref pa),("taken_back",.ref tb)]))
  (ah:H6 x=some (.ins CS R [("rows",.ref r),("by_hand",.ref b),("found",.ref f),("falls",.ref fl)])) (ab:H6 f=some (.lst fv)) (df:aC K (lim H5 H6) fv (m.map aJ)) (Cc:H6 fl=some (.lst lv)) (dl:aC K (lim H5 H6) lv (G.map oP))
  (a0:B r=some (.lst rv)) (aj:aC K B rv (Q.map zf)) (ag:B b=some (.lst bv)) (a9:aC K B bv (bs.map aJ)) (y:IM (Q,bs)) (qo:iT v.s v.l (l8 bs (Q.map (·.2))) m) (ic:ql bs m (Q.map (·.2)) G)
  (dp:∀B',ae B B'->(∀c o,H c=none->H5 c=some o->B' c=some o)->cR K B' I past/\cR K B' F tbk) :
  ae (wo g (wo pa (wo tb (wo P H)))) H6/\ae B (nxt B H H6 g pa tb)/\br K CL CS (nxt B H H6 g pa tb) H6 g pa tb ⟨v.s,v.l,⟨Q,bs,m,G⟩,v.cur,past,tbk⟩:=by
 have O:pa≠g:=nn k Z
 have N:tb≠g:=nn u Z
 have a6:pa≠P:=λe=>by rw[<-e,k]at S;cases S
 have ai:tb≠P:=λe=>by rw[<-e,u]at S;cases S
 have p:∀c o,c≠g->c≠pa->c≠tb->c≠P->H c=some o->H6 c=some o:=λc o a i A E e=>Y _ _ (Zq a E (W c o i A e));have w:∀{c:Za}{o:HO},B c=some o->c≠g/\c≠pa/\c≠tb/\c≠P:=λ{c o} e=>⟨(nn e T),(nn e kX),(nn e m5),nn e a5⟩;have Fo:∀c o,B c=some o->H6 c=some o:=λc o e=>p c o (w e).1 (w e).2.1 (w e).2.2.1 (w e).2.2.2 (sB _ _ e);have h:=Ae (H':=H6) sB T kX m5 Fo;have lF:=sm (B:=B) (H:=H) (H':=H6) (g:=g) (pa:=pa) (tb:=tb);have a3:H5 g=_:=W _ _ O.symm N.symm Z;have h0:∀{c:Za},H5 c=none->H c=none/\c≠g/\c≠pa/\c≠tb:=λ{c} e=>by
  have D:c≠g:=nn e a3
  have n:c≠pa:=nn e L
  have j:c≠tb:=nn e J
  refine⟨?_,D,n,j⟩;cases e2:H c with
  | none=>rfl
  | some o=>rw[W c o n j e2]at e;cases e
 have M:∀{c:Za},H5 c=none->nxt B H H6 g pa tb c=H6 c:=λ{c} e=>by
  obtain⟨a,i,A,E⟩:=h0 e;exact gT i A E (λ_ z=>by rw[a]at z;cases z) (λ_ _ _ z=>by rw[a]at z;cases z) λ_ z=>by rw[a]at z;cases z
 have go:∀{v:WD}{ds:WI},aC K (lim H5 H6) v ds->aC K (nxt B H H6 g pa tb) v ds:=λ{v ds} d=>o9 d λc o a i _ A E=>by
  have D:c≠g:=λe=>by rw[e,U]at i;cases i;exact A _ _ _ rfl
  have n:c≠pa:=λe=>a _ (by rw[e];exact L);have j:c≠tb:=λe=>a _ (by rw[e];exact J);have X:c≠P:=λe=>by
   obtain⟨q,hq⟩:=Sg;rw[e,hq]at i;cases i;exact E _ rfl
  rw[gT D n j (λys e=>a ys (W _ _ n j e)) (λC _ fs e=>?_) (λ_ e=>?_)]
  ·exact i
  ·have:=p _ _ D n j X e;rw[i]at this;cases this;exact A _ _ _ rfl
  ·have:=p _ _ D n j X e;rw[i]at this;cases this;exact E _ rfl
 have hd:=dp (nxt B H H6 g pa tb) h λc o a i=>by
  have D:c≠g:=nn a Z
  have n:c≠pa:=nn a k
  have j:c≠tb:=nn a u
  have X:c≠P:=nn a S
  rw[gT D n j (λ_ z=>by rw[a]at z;cases z) (λ_ _ _ z=>by rw[a]at z;cases z) λ_ z=>by rw[a]at z;cases z];exact Y _ _ (Zq D X i)
 refine⟨λc o e=>?_,h,dx,t,x,st,I,F,U,Y _ _ (Zq O a6 L),Y _ _ (Zq N ai J),BE Fo,lF.1,lF.2.1,lF.2.2,a8,h.cU ak,
  ⟨R,r,b,f,fl,rv,bv,fv,lv,by rw[M hx];exact ah,h _ _ a0,aj.same h,h _ _ ag,a9.same h,by rw[M hf];exact ab,go df,by rw[M af];exact Cc,go dl⟩,
  aa.same h,hd.1,hd.2,⟨qo,ic,y.lns,y.hnd,y.rl,y.bl⟩,a4⟩
 obtain⟨a,e⟩:=aZ e;obtain⟨i,e⟩:=aZ e;obtain⟨A,e⟩:=aZ e;obtain⟨E,e⟩:=aZ e;exact p c o a i A E e
end
section
variable {v:StV}{s l:Int}
theorem StV.Ok.off (h:v.Ok s l):(l8 v.bs v.zZ).length<64/\∀z∈l8 v.bs v.zZ,∃ws,fP 12 z ws:=by
 constructor
 ·have d:(l8 v.bs v.zZ).length<=v.zZ.length:=UG _ _;have c:v.zZ.length=v.rs.length:=by unfold StV.zZ;rw[Tt]
  have:=h.rl;lia
 ·intro z a;have a:=(Ud.mp a).1;unfold StV.zZ at a;obtain⟨q,b,rfl⟩:=Tv.mp a;exact h.lns q b
theorem StV.Ok.len (h:v.Ok s l):v.os.length=v.rs.length:=by
 rw[h.fls.1];unfold StV.zZ;rw[Tt]
theorem StV.Ok.Nm (h:v.Ok s l) {i:Nat}{r:Int×Str}{o:Option WC} (f:v.rs[i]? = some r) (n:v.os[i]? = some o):∃p,o=some p/\p∈v.bs++v.fs/\cX r.2 p=true:=by
 have b:v.zZ[i]? = some r.2:=by unfold StV.zZ;rw[TF,f];rfl
 rcases h.fls.2 i _ _ b n with⟨p,e,a⟩ | ⟨k,j⟩
 ·have:=Ud.mp a.1;exact⟨p,e,TV.mpr (.inl this.1),this.2⟩
 ·rcases j with⟨g,_⟩ | ⟨p,e,a⟩
  ·have m:r.2∈l8 v.bs v.zZ:=Ud.mpr ⟨TB b,by rw[k];rfl⟩;have d:=Ir (s:=s) (l:=l) h.off.1 h.off.2 m;rw[h.gth.news]at d;have c:=IA (ps:=v.fs) (z:=r.2);rw[g,d]at c;cases c
  ·have:=Ud.mp a.1;exact⟨p,e,TV.mpr (.inr this.1),this.2⟩
end
def zD (lo hi:Int) (x:(Int×Str)×Option WC):Bool:=decide (lo<=x.1.1/\x.1.1<hi)
def StV.rf (v:StV):List ((Int×Str)×Option WC):=v.rs.zip v.os
def cnt (v:StV) (lo hi:Int) (p:WC):Nat:=(v.rf.filter (zD lo hi)).countP λx=>decide (x.2=some p)
section
variable {κ:Type} [DecidableEq κ]
def hoN (l:List (κ×Za×Nat)):List (κ×Za×V):=l.map λx=>(x.1,x.2.1,.int (x.2.2:Int))
def getM (l:List (κ×Za×Nat)) (k:κ):Nat:=((l.find? λx=>decide (x.1=k)).map (·.2.2)).getD 0
def xq (l:List (κ×Za×Nat)) (k:κ) (b:Za):List (κ×Za×Nat):=if k∈l.map (·.1)then l.map (λx=>if x.1=k then(x.1,x.2.1,x.2.2+1)else x)else l++[(k,b,1)]
structure rH (l:List (κ×Za×Nat)) (ks:List κ):Prop where
 nd:(l.map (·.1)).Nodup
 cn:∀x∈l,x.2.2=ks.count x.1
 mem:∀k,k∈l.map (·.1)↔k∈ks
theorem rH.nil:rH ([]:List (κ×Za×Nat)) []:=⟨Vj,(λx h=>by cases h),λk=>Iff.rfl⟩
theorem xi (l:List (κ×Za×Nat)) (k:κ):valN (hoN l) k=(l.find? λx=>decide (x.1=k)).map λx=>V.int (x.2.2:Int):=by
 unfold valN hoN;rw[List.find?_map,Option.map_map];rfl
theorem JV (l:List (κ×Za×Nat)) (k:κ):(valN (hoN l) k).getD (.int 0) = .int (getM l k:Int):=by
 rw[xi];unfold getM;cases l.find? λx=>decide (x.1=k) <;> rfl
theorem uU {l:List (κ×Za×Nat)}{k:κ}:(l.find? λx=>decide (x.1=k)).isSome=true↔k∈l.map (·.1):=by
 rw[List.find?_isSome];constructor
 ·rintro⟨x,a,e⟩;exact Tv.mpr ⟨x,a,Zm e⟩
 ·intro h;obtain⟨x,a,e⟩:=Tv.mp h;exact⟨x,a,Zk e⟩
theorem Cy {l:List (κ×Za×Nat)} (b:(l.map (·.1)).Nodup) {x:κ×Za×Nat} (hx:x∈l):(l.find? λy=>decide (y.1=x.1))=some x:=by
 induction l with
 | nil=>cases hx
 | cons a r c=>
  rw[TX,UI]at b;rw[UO];rcases TM.mp hx with e | h
  ·rw[<-e,Zk rfl]
  ·have hne:a.1≠x.1:=λe=>b.1 (by rw[e];exact Tv.mpr ⟨x,h,rfl⟩);rw[Zl hne];exact c b.2 h
theorem Kl {l:List (κ×Za×Nat)} (f:(l.map (·.1)).Nodup) (k:κ) (b:Za):putN (hoN l) k b (.int ((getM l k:Int)+1))=hoN (xq l k b):=by
 unfold putN xq;rw[xi,Option.isSome_map];by_cases a:k∈l.map (·.1)
 ·rw[Zn (uU.mpr a),Zn a];unfold hoN;rw[T7,T7];refine T8 λx d=>?_;show(if x.1=k then(x.1,x.2.1,V.int ((getM l k:Int)+1))else _)=_;by_cases e:x.1=k
  ·have c:getM l k=x.2.2:=by
    unfold getM;rw[<-e,Cy f d];rfl
   rw[Zn e];show _=(λy:κ×Za×Nat=>(y.1,y.2.1,V.int (y.2.2:Int))) (if x.1=k then(x.1,x.2.1,x.2.2+1)else x);rw[Zn e,c];rfl
  ·rw[Zo e];show _=(λy:κ×Za×Nat=>(y.1,y.2.1,V.int (y.2.2:Int))) (if x.1=k then(x.1,x.2.1,x.2.2+1)else x);rw[Zo e]
 ·rw[Zo (λe=>a (uU.mp e)),Zo a];unfold hoN;rw[TK];have c:getM l k=0:=by
   unfold getM;cases e:l.find? λx=>decide (x.1=k)with
   | none=>rfl
   | some x=>exact(a (uU.mp (by rw[e];rfl))).elim
  rw[c];rfl
theorem rH.put {l:List (κ×Za×Nat)}{ks:List κ} (h:rH l ks) (k:κ) (b:Za):rH (xq l k b) (ks++[k]):=by
 unfold xq;by_cases f:k∈l.map (·.1)
 ·rw[Zn f];have n:(l.map (λx=>if x.1=k then(x.1,x.2.1,x.2.2+1)else x)).map (·.1)=l.map (·.1):=by
   rw[T7];refine T8 λx _=>?_;show(if x.1=k then(x.1,x.2.1,x.2.2+1)else x).1=x.1
   split <;> rfl
  refine⟨by rw[n];exact h.nd,λx d=>?_,λq=>?_⟩
  ·obtain⟨y,j,rfl⟩:=Tv.mp d;rw[Vh];by_cases e:y.1=k
   ·rw[Zn e];show y.2.2+1=ks.count y.1 + [k].count y.1;rw[h.cn y j,e,Vr]
   ·rw[Zo e,h.cn y j,List.count_singleton,Zo (λz=>e (eq_of_beq z).symm),Nat.add_zero]
  ·rw[n,h.mem q,TV,Tz];exact⟨.inl,λz=>z.elim id λz=>by rw[z];exact(h.mem k).mp f⟩
 ·rw[Zo f];have g:k∉ks:=λz=>f ((h.mem k).mpr z);refine⟨?_,λx d=>?_,λq=>?_⟩
  ·rw[TK,Vg];refine⟨h.nd,by simp,λa o c m=>?_⟩;rw[TX,U0,Tz]at m;rw[m];exactλe=>f (by rw[show k=a from e.symm];exact o)
  ·rcases TV.mp d with d | d
   ·have i:x.1≠k:=λe=>f (by rw[<-e];exact Tv.mpr ⟨x,d,rfl⟩);rw[Vh,h.cn x d,List.count_singleton,Zo (λz=>i (eq_of_beq z).symm),Nat.add_zero]
   ·rw[Tz.mp d,Vh,Vr,VM.mpr g]
  ·rw[TK,TV,TV,h.mem q];exact Iff.rfl
theorem Hl {l:List (κ×Za×Nat)}{k:κ}{b:Za}{x:κ×Za×Nat} (h:x∈xq l k b):(∃y∈l,y.1=x.1/\y.2.1=x.2.1)\/(x.1=k/\x.2.1=b):=by
 unfold xq at h
 split at h
 ·obtain⟨y,a,rfl⟩:=Tv.mp h;refine .inl ⟨y,a,?_⟩
  split <;> exact⟨rfl,rfl⟩
 ·rcases TV.mp h with h | h
  ·exact .inl ⟨x,h,rfl,rfl⟩
  ·rw[Tz.mp h];exact .inr ⟨rfl,rfl⟩
theorem Gm {l:List (κ×Za×Nat)}{k:κ}{b:Za}:(xq l k b).length<=l.length+1:=by
 unfold xq
 split
 ·rw[Tt];lia
 ·rw[TJ];exact Tw _
theorem rH.sum {l:List (κ×Za×Nat)}:∀{ks:List κ},rH l ks->(l.map (·.2.2)).sum=ks.length:=by
 intro ks h;have c:∀(l:List (κ×Za×Nat)),(l.map (·.1)).Nodup->(l.map λx=>ks.count x.1).sum=(ks.filter λk=>decide (k∈l.map (·.1))).length:=by
  intro l
  induction l with
  | nil=>intro _;rw[Vz.mpr λk _=>by simp];rfl
  | cons a r j=>
   intro d;rw[TX,UI]at d;rw[TX,Uw,j d.2];have o:∀ks:List κ,ks.count a.1+(ks.filter λk=>decide (k∈r.map (·.1))).length=(ks.filter λk=>decide (k∈(a::r).map (·.1))).length:=λks=>by
    induction ks with
    | nil=>rfl
    | cons q t b=>
     rw[VF,U8,U8];by_cases e:q=a.1
     ·have g:q∉r.map (·.1):=by rw[e];exact d.1
      have f:q∈(a::r).map (·.1):=by rw[e];exact .head _
      rw[Zl g,Zk f,Zn (by simp[e]),Zo TQ,Zn rfl,TR,<-b];lia
     ·have p:decide (q∈(a::r).map (·.1))=decide (q∈r.map (·.1)):=by
       refine decide_eq_decide.mpr ⟨λz=>?_,λz=>.tail _ z⟩;rcases TM.mp (show q∈a.1::r.map (·.1)from z)with z | z
       ·exact(e z).elim
       ·exact z
      rw[p,Zo (by simpa using e)]
      split
      ·rw[TR,TR,<-b];lia
      ·rw[<-b];lia
   exact o ks
 have n:(l.map (·.2.2))=l.map λx=>ks.count x.1:=T8 λx m=>h.cn x m
 rw[n,c l h.nd,List.filter_eq_self.mpr λk i=>Zk ((h.mem k).mpr i)]
end
abbrev Kq:=WC×WC
def tupP (ps:WC):Zf:=.tuple (ps.map Pt.dat)
def prD (k:Kq):Zf:=.tuple [tupP k.1,tupP k.2]
def JG (k:Kq):Prop:=(∀p∈k.1,p.ok)/\∀p∈k.2,p.ok
theorem v5:∀ps:WC,lH (ps.map Pt.dat)=true
 | []=>rfl
 | p::r=>by
  rw[TX,lH,v5 r];cases p <;> rfl
theorem Cq (ps:WC):Y3 (ps.map Pt.dat)<=1:=cK _ λd hd=>by
 obtain⟨p,_,rfl⟩:=Tv.mp hd;cases p <;> exact Tw _
theorem Mc {p:Pt} (h:p.ok):p.dat.canLay0=true:=by
 cases p with
 | word w=>simp[Pt.dat,PyData.canLay0,Y4,h.2];decide +kernel
 | hole k=>
  have:∀k<3,(Pt.hole k).dat.canLay0=true:=by decide +kernel
  exact this k h
theorem yv:∀{ps:WC},(∀p∈ps,p.ok)->Y4 (ps.map Pt.dat)=true
 | [],_=>rfl
 | p::r,h=>by
  rw[TX,Y4,Mc (h p (.head _)),yv λq hq=>h q (.tail _ hq)];rfl
theorem CU {ps qs:WC} (hp:∀p∈ps,p.ok) (hq:∀p∈qs,p.ok):Y9 (tupP ps) (tupP qs)=decide (ps=qs):=by
 rw[<-rY hp hq];simp only[tupP,aJ,Y9]
def rL:lR Kq where
 enc:=prD
 ok:=JG
 td:=λk=>by
  simp only[prD,tupP,rG,lH,v5];rfl
 dep:=λk=>by
  have h1:=Cq k.1;have h2:=Cq k.2;simp only[prD,tupP,Yj,Y3];lia
 lay:=λk h=>by
  simp only[prD,tupP,PyData.canLay0,Y4,yv h.1,yv h.2];rfl
 eqv:=λx y hx hy=>by
  have e:Y9 (prD x) (prD y)=(Y9 (tupP x.1) (tupP y.1) && Y9 (tupP x.2) (tupP y.2)):=by
   simp only[prD,Y9,YV,Bool.and_true]
  rw[e,CU hx.1 hy.1,CU hx.2 hy.2,Ue,Ub,decide_eq_true_eq,decide_eq_true_eq,decide_eq_true_eq];exact⟨λ⟨a,b⟩=>Prod.ext a b,λh=>by rw[h];exact⟨rfl,rfl⟩⟩
def pkD (k:Kq):Zf:=.tuple [fF k.1,fF k.2]
abbrev M4:Sh:=.b6 (.b6 .int oW) .vB
theorem KO (k:Kq):(Sh.b6 (.b6 .int oW) M4).has (pkD k):=⟨_,_,rfl,oh k.1,_,_,rfl,oh k.2,rfl⟩
theorem Ml (k:Kq):(pkD k).depth<=100:=by
 have h:∀a:WC,(fF a).depth<=10:=λa=>by
  have h:Y3 (a.map Pt.key)<=5:=cK _ λd b=>by
   obtain⟨c,_,rfl⟩:=Tv.mp b;exact Cz c
  simp only[fF,Yj,Y3];lia
 have f:=h k.1;have e:=h k.2;simp only[pkD,Yj,Y3];lia
theorem Lv {a b:Kq} (h:pkD a=pkD b):a=b:=by
 simp only[pkD,PyData.tuple.injEq,List.cons.injEq,and_true]at h;exact Prod.ext (o4 h.1) (o4 h.2)
def mvD (m:Kq×Nat):Zf:=.tuple [aJ m.1.1,aJ m.1.2,.int (m.2:Int)]
def MD {κ:Type} [DecidableEq κ] (ks:List κ) (k:κ):Nat:=ks.count k
structure nZ (ks:List Kq) (l:List (Kq×Nat)):Prop where
 nd:(l.map (·.1)).Nodup
 cn:∀x∈l,x.2=MD ks x.1
 mem:∀k,k∈l.map (·.1)↔k∈ks
 ord:l.Pairwise λa b=>ltv (pkD b.1) (pkD a.1)=false
theorem Co {κ:Type}{l:List (κ×Nat)} (h:(l.map (·.1)).Nodup):l.Nodup:=by
 induction l with
 | nil=>exact Vj
 | cons a r ih=>
  rw[TX,UI]at h;rw[UI];exact⟨λz=>h.1 (Tv.mpr ⟨a,z,rfl⟩),ih h.2⟩
theorem Cr {κ:Type} [DecidableEq κ] {f:κ->κ} (v:∀a,f (f a)=a) {ks ks':List κ}{l l':List (κ×Nat)} (j:ks' = ks.map f) (D:(l.map (·.1)).Nodup) (u:∀x∈l,x.2=ks.count x.1) (i:∀k,k∈l.map (·.1)↔k∈ks)
  (p:(l'.map (·.1)).Nodup) (c:∀x∈l',x.2=ks'.count x.1) (A:∀k,k∈l'.map (·.1)↔k∈ks'):(l.map λx=>(f x.1,x.2)).Perm l':=by
 have d:∀a b,f a=f b->a=b:=λa b e=>by rw[<-v a,e,v b]
 have B:∀k,(ks.map f).count (f k)=ks.count k:=λk=>by
  induction ks with
  | nil=>rfl
  | cons a r _=>
   have q:∀r:List κ,(r.map f).count (f k)=r.count k:=λr=>by
    induction r with
    | nil=>rfl
    | cons a r s=>
     rw[TX,VF,VF,s];by_cases e:a=k
     ·rw[e];simp
     ·rw[Zo (λz=>e (d _ _ (eq_of_beq z))),Zo (λz=>e (eq_of_beq z))]
   exact q (a::r)
 have C:(l.map λx=>(f x.1,x.2)).Nodup:=by
  refine Co ?_;rw[T7];have e:(l.map ((λx:κ×Nat=>x.1) ∘ λx=>(f x.1,x.2)))=(l.map (·.1)).map f:=by rw[T7];rfl
  rw[e];exact(Uk.mpr (D.imp λh z=>h (d _ _ z)))
 refine(VJ C (Co p)).mpr λy=>?_;constructor
 ·intro m;obtain⟨x,g,rfl⟩:=Tv.mp m;have n:f x.1∈l'.map (·.1):=(A _).mpr (by rw[j];exact Tv.mpr ⟨x.1,(i x.1).mp (Tv.mpr ⟨x,g,rfl⟩),rfl⟩)
  obtain⟨z,w,e⟩:=Tv.mp n;have:z=(f x.1,x.2):=Prod.ext e (by rw[c z w,e,j,B,<-u x g]);rw[<-this];exact w
 ·intro m;have n:y.1∈ks':=(A y.1).mp (Tv.mpr ⟨y,m,rfl⟩);rw[j]at n;obtain⟨k,o,e⟩:=Tv.mp n;obtain⟨x,g,t⟩:=Tv.mp ((i k).mpr o);refine Tv.mpr ⟨x,g,Prod.ext (by rw[t,e]) ?_⟩;rw[c y m,j,<-e,B,<-t];exact u x g
theorem nZ.unique {ks:List Kq}{l l':List (Kq×Nat)} (h:nZ ks l) (h':nZ ks l'):l=l':=by
 have a:(l.map λx=>(x.1,x.2)).Perm l':=Cr (f:=λk=>k) (λ_=>rfl) (List.map_id _).symm h.nd h.cn h.mem h'.nd h'.cn h'.mem;have e:(l.map λx=>(x.1,x.2))=l:=List.map_id _;rw[e]at a;have m:l.map (λx=>pkD x.1)=l'.map (λx=>pkD x.1):=i7 (Sh.ok (.b6 (.b6 .int oW) M4)) (λx j=>by
  obtain⟨y,_,rfl⟩:=Tv.mp j;exact KO _) (a.map _) (Uk.mpr h.ord) (Uk.mpr h'.ord)
 have n:=a.length_eq;refine Vp n λi g b=>?_;have c:(l.map λx=>pkD x.1)[i]? = (l'.map λx=>pkD x.1)[i]?:=by rw[m]
 rw[TF,TF,Tu g,Tu b]at c;have d:l[i].1=l'[i].1:=Lv (by simpa using c);exact Prod.ext d (by rw[h.cn _ (Uj g),h'.cn _ (Uj b),d])
theorem nZ.turned {ks:List Kq}{l l':List (Kq×Nat)} (h:nZ ks l) (h':nZ (ks.map Prod.swap) l'):(l.map λx=>(x.1.swap,x.2)).Perm l':=Cr (f:=Prod.swap) (λa=>by cases a;rfl) rfl h.nd h.cn h.mem h'.nd h'.cn h'.mem
theorem nZ.sum {ks:List Kq}{l:List (Kq×Nat)} (h:nZ ks l):(l.map (·.2)).sum=ks.length:=by
 have e:rH (l.map λx=>(x.1,0,x.2)) ks:=⟨by rw[T7];exact h.nd,λx a=>by
  obtain⟨y,b,rfl⟩:=Tv.mp a;exact h.cn y b,λk=>by rw[T7];exact h.mem k⟩
 have:=e.sum;rw[T7]at this;exact this
def m0:Kq×Za×Nat:=(([],[]),0,0)
def DW (l:List (Kq×Za×Nat)) (p:List Nat):List (Kq×Za×Nat):=p.map λi=>l.getD i m0
theorem EK {l:List (Kq×Za×Nat)}{p:List Nat} (b:p.Perm (Y7 l.length)):(DW l p).Perm l:=by
 refine(b.map _).trans ?_;rw[show(Y7 l.length).map (λi=>l.getD i m0)=l from ?_];refine Vp (by simp) λi _ a=>?_;rw[List.getElem_map,List.getElem_range,TU,Tu a];rfl
theorem Ii {l:List (Kq×Za×Nat)}{p:List Nat} (b:p.Perm (Y7 l.length)):picked ((hoN l).map λkv=>V.ref kv.2.1) p=(DW l p).map λx=>V.ref x.2.1:=by
 unfold picked DW;rw[T7];refine T8 λi a=>?_;have a:=Uo.mp (b.mem_iff.mp a);show Yx _ i _=V.ref (l.getD i m0).2.1;rw[TU,TU];unfold hoN;rw[T7,TF,Tu a];rfl
theorem Hi {l:List (Kq×Za×Nat)}{p:List Nat} (e:p.Perm (Y7 l.length)) (h:eQ (l.map λx=>pkD x.1) p):(DW l p).Pairwise λa b=>ltv (pkD b.1) (pkD a.1)=false:=by
 unfold eQ at h;unfold DW;rw[Uk]at h ⊢;refine h.imp_of_mem λ{i j} m f q=>?_;have d:i<l.length:=Uo.mp (e.mem_iff.mp m);have c:j<l.length:=Uo.mp (e.mem_iff.mp f);have k:(l.map λx=>pkD x.1).getD i .none=pkD (l.getD i m0).1:=by simp[Yx,Tu d]
 have g:(l.map λx=>pkD x.1).getD j .none=pkD (l.getD j m0).1:=by simp[Yx,Tu c]
 rw[k,g]at q;exact q
theorem OI {l m:List (Kq×Za×Nat)}{ks:List Kq} (h:rH l ks) (c:m.Perm l) (g:m.Pairwise λa b=>ltv (pkD b.1) (pkD a.1)=false):nZ ks (m.map λx=>(x.1,x.2.2)):=by
 have e:(m.map λx=>(x.1,x.2.2)).map (·.1)=m.map (·.1):=by rw[T7];rfl
 refine⟨?_,λx d=>?_,λk=>?_,Uk.mpr g⟩
 ·rw[e];exact(c.map (·.1)).nodup_iff.mpr h.nd
 ·obtain⟨y,f,rfl⟩:=Tv.mp d;exact h.cn y (c.mem_iff.mp f)
 ·rw[e,(c.map (·.1)).mem_iff]
  exact h.mem k
theorem mU {P d:Za}{pos:Pos}{qual:Str}{H H':Hp}{ys:WD} (h:ig P pos qual H) (g:H d=some (.lst ys)) (s:ae (wo d H) H'):ig P pos qual H':=by
 obtain⟨k,f,j,i⟩:=h;have a:P≠d:=nn f g
 refine⟨k,s _ _ (Zp a f),j,i.imp id λ⟨c,x,y⟩=>⟨c,x,?_⟩⟩;have b:c≠d:=nn y g
 exact s _ _ (Zp b y)
structure MdI (K:Wz) (pos:Pos) (qual:Str) (CL CS P:Za) (H0:Hp) (d g pa LF:Za) (n:Nat) (lv:WD) (Bi:Hp) (tb:Za) (v:gr) (H:Hp):Prop where
 sB:ae (wo d (wo P H0)) H
 la:ig P pos qual H
 dk:Dk H d n
 lg:br K CL CS Bi H g pa tb v
 mu:∀c o,H0 c=some o->xJ o->Bi c=none
 bl:Bi LF=none
 nt:LF≠tb
 t0:H0 tb=none
 lf:H LF=some (.lst lv)
 d0:∃ys,H0 d=some (.lst ys)
 P0:∃q,H0 P=some (.tbl q)
 g0:H0 g=none
 p0:H0 pa=none
 l0:H0 LF=none
 ng:LF≠g
 np:LF≠pa
section
variable {K:Wz}{pos:Pos}{qual:Str}{CL CS P:Za}{H0 Bi B' H H':Hp}{d g pa LF tb tb':Za}{n m:Nat}{lv lv':WD}{v v':gr}
end
structure WOd (w:Str):Prop where
 word:cS w=true
 len:w.length<=5
 ok:Y5 w=true
theorem d1:∀x∈xG,cS x=true/\x.length<=5/\Y5 x=true:=by decide +kernel
theorem d2:∀x∈yA,cS x=true/\x.length<=5/\Y5 x=true:=by decide +kernel
theorem d3:∀x∈yG,cS x=true/\x.length<=5/\Y5 x=true:=by decide +kernel
structure SN (m:Nat) (x:Str) (ws:WF):Prop where
 eq:x=YH " " ws
 pos:1<=ws.length
 le:ws.length<=m
 wd:∀w∈ws,WOd w
structure S9 (ws:WF):Prop where
 pos:1<=ws.length
 le:ws.length<=12
 wd:∀w∈ws,WOd w
section
variable {v:StV}{s l:Int}
theorem StV.Ok.pso (h:v.Ok s l):pG (v.bs++v.fs):=λp hp=>(TV.mp hp).elim (h.hnd p) (h.gth.ok p)
theorem StV.Ok.pok (h:v.Ok s l):∀q∈v.bs++v.fs,∀p∈q,p.ok:=λq hq p hp=>((h.pso q hq).1 p hp).okP.1
theorem StV.Ok.rfm (h:v.Ok s l):∀x∈v.rf,x.1∈v.rs/\∃p∈v.bs++v.fs,x.2=some p/\cX x.1.2 p=true:=λx d=>by
 obtain⟨i,a⟩:=Vk d;unfold StV.rf at a;rw[Uq]at a;obtain⟨p,e,b,c⟩:=h.Nm a.1 a.2;exact⟨TB a.1,p,b,e,c⟩
end
theorem vI {p:WC} (b:∀x∈p,x.ok):∀{l:List ((Int×Str)×Option WC)},(∀x∈l,∃q,x.2=some q/\∀y∈q,y.ok)->(l.map λx=>oP x.2).countP (λe=>Y9 e (aJ p))=l.countP λx=>decide (x.2=some p)
 | [],_=>rfl
 | a::l,h=>by
  obtain⟨q,e,c⟩:=h a (TH ..);rw[TX,US,US,vI b λx d=>h x (TC _ d),e];show _+(if Y9 (aJ q) (aJ p)=true then 1 else 0)=_;rw[rY c b];simp
theorem MN {v:StV}{s l lo hi:Int}{p:WC} (h:v.Ok s l) (a:p∈v.bs++v.fs):((v.rf.filter (zD lo hi)).map λx=>oP x.2).countP (λe=>Y9 e (aJ p))=cnt v lo hi p:=by
 refine vI (h.pok p a) λx c=>?_;obtain⟨_,q,b,e,_⟩:=h.rfm x (Ud.mp c).1;exact⟨q,e,h.pok q b⟩
structure S7 (ws:WF) (m:List (Str×Nat)):Prop where
 nd:(m.map (·.1)).Nodup
 mem:∀y,y∈m.map (·.1)↔y∈ws
 cnt:∀x∈m,x.2=ws.count x.1
 ord:(m.map λx=>wkD x.1).Pairwise λa b=>ltv b a=false
def RM:Option Pt->Bool
 | some (.hole _)=>true
 | _=>false
def hPl (p:WC) (i:Nat):List Nat:=(Y7 i).filter λn=>RM p[n]?
theorem k4.unique {bs fs:WB}{z:Str}{o o':Option WC} (h:k4 bs fs z o) (h':k4 bs fs z o'):o=o':=by
 rcases h with⟨p,rfl,c⟩ | ⟨g,f⟩
 ·rcases h' with⟨q,rfl,a⟩ | ⟨d,_⟩
  ·rw[oY c a λ_=>Iff.rfl]
  ·have:=c.1;rw[d]at this;cases this
 ·rcases h' with⟨q,rfl,a⟩ | ⟨_,b⟩
  ·have:=a.1;rw[g]at this;cases this
  ·rcases f with⟨e,rfl⟩ | ⟨p,rfl,c⟩
   ·rcases b with⟨_,rfl⟩ | ⟨q,rfl,a⟩
    ·rfl
    ·have:=a.1;rw[e]at this;cases this
   ·rcases b with⟨e,rfl⟩ | ⟨q,rfl,a⟩
    ·have:=c.1;rw[e]at this;cases this
    ·rw[oY c a λ_=>Iff.rfl]
open Classical in
noncomputable def Sl (bs fs:WB) (z:Str):Option WC:=if h:∃o,k4 bs fs z o then h.choose else none
def pwO (o:Bool):Nat:=if o then 1 else 0
def pxO (o:Bool):Nat:=if o then 0 else 1
section
variable {o:Bool}{R:List (Str×Str)}{rss:WE}{W:WF}{s l:Int}
theorem q3 {q:Nat} (h:q<3) (o:Bool):q=pwO o\/q=pxO o\/q=2:=by cases o <;> (show q=_\/q=_\/q=2;simp[pwO,pxO];lia)
end
theorem HW (x:Str):reprQuote x<200:=by
 unfold reprQuote
 split <;> decide
theorem Hv {x:Str} (h:Sgs x):∀c∈pts (.str x),c<200:=λc a=>by
 rw[CQ]at a;have d:=HW x;rcases TM.mp a with e | a
 ·rw[e];exact d
 rcases TV.mp a with a | a
 ·obtain⟨b,g,a⟩:=UK.mp a;have f:=h b g;have i:=Nc f;rw[Df f]at a
  split at a
  ·rcases TM.mp a with e | a
   ·rw[e];decide
   ·rw[Tz.mp a];lia
  ·rw[Tz.mp a];lia
 ·rw[Tz.mp a];exact d
theorem Gn:∀{l:List (List Nat)},(∀t∈l,∀c∈t,c<200)->∀c∈jn l,c<200
 | [],_,c,hc=>by cases hc
 | [t],h,c,hc=>h t (TH ..) c hc
 | t::u::r,h,c,hc=>by
  rcases TV.mp (show c∈t++44::32::jn (u::r)from hc)with hc | hc
  ·exact h t (TH ..) c hc
  rcases TM.mp hc with e | hc
  ·rw[e];decide
  rcases TM.mp hc with e | hc
  ·rw[e];decide
  exact Gn (λt a=>h t (TC _ a)) c hc
theorem C9 {a b:Str} (f:Sgs a) (g:Sgs b):∀c∈pts (.tuple [.str a,.str b]),c<200:=λc d=>by
 rw[sV]at d;rcases TM.mp d with e | d
 ·rw[e];decide
 rcases TV.mp d with d | d
 ·exact Hv f c d
 rcases TM.mp d with e | d
 ·rw[e];decide
 rcases TM.mp d with e | d
 ·rw[e];decide
 rcases TV.mp d with d | d
 ·exact Hv g c d
 ·rw[Tz.mp d];decide
theorem HD:∀k,k<3->Sgs (cx k):=λk hk=>by
 have:k=0\/k=1\/k=2:=by lia
 rcases this with rfl | rfl | rfl <;> (unfold Sgs;decide +kernel)
theorem KC {p:Pt} (h:PtW p):∀c∈pts p.dat,c<200:=by
 cases p with
 | word w=>exact C9 kC.1 (A0 h.1)
 | hole k=>exact C9 kC.2.1 (HD k h)
theorem vR {ps:WC} (h:PW ps):∀c∈pts (aJ ps),c<200:=λc a=>by
 unfold aJ at a;rw[Aa]at a;rcases TM.mp a with e | a
 ·rw[e];decide
 rcases TV.mp a with a | a
 ·refine Gn (λt ht=>?_) c a;obtain⟨d,f,rfl⟩:=Tv.mp ht;obtain⟨p,b,rfl⟩:=Tv.mp f;exact KC (h p b)
 ·rw[Tz.mp a];decide
theorem wM {ps:WC} (h:PW ps) (b:ps.length<=12):Di (aJ ps):=by
 have s:=vc [ps];have a:(aJ ps).showable=true:=by
  have:=s.1;unfold vT at this;simp only[TX,U0,PyData.showable,Z5,Bool.and_true]at this;exact this
 have c:(aJ ps).hasDict=false:=by
  have:=s.2;unfold vT at this;simp only[TX,U0,PyData.hasDict,PyData.hasDictAll,VC]at this;exact this
 refine⟨a,c,TN (cs ps) (by decide),λ_=>?_⟩;have e:(aJ ps).shown.length=(pts (aJ ps)).length:=by unfold pts;simp[Z2]
 rw[e];exact TN (xp h b) (by decide)
end LG
namespace LG
section
open PySem PySem.Spec PyProof.Rows L2
open PySem.Builtin PySem.Builtin.Str
theorem G3 (ts:WF):(tupleText ts).length<=piled ts+4:=by
 unfold tupleText;rw[strLen_append,strLen_append];have a:(Yk "(").length=1:=rfl;have b:(((if ts.length == 1 then ",)" else ")" : String):Str)).length<=2:=by split <;> decide
 by_cases h:ts=[]
 ·subst h;have:(YI ", " []).length=0:=rfl;lia
 ·have:=join_length_add ts h;lia
end
open PySem L2
section
variable {K:Wz}{CL CS:Za}{B W H H' H1:Hp}{g pa tb tb' P c:Za}{v:gr}{o:HO}
def gv (H:Hp) (g pa tb P:Za):Hp:=wo g (wo pa (wo tb (wo P H)))
theorem pf (h:gv H g pa tb P c=some o):c≠g/\c≠pa/\c≠tb/\c≠P/\H c=some o:=by
 obtain⟨h1,h⟩:=aZ h;obtain⟨h2,h⟩:=aZ h;obtain⟨h3,h⟩:=aZ h;obtain⟨h4,h⟩:=aZ h;exact⟨h1,h2,h3,h4,h⟩
theorem rZ (h1:c≠g) (h2:c≠pa) (h3:c≠tb) (h4:c≠P):gv H g pa tb P c=H c:=by
 unfold gv;rw[av h1,av h2,av h3,av h4]
theorem D1:ae (gv H g pa tb P) H:=λc o h=>(pf h).2.2.2.2
structure Kept (W H:Hp) (g pa tb P:Za):Prop where
 s:ae W H
 hg:W g=none
 hpa:W pa=none
 htb:W tb=none
 hP:W P=none
theorem Kept.same (h:Kept W H g pa tb P) (s:ae H H'):Kept W H' g pa tb P:={ h with s:=h.s.trans s }
theorem Kept.ne (h:Kept W H g pa tb P) (e:W c=some o):c≠g/\c≠pa/\c≠tb/\c≠P:=⟨(nn e h.hg),(nn e h.hpa),(nn e h.htb),nn e h.hP⟩
theorem mT:Kept (gv H g pa tb P) H g pa tb P:=by
 refine⟨D1,cu,?_,?_,?_⟩
 ·cases e:gv H g pa tb P pa with
  | none=>rfl
  | some o=>exact((pf e).2.1 rfl).elim
 ·cases e:gv H g pa tb P tb with
  | none=>rfl
  | some o=>exact((pf e).2.2.1 rfl).elim
 ·cases e:gv H g pa tb P P with
  | none=>rfl
  | some o=>exact((pf e).2.2.2.1 rfl).elim
theorem Kept.on (h:Kept W H g pa tb P):ae W (gv H g pa tb P):=λc o e=>by
 obtain⟨h1,h2,h3,h4⟩:=h.ne e;rw[rZ h1 h2 h3 h4];exact h.s _ _ e
theorem Kept.JJ (h:Kept W H g pa tb P) (s:ae (wo g (wo pa (wo P H))) H') (a:H tb' = none):Kept W H' g pa tb' P:=by
 refine⟨λc o e=>?_,h.hg,h.hpa,h.s.free a,h.hP⟩;obtain⟨f,b,_,d⟩:=h.ne e;exact s _ _ (Zr f b d (h.s _ _ e))
theorem Kept.back (h:Kept W H g pa tb P) (s:ae (wo g (wo pa (wo tb (wo P H)))) H'):Kept W H' g pa tb P:={ h with s:=h.on.trans s }
theorem Kept.lam (h:Kept W H g pa tb P) (s:ae (wo P H) H'):Kept W H' g pa tb P:={ h with s:=λc o e=>s _ _ (Zp ((h.ne e).2.2.2) (h.s _ _ e)) }
theorem br.refs (h:br K CL CS B H g pa tb v):(∃dx fs,H g=some (.ins CL dx fs))/\(∃xs,H pa=some (.lst xs))/\∃xs,H tb=some (.lst xs):=by
 obtain⟨dx,t,_,_,_,_,c,a,b,_⟩:=h;exact⟨⟨_,_,c⟩,⟨_,a⟩,⟨_,b⟩⟩
theorem wF {xs:WD}{ds:WI} (h:br K CL CS B H g pa tb v) (s:ae H H1) (b:∃q,H1 P=some (.tbl q)) (d:aC K (lim H H1) xs ds):aC K (gv H1 g pa tb P) xs ds:=by
 obtain⟨⟨_,_,k⟩,⟨_,f⟩,⟨_,i⟩⟩:=h.refs;obtain⟨q,b⟩:=b;refine o9 d λc o j a _ l m=>?_;rw[rZ]
 ·exact a
 ·intro e;rw[e,s _ _ k]at a;cases a;exact l _ _ _ rfl
 ·intro e;exact j _ (by rw[e];exact f)
 ·intro e;exact j _ (by rw[e];exact i)
 ·intro e;rw[e,b]at a;cases a;exact m _ rfl
theorem y0 {x:V}{d:Zf} (h:br K CL CS B H g pa tb v) (s:ae H H1) (b:∃q,H1 P=some (.tbl q)) (c:Den K (lim H H1) x d):Den K (gv H1 g pa tb P) x d:=by
 cases wF h s b (.cons c .nil)with
 | cons a _=>exact a
end
section
variable {v v':StV}{s l:Int}
theorem StV.Ok.pws (h:v.Ok s l):pG (v.bs++v.fs):=λp hp=>(TV.mp hp).elim (h.hnd p) (h.gth.ok p)
theorem pG.pok {pss:WB} (h:pG pss) {ps:WC} (hm:ps∈pss):POk ps:=⟨TN (h ps hm).2.2 (by decide),λp hp=>((h ps hm).1 p hp).okP.1⟩
theorem StV.Ok.obs (h:v.Ok s l):∃ob:WB,v.os=ob.map some/\∀ps∈ob,ps∈v.bs++v.fs:=by
 have a:∀o∈v.os,∃p,o=some p/\p∈v.bs++v.fs:=λo c=>by
  obtain⟨i,d,e⟩:=UU.mp c;have b:i<v.rs.length:=by rw[<-h.len];exact d
  obtain⟨p,n,m,_⟩:=h.Nm (Tu b) (Tu d);exact⟨p,e.symm.trans n,m⟩
 generalize v.os=os at a
 induction os with
 | nil=>exact⟨[],rfl,λ_ h=>by cases h⟩
 | cons o os g=>
  obtain⟨p,rfl,j⟩:=a o (TH ..);obtain⟨ob,e,f⟩:=g λo c=>a o (TC _ c);exact⟨p::ob,by rw[e];rfl,λq k=>(TM.mp k).elim (λz=>z ▸ j) (f q)⟩
theorem w8 {bs fs:WB}{zs:WF}{b os':List (Option WC)} (h:ql bs fs zs b) (h':ql bs fs zs os'):b=os':=by
 refine Vp (h.1.trans h'.1.symm) λi c d=>?_;have a:i<zs.length:=by rw[<-h.1];exact c
 exact k4.unique (h.2 i _ _ (Tu a) (Tu c)) (h'.2 i _ _ (Tu a) (Tu d))
theorem StV.Ok.unique (h:v.Ok s l) (h':v'.Ok s l) (b:v.rs=v'.rs) (a:v.bs=v'.bs):v=v':=by
 obtain⟨_,_,d,f⟩:=v;obtain⟨_,_,fs',os'⟩:=v';simp only at b a;subst b a;have e:d=fs':=h.gth.unique h'.gth;subst e;have c:f=os':=w8 h.fls h'.fls;rw[c]
theorem StV.Ok.Mg (h:v.Ok s l) (b:v.bs=[]):iT s l v.zZ v.fs:=by
 have:=h.gth;rw[b,JO]at this;exact this
theorem Km {m:Int}{z:Str}{j:Nat}{oa d:WB} (h:v.Ok s l) (h':v'.Ok s l) (E:v'.rs=v.rs++[(m,z)]) (b:v.bs=[]) (u:v'.bs=[]) (o:v.zZ[j]? = some z) (ea:v.os=oa.map some) (t:v'.os=d.map some) :
  v'.fs=v.fs/\∃p,oa[j]? = some p/\d=oa++[p]:=by
 have A:v'.zZ=v.zZ++[z]:=by unfold StV.zZ;rw[E,TK];rfl
 have D:=TB o;have B:v'.fs=v.fs:=by
  refine(h'.Mg u).unique ((h.Mg b).QL λy=>?_);rw[A,TV,Tz];exact⟨.inl,λq=>q.elim id λe=>e ▸ D⟩
 have g:=h.fls;have f:=h'.fls;rw[b]at g;rw[u,B,A]at f;have w:oa.length=v.zZ.length:=by rw[<-g.1,ea,Tt]
 have F:d.length=v.zZ.length+1:=by
  have:=f.1;rw[t,Tt,TJ,T1]at this;exact this
 have c:j<oa.length:=by rw[w];exact aI o
 refine⟨B,oa[j],Tu c,?_⟩;have x:∀i (a:i<oa.length),v.os[i]? = some (some oa[i]):=λi a=>by rw[ea,TF,Tu a];rfl
 have r:∀i (a:i<d.length),v'.os[i]? = some (some d[i]):=λi a=>by rw[t,TF,Tu a];rfl
 refine Vp (by rw[TJ,T1];lia) λi C _=>?_;rcases Ur i oa.length with a | a
 ·rw[VU a];have n:i<v.zZ.length:=by lia
  have:=k4.unique (f.2 i v.zZ[i] _ (by rw[Ui n,Tu n]) (r i C)) (g.2 i _ _ (Tu n) (x i a));exact Yr this
 ·have k:i=oa.length:=by lia
  subst k;rw[List.getElem_append_right (Tw _)];have:=k4.unique (f.2 oa.length z _ (by rw[w];simp) (r _ C)) (g.2 j z _ o (x j c));simpa using this
end
theorem DG:∀n:Nat,n<64->(PyData.int (n:Int)).showable=true/\(PyData.int (n:Int)).hasDict=false/\(PyData.int (n:Int)).shown.length<=10:=by decide +kernel
theorem zt {p q:WC}{n:Nat} (f:PW p) (h:p.length<=12) (g:PW q) (b:q.length<=12) (j:n<64):Di (.tuple [aJ p,aJ q,.int (n:Int)]):=by
 have c:=wM f h;have d:=wM g b;obtain⟨i,_,_⟩:=DG n j;have e:∀a:WC,(aJ a).shown.length=(pts (aJ a)).length:=λa=>by unfold pts;simp[Z2]
 have k:=xp f h;have m:=xp g b;have d1:=cs p;have d2:=cs q;refine⟨by simp only[PyData.showable,Z5,c.Ku,d.Ku,Bool.and_true,Ve];first | exact i | rfl,by simp only[PyData.hasDict,PyData.hasDictAll,c.nod,d.nod,VC,Bool.false_or],by simp only[Yj,Y3];lia,λ_=>?_⟩;have t:=G3 (PyData.shownAll [aJ p,aJ q,.int (n:Int)]);have l:200000<=Zg:=by decide
 rw[PyData.shown];simp only[PyData.shownAll]at t ⊢;rw[piled_cons,piled_cons,piled_cons,e,e]at t;have:piled []=0:=rfl;lia
theorem Jt (a b c:Zf):pts (.tuple [a,b,c])=40::(jn [pts a,pts b,pts c]++[41]):=by
 have f:(("(" : Str)).cps.toList=[40]:=by decide +kernel
 have d:(((if ([a,b,c].length == 1)=true then ",)" else ")" : String)):Str).cps.toList=[41]:=by
  show((")" : String):Str).cps.toList=[41];decide +kernel
 have e:=yC [a,b,c];unfold pts;rw[PyData.shown_tuple];simp only[Str.cps_append,UE,f,d,e,UZ,U9,List.nil_append];rfl
theorem Ee:∀n:Nat,n<64->∀c∈L4 n,c<200:=by decide +kernel
theorem GV {p q:WC}{n:Nat} (b:PW p) (f:PW q) (d:n<64):Y5 (tR (.tuple [aJ p,aJ q,.int (n:Int)]))=true:=by
 show(PyData.shown (.tuple [aJ p,aJ q,.int (n:Int)])).cps.all (λc=>decide (c<0x110000))=true;rw[<-Array.all_toList,T6];intro c a;have a:c∈pts (.tuple [aJ p,aJ q,.int (n:Int)]):=a;rw[Jt]at a;have:c<200:=by
  rcases TM.mp a with e | a
  ·rw[e];decide
  rcases TV.mp a with a | a
  ·refine Gn (λt ht=>?_) c a;rcases TM.mp ht with h | ht
   ·rw[h];exact vR b
   rcases TM.mp ht with h | ht
   ·rw[h];exact vR f
   ·rw[Tz.mp ht,Jm];exact Ee n d
  ·rw[Tz.mp a];decide
 exact Zk (by lia)
theorem zI {α β:Type}:∀(a:List α) (b:List β),(a.zip b).map Prod.swap=b.zip a
 | [],[]=>rfl
 | [],_::_=>rfl
 | _::_,[]=>rfl
 | x::a,y::b=>by rw[U2,U2,TX,zI a b];rfl
theorem Fd {b a:WB}{l c:List (Kq×Nat)} (h:nZ (b.zip a) l) (h':nZ (a.zip b) c):(l.map λx=>tR (.tuple [aJ x.1.2,aJ x.1.1,.int (x.2:Int)])).Perm (c.map λx=>tR (mvD x)):=by
 rw[<-zI b a]at h';have:=(h.turned h').map λx=>tR (mvD x);rw[T7]at this;exact this
theorem Dh {α β:Type}{a:List α}{b:List β}{x:α×β} (h:x∈a.zip b):x.1∈a/\x.2∈b:=Vu (by cases x;exact h)
end LG
namespace K37
open PySem L2 LG
set_option genSizeOf false in
set_option genInjectivity false in
structure Ad where
 kh:Za
 jF:Zb
 mR:Za
 mO:Zb
 mz:Za
 mL:Zb
 iy:Za
 ik:Zb
 qr:Za
 qe:Zb
 nX:Za
 oq:Zb
 gX:Za
 gY:Zb
 jR:Za
 ki:Zb
 lj:Za
 lO:Zb
 AK:Za
 BX:Zb
 c8:Za
 dc:Zb
 i6:Za
 i8:Zb
 su:Za
 uw:Zb
 jC:Za
 j3:Zb
 eh:Za
 eA:Zb
 mr:Za
 mF:Zb
 mJ:Za
 mm:Zb
 iu:Za
 iD:Zb
 fN:Za
 fE:Zb
 dZ:Za
 dY:Zb
 eO:Za
 cM:Zb
 ju:Za
 jo:Zb
 eL:Za
 eJ:Zb
 kH:Za
 j5:Zb
 d6:Za
 dX:Zb
 k5:Za
 kY:Zb
 jh:Za
 jk:Zb
 lW:Za
 mf:Zb
 nG:Za
 nR:Zb
 xZ:Za
 xH:Zb
 l5:Za
 lr:Zb
 dH:Za
 dz:Zb
 gb:Za
 gh:Zb
 iQ:Za
 iR:Zb
 kc:Za
 jM:Zb
 jX:Za
 j7:Zb
 lB:Za
 md:Zb
 fh:Za
 fq:Zb
 KJ:Za
 KY:Zb
 e9:Za
 gU:Zb
 jY:Za
 nU:Zb
 mn:Za
 qd:Zb
 fC:Za
 iw:Zb
 b7:Za
 dg:Zb
 c6:Za
 eC:Zb
 fR:Za
 jf:Zb
 iz:Za
 jP:Zb
 jZ:Za
 nD:Zb
 iV:Za
 lJ:Zb
 i4:Za
 lN:Zb
 dJ:Za
 eY:Zb
 iL:Za
 lD:Zb
 gO:Za
 jN:Zb
 cQ:Za
 jc:Za
 aH:Za
 aU:Za
 Nd:Za
 au:Za
structure Tx (K:Wz) (mg:Str->Option Wy) (A:Ad):Prop where
 JC:mg "ValueError" = none
 Ct:mg "all" = none
 NC:mg "any" = none
 KP:mg "enumerate" = none
 oZ:mg "isinstance" = none
 cJ:mg "len" = none
 li:mg "list" = none
 KD:mg "min" = none
 gP:mg "range" = none
 HJ:mg "set" = none
 js:mg "sorted" = none
 C8:mg "str" = none
 Pl:mg "sum" = none
 xn:mg "tuple" = none
 v3:mg "zip" = none
 xl:∃t,mg "MOST_WORDS" = some (.int 12 t)
 EB:∃t,mg "FIGURES" = some (.str DT t)
 rD:∃t,mg "SMALL_LETTERS" = some (.str Ea t)
 w5:∃t,mg "WORD_SIGNS" = some (.str wN t)
 JX:∃t,mg "MOST_PARTS" = some (.int 12 t)
 oB:mg "HOLE_KINDS" = some (.ref A.cQ)
 oR:∀H,SqT K H A.cQ [.str "number",.str "name",.str "any"]
 yB:∃o,K.lookup A.cQ=some o/\o.cls = .type "tuple" /\ o.dict=none
 IH:mg "PLAIN_SIEVE" = some (.ref A.jc)
 II:∀H,SqT K H A.jc [.int 3,.int 2]
 IG:∃o,K.lookup A.jc=some o/\o.cls = .type "tuple" /\ o.dict=none
 yj:∃t,mg "MOST_LINES" = some (.int 120 t)
 FK:∃t,mg "MOST_BY_HAND" = some (.int 12 t)
 d7:bC K mg "has_only" (top 14) ["text","signs"] A.kh A.jF
 ke:bC K mg "is_word" (top 15) ["thing"] A.mR A.mO
 jJ:bC K mg "kind_of" (top 16) ["word"] A.mz A.mL
 words_of:bC K mg "words_of" (top 17) ["line"] A.iy A.ik
 rX:bC K mg "is_line" (top 18) ["thing"] A.qr A.qe
 oC:bC K mg "word_key" (top 19) ["word"] A.nX A.oq
 dS:bC K mg "is_hole" (top 25) ["part"] A.gX A.gY
 kg:bC K mg "part_takes" (top 26) ["part","word"] A.jR A.ki
 mq:bC K mg "all_taken" (top 27) ["parts","words"] A.lj A.lO
 fits:bC K mg "fits" (top 28) ["pattern","line"] A.AK A.BX
 cB:bC K mg "kind_of_hole_around" (top 29) ["part"] A.c8 A.dc
 iP:bC K mg "joined_part" (top 30) ["parts"] A.i6 A.i8
 joined:bC K mg "joined" (top 31) ["patterns"] A.su A.uw
 iq:bC K mg "part_key" (top 32) ["part"] A.jC A.j3
 bW:bC K mg "pattern_key" (top 33) ["pattern"] A.eh A.eA
 ordered:bC K mg "ordered" (top 34) ["patterns"] A.mr A.mF
 jU:bC K mg "grouped" (top 37) ["rows","keys"] A.mJ A.mm
 eu:bC K mg "words_at" (top 38) ["group","place"] A.iu A.iD
 e7:bC K mg "many_unlike_at" (top 39) ["group","place"] A.fN A.fE
 dv:bC K mg "is_fit_to_part_at" (top 40) ["group","place","sieve"] A.dZ A.dY
 dP:bC K mg "place_to_part_at" (top 41) ["group","sieve"] A.eO A.cM
 parted:bC K mg "parted" (top 42) ["group","sieve"] A.ju A.jo
 dU:bC K mg "pattern_of_group" (top 43) ["group"] A.eL A.eJ
 gathered:F6 K mg "gathered" (top 44) ["lines","sieve"] A.kH A.j5
 du:bC K mg "looseness_of_part" (top 46) ["part"] A.d6 A.dX
 pW:bC K mg "looseness" (top 47) ["pattern"] A.k5 A.kY
 dA:bC K mg "falls_under" (top 48) ["line","patterns"] A.jh A.jk
 mK:bC K mg "how_often" (top 52) ["things"] A.lW A.mf
 uq:bC K mg "pair_key" (top 54) ["pair"] A.nG A.nR
 moved:bC K mg "moved" (top 55) ["ahead","behind"] A.xZ A.xH
 fM:bC K mg "_law_deck" (top 59) ["cell","turn"] A.l5 A.lr
 ap:bC K mg "_law_pick" (top 60) ["deck","many"] A.dH A.dz
 cY:bC K mg "_law_word" (top 62) ["deck"] A.gb A.gh
 fO:bC K mg "_law_line" (top 63) ["deck","most"] A.iQ A.iR
 jH:bC K mg "_law_lines" (top 64) ["deck","most"] A.kc A.jM
 jO:bC K mg "_law_sieve" (top 66) ["deck"] A.jX A.j7
 bY:bC K mg "_law_told" (top 67) ["log"] A.lB A.md
 eE:bC K mg "_law_more_right" (top 68) ["log","lines","line","sieve"] A.fh A.fq
 nL:iX K "__init__" "State.__init__" (mIn 56 0) ["self","sieve","rows","by_hand"] A.e9 A.gU
 zh:IF K "__init__" "Log.__init__" (mIn 57 0) ["self","sieve"] A.jY A.nU
 DA:iX K "__len__" "Log.__len__" (mIn 57 1) ["self"] A.mn A.qd
 oQ:iX K "held" "Log.held" (mIn 57 3) ["self"] A.fC A.iw
 gC:iX K "rows_with_falls" "Log.rows_with_falls" (mIn 57 4) ["self"] A.b7 A.dg
 iH:iX K "turn_to" "Log.turn_to" (mIn 57 5) ["self","held"] A.c6 A.eC
 qL:iX K "do_deed" "Log.do_deed" (mIn 57 6) ["self","rows","by_hand"] A.fR A.jf
 um:iX K "come" "Log.come" (mIn 57 7) ["self","moment","line"] A.iz A.jP
 Aq:iX K "back" "Log.back" (mIn 57 10) ["self"] A.jZ A.nD
 wx:iX K "again" "Log.again" (mIn 57 11) ["self"] A.iV A.lJ
 mG:iX K "moves" "Log.moves" (mIn 57 12) ["self"] A.i4 A.lN
 jI:iX K "patterns" "Log.patterns" (mIn 57 13) ["self"] A.dJ A.eY
 wq:iX K "under" "Log.under" (mIn 57 14) ["self","number"] A.iL A.lD
 tS:iX K "counts" "Log.counts" (mIn 57 16) ["self","low","high"] A.gO A.jN
 C3:mg "State" = some (.ref A.aH)
 bL:Cls K A.aH
 N1:PD K A.aH
 y7:Mk K A.aH A.e9
 ee:bT K A.aH "rows"
 dQ:bT K A.aH "by_hand"
 g8:bT K A.aH "found"
 dD:bT K A.aH "falls"
 ND:mg "Log" = some (.ref A.aU)
 aM:Cls K A.aU
 Qy:PD K A.aU
 M0:Mk K A.aU A.jY
 AI:mV K A.aU "__len__" A.mn
 k6:mV K A.aU "held" A.fC
 kF:mV K A.aU "rows_with_falls" A.b7
 ir:mV K A.aU "turn_to" A.c6
 ud:mV K A.aU "do_deed" A.fR
 qI:mV K A.aU "come" A.iz
 Ah:mV K A.aU "back" A.jZ
 xg:mV K A.aU "again" A.iV
 jQ:mV K A.aU "moves" A.i4
 kQ:mV K A.aU "patterns" A.dJ
 xv:mV K A.aU "under" A.iL
 uV:mV K A.aU "counts" A.gO
 jD:bT K A.aU "sieve"
 bf:bT K A.aU "state"
 km:bT K A.aU "ahead"
 fZ:bT K A.aU "past"
 cw:bT K A.aU "taken_back"
 lam:Mt K mg A.cM A.Nd A.au
section
variable {P:Zd}{w:Ze}{K:Wz}{mg:Str->Option Wy}{base:Heap}{A:Ad}
theorem zk:aE ["text","signs"] ["text","signs"] (ag (top 14)):=by refine⟨rfl,rfl,rfl,?_,rfl,?_,?_⟩<;>decide +kernel
theorem qW (T:Tx K mg A):ay P w K mg base CX0 1 A.kh A.jF ["text","signs"] (lz K):=by
 refine T.d7.fn.ok zk (λd H Q E h=>?_) (λ_ _ _ s H d Q E _ h=>?_)
 ·obtain⟨z,y,rfl,_⟩:=h;rfl
 ·obtain⟨z,y,rfl,c,k⟩:=h;refine⟨_,ak (aD (tw (eF yW (pv 0) aW (bg _)) (p7 (eF nv (fu Yo PySem.F.slot_str_strip PySem.F.type_str_strip Em (pv 0) (aa (pv 1) af)) aW (bg _))))),?_⟩;refine⟨_,rfl,rfl,_,rfl,?_⟩;have e:=IL z y;by_cases b:z.cps.toList.isEmpty=true
  ·have a:(!decide (V.str z=V.str ""))=false:=by rw[yk,b];rfl
   rw[a,Bool.false_and]at e;rw[a,Zo TQ,e];exact k
  ·have a:(!decide (V.str z=V.str ""))=true:=by rw[yk,Uh.mpr b];rfl
   rw[a,Ve]at e;rw[a,Zn rfl];refine⟨_,rfl,rfl,_,rfl,z,y,rfl,rfl,c.sx,rfl,?_⟩;rw[e];exact k
theorem BB:aE ["thing"] ["thing"] (ag (top 15)):=by refine⟨rfl,rfl,rfl,?_,rfl,?_,?_⟩<;>decide +kernel
theorem t8 (T:Tx K mg A):ay P w K mg base CX0 2 A.mR A.mO ["thing"] (ow K):=by
 have b:ay P w K mg base CX0 1 _ _ _ _:=OF (qW T);refine T.ke.fn.ok BB (λd H Q E h=>?_) (λ_ _ _ s H d Q E a h=>?_)
 ·obtain⟨z,rfl,_⟩:=h;rfl
 ·obtain⟨z,rfl,c,k⟩:=h;refine⟨_,ak (aD (tw (aK (r:=Lx K) Aw (by rfl) T.oZ m9 (aa (pv 0) (aa (CM (v:=.ty "str") (by rfl) T.C8 Hq rfl) af))) (p7 (ar b a (by rfl) T.d7.mg T.d7.fn.kp T.d7.bd .nil aB (aa (pv 0) (aa (jK (v:=.str wN) (by rfl) (Z6 T.w5) ⟨_,rfl⟩) af)))))),?_⟩;refine⟨_,rfl,_,"str",_,true,rfl,.str z,by rfl,_,rfl,fc ?_⟩;refine⟨_,rfl,z,wN,rfl,c,?_⟩;rw[ET];exact k
theorem AO:aE ["word"] ["word"] (ag (top 16)):=by refine⟨rfl,rfl,rfl,?_,rfl,?_,?_⟩<;>decide +kernel
theorem uT (T:Tx K mg A):ay P w K mg base CX0 2 A.mz A.mL ["word"] (nH K):=by
 have f:ay P w K mg base CX0 1 _ _ _ _:=OF (qW T);refine T.jJ.fn.ok AO (λg H Q E h=>?_) (λ_ _ _ s H g Q E d h=>?_)
 ·obtain⟨z,rfl,_⟩:=h;rfl
 ·obtain⟨z,rfl,c,k⟩:=h;refine⟨_,aj (bF (eM (ar f d (by rfl) T.d7.mg T.d7.fn.kp T.d7.bd .nil aB (aa (fu Yo PySem.F.slot_str_removeprefix PySem.F.type_str_removeprefix FF (pv 0) (aa aW af)) (aa (jK (v:=.str DT) (by rfl) (Z6 T.EB) ⟨_,rfl⟩) af)))) (ak (aD aW)) aT)
   (aj (bF (eM (ar f d (by rfl) T.d7.mg T.d7.fn.kp T.d7.bd .nil aB (aa (pv 0) (aa (jK (v:=.str Ea) (by rfl) (Z6 T.rD) ⟨_,rfl⟩) af)))) (ak (aD aW)) aT)
   (ak (aD aW))),?_⟩
  refine⟨_,rfl,rfl,z,"-",rfl,rfl,c.sx,_,DT,rfl,TN (DS z) c,_,rfl,?_⟩;rw[Fz,zE];have e:dB z=if jv dig (gM z.cps.toList)=true then 0 else if jv low z.cps.toList=true then 1 else 2:=rfl;rw[e]at k;by_cases b:jv dig (gM z.cps.toList)=true
  ·rw[b,Zn rfl]at k;rw[b];exact fc k
  ·rw[Zo b]at k;rw[Uh.mpr b];refine bU ?_;refine⟨_,rfl,z,Ea,rfl,c,_,rfl,?_⟩;rw[HS];by_cases a:jv low z.cps.toList=true
   ·rw[Zn a]at k;rw[a];exact fc k
   ·rw[Zo a]at k;rw[Uh.mpr a];exact bU k
theorem zx:aE ["line"] ["line"] (ag (top 17)):=by refine⟨rfl,rfl,rfl,?_,rfl,?_,?_⟩<;>decide +kernel
theorem lU (T:Tx K mg A):ay P w K mg base CX0 1 A.iy A.ik ["line"] (iY K):=by
 refine T.words_of.fn.ok zx (λb H Q E h=>?_) (λ_ _ _ s H b Q E _ h=>?_)
 ·obtain⟨z,rfl,_⟩:=h;rfl
 ·obtain⟨z,rfl,a,k⟩:=h;refine⟨_,ak (aD (fu Yo PySem.F.slot_str_split PySem.F.type_str_split uN (pv 0) (aa aW af))),?_⟩;exact⟨_,rfl,rfl,z," ",rfl,rfl,by decide +kernel,TN (Vi a 2) (by decide),λl c=>k l c⟩
theorem A1:aE ["part"] ["part"] (ag (top 25)):=by refine⟨rfl,rfl,rfl,?_,rfl,?_,?_⟩<;>decide +kernel
theorem jE (T:Tx K mg A):ay P w K mg base CX0 1 A.gX A.gY ["part"] (g9 K):=by
 refine T.dS.fn.ok A1 (λe H Q E h=>?_) (λ_ _ _ s H e Q E _ h=>?_)
 ·obtain⟨v,c,rfl,_⟩:=h;rfl
 ·obtain⟨v,c,rfl,f,k⟩:=h;obtain⟨a,x,y,rfl,d,_,_,b⟩:=tW f;refine⟨_,ak (aD (eF nv (bc (r:=oz K) eX (pv 0) aq (λ_ _=>rfl)) aW (bg _))),?_⟩;refine⟨_,rfl,a,_,0,_,rfl,rfl,d,rfl,rfl,?_⟩;cases c with
  | word w=>
   obtain⟨rfl,_⟩:=b;rw[Zl (by decide)];exact k
  | hole m=>
   obtain⟨rfl,_⟩:=b;rw[Zk rfl];exact k
theorem vC:aE ["part","word"] ["part","word"] (ag (top 26)):=by refine⟨rfl,rfl,rfl,?_,rfl,?_,?_⟩<;>decide +kernel
theorem vm (T:Tx K mg A):ay P w K mg base CX0 3 A.jR A.ki ["part","word"] (nC K):=by
 have o:ay P w K mg base CX0 2 _ _ _ _:=OF (jE T);have t:ay P w K mg base CX0 2 _ _ _ _:=OF (t8 T);have u:ay P w K mg base CX0 2 _ _ _ _:=OF (uT T);refine T.kg.fn.ok vC (λz H Q E h=>?_) (λ_ _ _ s H z Q E c h=>?_)
 ·obtain⟨v,x,p,rfl,_⟩:=h;rfl
 ·obtain⟨v,x,p,rfl,l,b,i,k⟩:=h;obtain⟨a,_,g,q,d,_,_,j⟩:=tW l;refine⟨_,aj (bF (lu (eM (ar o c (by rfl) T.dS.mg T.dS.fn.kp T.dS.bd .nil aB (aa (pv 0) af)))) (ak (aD (eF nv (pv 1) (bc (r:=oz K) eX (pv 0) aq (λ_ _=>rfl)) (bg _)))) aT)
   (aj (bF (bi nv (bc (r:=oz K) eX (pv 0) aq (λ_ _=>rfl)) aW (bg _)) (ak (aD (ar t c (by rfl) T.ke.mg T.ke.fn.kp T.ke.bd .nil aB (aa (pv 1) af)))) aT)
   (ak (aD (eF nv (ar u c (by rfl) T.jJ.mg T.jJ.fn.kp T.jJ.bd .nil aB (aa (pv 1) af)) (bc (r:=oz K) eX (pv 0) aq (λ_ _=>rfl)) (bg _))))),?_⟩
  refine⟨_,rfl,v,p,rfl,l,_,rfl,?_⟩;subst q;cases p with
  | word y=>
   obtain⟨rfl,rfl⟩:=j;refine fc ⟨_,rfl,_,rfl,a,_,1,_,rfl,rfl,d,rfl,rfl,?_⟩;have e:decide (V.str x=V.str g)=(Pt.word g).takes x:=by
    rw[Ue];simp[Pt.takes]
   rw[e];exact k
  | hole m=>
   obtain⟨rfl,rfl⟩:=j;have n:m<3:=b;refine bU ?_;refine⟨_,rfl,a,_,1,_,rfl,rfl,d,rfl,rfl,_,rfl,?_⟩;rw[y4 n];by_cases f:m=2
   ·rw[Zk f];refine fc ?_;subst f;exact⟨_,rfl,x,rfl,i,k⟩
   ·rw[Zl f];refine bU ?_;refine⟨_,rfl,x,rfl,i,_,rfl,a,_,1,_,rfl,rfl,d,rfl,rfl,?_⟩;have e:(Pt.hole m).takes x=decide (dB x=m):=by
     have:m=0\/m=1:=by lia
     rcases this with rfl | rfl <;> rfl
    rw[Fb (k:=m) (by lia),<-e];exact k
theorem kE:aE ["parts","words","part","word"] ["parts","words"] (ag (top 27)):=by refine⟨rfl,rfl,rfl,?_,rfl,?_,?_⟩<;>decide +kernel
theorem xN (T:Tx K mg A):ay P w K mg base CX0 4 A.lj A.lO ["parts","words"] (oV K):=by
 have yx:ay P w K mg base CX0 3 _ _ _ _:=OF (vm T);refine T.mq.fn.ok kE (λvs H Q E h=>?_) (λ_ _ _ s H vs Q E hr h=>?_)
 ·obtain⟨a,b,xs,ps,d,rfl,_⟩:=h;rfl
 ·obtain⟨a,b,xs,ps,d,rfl,S,D,R,l,N,k⟩:=h;have f:xs.length=ps.length:=by rw[D.length,Tt]
  refine⟨_,aj (bF (bi yW (aK (r:=dC K) be (by rfl) T.cJ Yb (aa (pv 0) af)) (aK (r:=dC K) be (by rfl) T.cJ Yb (aa (pv 1) af)) (bg _)) (ak (aD kN)) aT)
   (aj (ji YD rfl (tE (by rfl) T.v3 (aa (pv 0) (aa (pv 1) af))) (eN rfl (aL (ax (i:=2) kE.nd rfl (Or.inl rfl)) (aL (ax (i:=3) kE.nd rfl (Or.inl rfl)) cL))) (ak (bF (lu (eM (ar yx hr (by rfl) T.kg.mg T.kg.fn.kp T.kg.bd .nil aB (aa (pv 2) (aa (pv 3) af))))) (ak (aD kN)) aT)))
   (ak (aD kN))),?_⟩
  refine⟨_,rfl,a,xs,rfl,.inl S,_,rfl,b,_,rfl,.inl l,rfl,_,rfl,?_⟩;rw[Tt];by_cases G:ps.length=d.length
  ·have e:decide (V.int (xs.length:Int)=V.int (d.length:Int))=true:=Zk (by rw[f,G]);rw[e];refine bU ?_;refine⟨_,rfl,_,rfl,a,b,rfl,⟨_,S⟩,⟨_,l⟩,?_⟩;refine CK (K:=K) (xs:=xs) (ys:=d.map V.str) (λi I o=>(∃u v,I=[some (.ref a),some (.ref b),u,v])/\ae H o/\∀(j:Nat) p x,j<i->ps[j]? = some p->d[j]? = some x->p.takes x=true) ⟨⟨_,_,rfl⟩,ae.refl _,λj p x U=>absurd U (Nat.not_lt_zero _)⟩ (λi I o q=>⟨q.2.1.seq S,q.2.1.seq l⟩) (λi x y I o t O Y q W=>?_) (λI o q=>?_)
   ·obtain⟨C,z,J⟩:=q;apply rO C;clear C;intro u v;obtain⟨p,B,c9⟩:=mP D O;obtain⟨F,n,rfl⟩:=gG Y;have L:ae o (upd o t (.tup [x,.str F])):=ae.new W;refine⟨t,_,rfl,.of ab,rfl,_,_,rfl,_,_,rfl,rfl,?_⟩;refine⟨_,rfl,_,rfl,x,F,p,rfl,c9.same (z.trans L),R p (TB B),N F (TB n),_,rfl,?_⟩;by_cases c:p.takes F = true
    ·rw[c];refine bU ⟨⟨_,_,rfl⟩,z.trans L,λj X Z U g m=>?_⟩;rcases Ur j i with q | q
     ·exact J j X Z q g m
     ·have:j=i:=by lia
      subst this;rw[B]at g;cases g;rw[n]at m;cases m;exact c
    ·rw[Uh.mpr c];refine fc ?_;have M:aV ps d=false:=by
      unfold aV;rw[F7 B n (Uh.mpr c),Bool.and_false]
     have:=k _ (z.trans L);rw[M]at this;exact this
   ·obtain⟨C,z,J⟩:=q;apply rO C;clear C;intro u v;have M:aV ps d=true:=by
     unfold aV;rw[Zk G,Ve];refine Js λi p x hi B O=>J i p x ?_ B O;rw[Tt,f];exact hi
    have:=k _ z;rw[M]at this;exact this
  ·have e:decide (V.int (xs.length:Int)=V.int (d.length:Int))=false:=Zl (λq=>G (by rw[f]at q;injection q with q;lia));rw[e];refine fc ?_;have:=k H (ae.refl _);rw[EW G]at this;exact this
theorem Jo:aE ["pattern","line"] ["pattern","line"] (ag (top 28)):=by refine⟨rfl,rfl,rfl,?_,rfl,?_,?_⟩<;>decide +kernel
theorem JU (T:Tx K mg A):ay P w K mg base CX0 5 A.AK A.BX ["pattern","line"] (CY K):=by
 have t:ay P w K mg base CX0 4 _ _ _ _:=OF (xN T);have C:ay P w K mg base CX0 4 _ _ _ _:=OF (lU T);refine T.fits.fn.ok Jo (λu H Q E h=>?_) (λ_ _ _ s H u Q E g h=>?_)
 ·obtain⟨v,z,j,rfl,_⟩:=h;rfl
 ·obtain⟨v,z,j,rfl,B,c,i,b,k⟩:=h;obtain⟨a,p,m,r,e⟩:=fg B;refine⟨_,ak (aD (ar t g (by rfl) T.mq.mg T.mq.fn.kp T.mq.bd .nil aB (aa (pv 0) (aa (ar C g (by rfl) T.words_of.mg T.words_of.fn.kp T.words_of.bd .nil aB (aa (pv 1) af)) af)))),?_⟩;subst m;have f:LOk z:=i;refine⟨_,rfl,_,rfl,z,rfl,i,λl o=>?_⟩;have d:ae H (upd H l (.lst ((Y6 z " ").map V.str))):=ae.new o;exact⟨a,l,p,j,Y6 z " ",rfl,d.seq r,e.same d,c,.of ab,λx n=>TN (Au b x n).2 f,λq y=>k q (d.trans y)⟩
theorem fj:aE ["part","kind"] ["part"] (ag (top 29)):=by refine⟨rfl,rfl,rfl,?_,rfl,?_,?_⟩<;>decide +kernel
theorem jL (T:Tx K mg A):ay P w K mg base CX0 3 A.c8 A.dc ["part"] (fw K):=by
 have o:ay P w K mg base CX0 2 _ _ _ _:=OF (jE T);have t:ay P w K mg base CX0 2 _ _ _ _:=OF (uT T);refine T.cB.fn.ok fj (λu H Q E h=>?_) (λ_ _ _ s H u Q E f h=>?_)
 ·obtain⟨v,p,rfl,_⟩:=h;rfl
 ·obtain⟨v,p,rfl,l,b,k⟩:=h;obtain⟨a,_,y1,c,g,_,_,d⟩:=tW l;refine⟨_,aj (bF (eM (ar o f (by rfl) T.dS.mg T.dS.fn.kp T.dS.bd .nil aB (aa (pv 0) af))) (ak (aD (bc (r:=oz K) eX (pv 0) aq (λ_ _=>rfl)))) aT)
   (aj (bq (i:=1) fj.nd rfl (Or.inl rfl) (ar t f (by rfl) T.jJ.mg T.jJ.fn.kp T.jJ.bd .nil aB (aa (bc (r:=oz K) eX (pv 0) aq (λ_ _=>rfl)) af)))
   (ak (aD (sI (bi (r:=rIn K false) vF (pv 1) (jK (v:=.ref A.cQ) (by rfl) T.oB rfl) (by rfl)) (pv 1) aW)))),?_⟩
  refine⟨_,rfl,v,p,rfl,l,_,rfl,?_⟩;cases p with
  | hole m=>
   obtain⟨rfl,rfl⟩:=d;subst c;exact fc ⟨_,rfl,a,_,1,_,rfl,rfl,g,rfl,k⟩
  | word y=>
   obtain⟨rfl,rfl⟩:=d;subst c;refine bU ?_;have q:TOk y1:=b;refine⟨_,rfl,a,_,1,_,rfl,rfl,g,rfl,y1,rfl,q.1,?_⟩;refine⟨_,rfl,A.cQ,_,rfl,.inr (T.oR _),rfl,rfl,_,rfl,?_⟩;have n:∀i<3,(inV (.str (qA i)) [.str "number",.str "name",.str "any"])=decide (i<2):=by decide +kernel
   rw[Zo TQ,n _ (z7 _)];dsimp only;by_cases j:dB y1<2
   ·rw[Zk j];refine fc ⟨_,rfl,?_⟩;have e:qA (dB y1)=cx (Pt.word y1).around:=by
     show qA (dB y1)=cx (dB y1);have:dB y1=0\/dB y1=1:=by lia
     rcases this with e | e <;> rw[e] <;> rfl
    rw[e];exact k
   ·rw[Zl j];refine bU ?_;have e:cx (Pt.word y1).around = "any" :=by
     show cx (dB y1) = "any";have x:=z7 y1;have:dB y1=2:=by lia
     rw[this];rfl
    rw[e]at k;exact k
theorem lm:aE ["part"] ["part"] (ag (top 46)):=by refine⟨rfl,rfl,rfl,?_,rfl,?_,?_⟩<;>decide +kernel
theorem k7 (T:Tx K mg A):ay P w K mg base CX0 2 A.d6 A.dX ["part"] (fV K):=by
 have g:ay P w K mg base CX0 1 _ _ _ _:=OF (jE T);refine T.du.fn.ok lm (λo H Q E h=>?_) (λ_ _ _ s H o Q E l h=>?_)
 ·obtain⟨v,p,rfl,_⟩:=h;rfl
 ·obtain⟨v,p,rfl,d,b,k⟩:=h;obtain⟨a,_,_,i,n,_,_,j⟩:=tW d;refine⟨_,aj (bF (lu (eM (ar g l (by rfl) T.dS.mg T.dS.fn.kp T.dS.bd .nil aB (aa (pv 0) af)))) (ak (aD aq)) aT)
   (ak (aD (sI (bi nv (bc (r:=oz K) eX (pv 0) aq (λ_ _=>rfl)) aW (bg _)) aq aq))),?_⟩
  refine⟨_,rfl,v,p,rfl,d,_,rfl,?_⟩;cases p with
  | word y=>exact fc k
  | hole m=>
   obtain⟨rfl,rfl⟩:=j;subst i;refine bU ?_;have f:m<3:=b;refine⟨_,rfl,a,_,1,_,rfl,rfl,n,rfl,rfl,_,rfl,?_⟩;rw[y4 f];by_cases c:m=2
   ·rw[Zk c];subst c;exact fc k
   ·rw[Zl c];refine bU ?_;have e:(Pt.hole m).loose=1:=by
     have:m=0\/m=1:=by lia
     rcases this with rfl | rfl <;> rfl
    rw[e]at k;exact k
theorem yF:aE ["pattern"] ["pattern"] (ag (top 47)):=by refine⟨rfl,rfl,rfl,?_,rfl,?_,?_⟩<;>decide +kernel
theorem xV (T:Tx K mg A):ay P w K mg base CX0 3 A.k5 A.kY ["pattern"] (pP K):=by
 have G:ay P w K mg base CX0 2 _ _ _ _:=OF (k7 T);refine T.pW.fn.ok yF (λL H Q E h=>?_) (λ_ _ _ s H L Q E J h=>?_)
 ·obtain⟨v,ps,rfl,_⟩:=h;rfl
 ·obtain⟨v,ps,rfl,M,f,k⟩:=h;obtain⟨a,xs,F,t,j⟩:=fg M;have C:xs.length=ps.length:=by rw[j.length,Tt]
  have B:=f.1;refine⟨_,ak (aD (ba (N':=["part"]) (n:=1) (fi:=[]) (g:=aX 0) rfl (bj (ag (top 47)) ["pattern"] (by decide +kernel)) (aY (pv 0)) (λs H z=>ax (i:=0) (nT _) rfl (Or.inl rfl) (.inr rfl)) (λs H z=>aP) (λs H z=>ar G J (by rfl) T.du.mg T.du.fn.kp T.du.bd .nil aB (aa (pv 0) af)))),?_⟩;subst F;refine⟨_,rfl,a,rfl,⟨_,t⟩,λD o=>?_⟩;refine aN (K:=K) (xs:=xs) (λi c m e=>(∃u,m=[u])/\ae H e/\c=(ps.take i).map λp=>V.int p.loose) ab ⟨⟨_,rfl⟩,ae.new o,rfl⟩ (λi c m e _ _ q=>q.2.1.seq t) (λi x c m e I b q=>?_) (λc m e b q=>?_)
  ·obtain⟨y,l,rfl⟩:=q;apply d5 y;clear y;intro u;obtain⟨p,d,r⟩:=mP j I;have N:=aI d;refine cC ⟨_,rfl,x,p,rfl,r.same l,f.2 p (TB d),?_⟩;refine⟨_,b,small (by simp only[Tt,TZ];lia),_,ab,⟨_,rfl⟩,aA o l,?_⟩;rw[cZ d]
  ·obtain⟨_,l,rfl⟩:=q;rw[TY (by lia)]at b;exact k D e o l b
theorem lY:aE ["parts","kinds"] ["parts"] (ag (top 30)):=by refine⟨rfl,rfl,rfl,?_,rfl,?_,?_⟩<;>decide +kernel
theorem ur (T:Tx K mg A):ay P w K mg base CX0 4 A.i6 A.i8 ["parts"] (lc K):=by
 have kU:ay P w K mg base CX0 3 _ _ _ _:=OF (jL T);refine T.iP.fn.ok lY (λvs H Q E h=>?_) (λ_ _ _ s H vs Q E hr h=>?_)
 ·obtain⟨a,xs,ps,rfl,_⟩:=h;rfl
 ·obtain⟨a,xs,ps,rfl,G,o,a4,f,k⟩:=h;have a3:xs.length=ps.length:=by rw[o.length,Tt]
  have a6:=f.1;obtain⟨p0,pr,rfl⟩:∃p0 pr,ps=p0::pr:=by
   cases ps with
   | nil=>exact(a4 rfl).elim
   | cons p r=>exact⟨p,r,rfl⟩
  obtain⟨v,xr,rfl⟩:∃v xr,xs=v::xr:=by
   cases xs with
   | nil=>simp at a3
   | cons x r=>exact⟨x,r,rfl⟩
  have N:Den K H v p0.dat:=by cases o with | cons h1 _=>exact h1
  have O0:p0.ok:=f.2 p0 (TH ..);refine⟨_,aj (bF (eM (aK (r:=FO K) (pE rfl) (by rfl) T.Ct xR (aa (ba (N':=["part","parts"]) (n:=1) (fi:=[0]) (g:=aX 0) rfl (bj (ag (top 30)) ["parts","kinds"] (by decide +kernel)) (aY (pv 0)) (λs H z=>ax (i:=0) (show(["part","parts"]:WF).Nodup by decide +kernel) rfl (Or.inl rfl) (.inr rfl)) (λs H z=>aP) (λs H z=>eF (r:=Gd K) (yg hr) (pv 0) (bc (r:=cO K) aS (pv 1) aq (λ_ _=>rfl)) (bg _))) af))) (ak (aD (bc (r:=cO K) aS (pv 0) aq (λ_ _=>rfl)))) aT)
   (aj (bq (i:=1) lY.nd rfl (Or.inr rfl) (ba (N':=["part"]) (n:=1) (fi:=[]) (g:=aX 0) rfl (bj (ag (top 30)) ["parts","kinds"] (by decide +kernel)) (aY (pv 0)) (λs H z=>ax (i:=0) (nT _) rfl (Or.inl rfl) (.inr rfl)) (λs H z=>aP) (λs H z=>ar kU hr (by rfl) T.cB.mg T.cB.fn.kp T.cB.bd .nil aB (aa (pv 0) af))))
   (aj (bF (eM (aK (r:=FO K) (pE rfl) (by rfl) T.Ct xR (aa (ba (N':=["kind","kinds"]) (n:=1) (fi:=[1]) (g:=aX 0) rfl (bj (ag (top 30)) ["parts","kinds"] (by decide +kernel)) (aY (pv 1)) (λs H z=>ax (i:=0) (show(["kind","kinds"]:WF).Nodup by decide +kernel) rfl (Or.inl rfl) (.inr rfl)) (λs H z=>aP) (λs H z=>eF nv (pv 0) (bc (r:=cO K) aS (pv 1) aq (λ_ _=>rfl)) (bg _))) af))) (ak (aD (dG (aa aW (aa (bc (r:=cO K) aS (pv 1) aq (λ_ _=>rfl)) af))))) aT)
   (ak (aD (dG (aa aW (aa aW af))))))),?_⟩
  refine⟨_,rfl,a,rfl,⟨_,G⟩,λD hD=>?_⟩;refine aN (K:=K) (xs:=v::xr) (λi b d F=>(∃u,d=[u,some (.ref a)])/\ae H F/\b=(((p0::pr).take i).map λp=>decide (p=p0)).map V.bl) ab ⟨⟨_,rfl⟩,ae.new hD,rfl⟩ (λi b d F _ _ q=>q.2.1.seq G) (λi x b d F m l q=>?_) (λb d F l q=>?_)
  ·obtain⟨y,e,rfl⟩:=q;apply d5 y;clear y;intro u;obtain⟨p,c,B⟩:=mP o m;have hi:=aI c;refine cC ⟨_,rfl,_,rfl,a,_,0,v,rfl,rfl,e.seq G,cy (j:=0) rfl,_,_,B.same e,N.same e,TN (CP _) (by decide),?_⟩;rw[Mo (f.2 p (TB c)) O0];refine⟨_,l,small (by simp only[Tt,TZ];lia),_,ab,⟨_,rfl⟩,aA hD e,?_⟩;rw[cZ c,TK];rfl
  ·obtain⟨_,e,rfl⟩:=q;rw[TY (by lia)]at l;refine⟨D,_,rfl,.of l,_,rfl,?_⟩;have e1:(((p0::pr).map λp=>decide (p=p0)).all id)=pr.all λq=>decide (q=p0):=by
    rw[List.all_map,Vt];simp
   rw[e1];have ej:iJ (p0::pr)=if pr.all (λq=>decide (q=p0))=true then p0 else if pr.all (λq=>decide (q.around=p0.around))=true then .hole p0.around else .hole 2:=rfl;by_cases R:pr.all (λq=>decide (q=p0))=true
   ·rw[R];refine fc ⟨_,rfl,a,_,0,v,rfl,rfl,e.seq G,cy (j:=0) rfl,k v F e ?_⟩;rw[ej,Zn R];exact N.same e
   ·rw[Uh.mpr R];refine bU ?_;refine⟨_,rfl,a,rfl,⟨_,e.seq G⟩,λY I=>?_⟩;refine aN (K:=K) (xs:=v::xr) (λi b d J=>(∃u,d=[u])/\ae F J/\b=((p0::pr).take i).map λp=>V.str (cx p.around)) ab ⟨⟨_,rfl⟩,ae.new I,rfl⟩ (λi b d J _ _ q=>(e.trans q.2.1).seq G) (λi x b d J m C q=>?_) (λb d J C q=>?_)
    ·obtain⟨y,S,rfl⟩:=q;apply d5 y;clear y;intro u;obtain⟨p,c,B⟩:=mP o m;have hi:=aI c;refine cC ⟨_,rfl,x,p,rfl,B.same (e.trans S),f.2 p (TB c),?_⟩;refine⟨_,C,small (by simp only[Tt,TZ];lia),_,ab,⟨_,rfl⟩,aA I S,?_⟩;rw[cZ c]
    ·obtain⟨_,S,rfl⟩:=q;rw[TY (by lia)]at C;have a5:=e.trans S;refine⟨_,rfl,Y,rfl,⟨_,.of C⟩,λD4 L=>?_⟩;refine aN (K:=K) (xs:=(p0::pr).map λp=>V.str (cx p.around)) (λi b d U=>(∃u,d=[u,some (.ref Y)])/\ae J U/\b=(((p0::pr).take i).map λp=>decide (p.around=p0.around)).map V.bl) ab ⟨⟨_,rfl⟩,ae.new L,rfl⟩ (λi b d U _ _ q=>.of (q.2.1 _ _ C)) (λi x b d U m W q=>?_) (λb d U W q=>?_)
     ·obtain⟨y,O,rfl⟩:=q;apply d5 y;clear y;intro u;rw[TF]at m;cases c:(p0::pr)[i]? with
      | none=>rw[c]at m;cases m
      | some p=>
       rw[c]at m;cases m;have hi:=aI c;refine cC ⟨_,rfl,_,rfl,Y,_,0,V.str (cx p0.around),rfl,rfl,.of (O _ _ C),cy (j:=0) rfl,rfl,?_⟩;have e2:decide (V.str (cx p.around)=V.str (cx p0.around))=decide (p.around=p0.around):=by
        rw[Ue,decide_eq_true_eq,decide_eq_true_eq];exact⟨λh=>vM (p6 (f.2 p (TB c))) (p6 O0) (by injection h),λh=>by rw[h]⟩
       rw[e2];refine⟨_,W,small (by simp only[Tt,TZ];lia),_,ab,⟨_,rfl⟩,aA L O,?_⟩;rw[cZ c,TK];rfl
     ·obtain⟨_,O,rfl⟩:=q;have a0:((p0::pr).map λp=>V.str (cx p.around)).length=(p0::pr).length:=by rw[Tt]
      rw[a0,TY (Tw _)]at W;refine⟨D4,_,rfl,.of W,_,rfl,?_⟩;have e3:(((p0::pr).map λp=>decide (p.around=p0.around)).all id)=pr.all λq=>decide (q.around=p0.around):=by
       rw[List.all_map,Vt];simp
      rw[e3];have M:=a5.trans O;by_cases X:pr.all (λq=>decide (q.around=p0.around))=true
      ·rw[X];refine fc ⟨_,rfl,Y,_,0,V.str (cx p0.around),rfl,rfl,.of (O _ _ C),cy (j:=0) rfl,(by show 2<=Zg;decide),λt Z=>?_⟩;refine k _ _ (M.trans (ae.new Z)) ?_;rw[ej,Zo R,Zn X];exact .tup (.of ab) (.cons (.str (by decide +kernel)) (.cons (.str yZ) .nil))
      ·rw[Uh.mpr X];refine bU ⟨(by show 2<=Zg;decide),λt Z=>?_⟩;refine k _ _ (M.trans (ae.new Z)) ?_;rw[ej,Zo R,Zo X];exact .tup (.of ab) (.cons (.str (by decide +kernel)) (.cons (.str (by decide +kernel)) .nil))
theorem vL:aE ["patterns","width"] ["patterns"] (ag (top 31)):=by refine⟨rfl,rfl,rfl,?_,rfl,?_,?_⟩<;>decide +kernel
theorem EO (T:Tx K mg A):ay P w K mg base CX0 5 A.su A.uw ["patterns"] (vK K):=by
 have uZ:ay P w K mg base CX0 4 _ _ _ _:=OF (ur T);refine T.joined.fn.ok vL (λvs H Q E h=>?_) (λ_ _ _ s H vs Q E hr h=>?_)
 ·obtain⟨a,xs,pss,n,rfl,_⟩:=h;rfl
 ·obtain⟨a,xs,pss,n,rfl,X,B,Z,az,l,k⟩:=h;have b3:xs.length=pss.length:=by rw[B.length,Tt]
  have SR:0<pss.length:=Vs.mpr Z;obtain⟨x0,a6⟩:∃x0,xs[0]? = some x0:=⟨_,Tu (by lia)⟩;obtain⟨N,Lo,a9⟩:=gq B a6;obtain⟨a0,a5,rfl,ah,QW⟩:=fg a9;have ao:a5.length=n:=by rw[QW.length,Tt];exact(l N (TB Lo)).2
  have b2:n<=10000:=by rw[<-(l N (TB Lo)).2];exact(l N (TB Lo)).1.1
  refine⟨_,aj (bF (bi nv (aK (r:=dC K) be (by rfl) T.cJ Yb (aa (pv 0) af)) aq (bg _)) (ak gf) aT)
   (aj (bq (i:=1) vL.nd rfl (Or.inr rfl) (aK (r:=dC K) be (by rfl) T.cJ Yb (aa (bc (r:=cO K) aS (pv 0) aq (λ_ _=>rfl)) af)))
   (aj (bF (eM (aK (r:=O9 K) (Ig rfl) (by rfl) T.NC MZ (aa (ba (N':=["pattern","width"]) (n:=1) (fi:=[1]) (g:=aX 0) rfl (bj (ag (top 31)) ["patterns","width"] (by decide +kernel)) (aY (pv 0)) (λs H C=>ax (i:=0) (show(["pattern","width"]:WF).Nodup by decide +kernel) rfl (Or.inl rfl) (.inr rfl)) (λs H C=>aP) (λs H C=>eF yW (aK (r:=dC K) be (by rfl) T.cJ Yb (aa (pv 0) af)) (pv 1) (bg _))) af))) (ak gf) aT)
   (ak (aD (ba (N':=["at","patterns"]) (n:=1) (fi:=[0]) (g:=aX 0) rfl (bj (ag (top 31)) ["patterns","width"] (by decide +kernel)) (dW (by rfl) T.gP (aa (pv 1) af)) (λs H C=>ax (i:=0) (show(["at","patterns"]:WF).Nodup by decide +kernel) rfl (Or.inr rfl) (.inl rfl)) (λs H C=>aP) (λs H C=>ar uZ hr (by rfl) T.iP.mg T.iP.fn.kp T.iP.bd .nil aB (aa (ba (wi:=Fp K (Kk 1)) (N':=["pattern","at"]) (n:=1) (fi:=[0]) (g:=aX 0) rfl (Dx (ag (top 31)) (by decide +kernel)) (aY (pv 1)) (λs H C=>ax (i:=0) (show(["pattern","at"]:WF).Nodup by decide +kernel) rfl (Or.inl rfl) (.inr rfl)) (λs H C=>aP) (λs H C=>bc (r:=cO K) aS (pv 0) (pv 1) (λ_ _=>rfl))) af))))))),?_⟩
  refine⟨_,rfl,a,xs,rfl,.inl X,rfl,_,rfl,?_⟩;have e0:decide (V.int (xs.length:Int)=V.int 0)=false:=Zl (λq=>by injection q with q;lia);rw[e0];refine bU ?_;refine⟨_,rfl,a,xs,0,_,rfl,rfl,X,cy (j:=0) a6,a0,a5,rfl,.inl ah,?_⟩;rw[ao];refine⟨_,rfl,a,rfl,⟨_,X⟩,λD hD=>?_⟩;refine aN (K:=K) (xs:=xs) (λi c f F=>(∃u,f=[u,some (.int n)])/\ae H F/\c=((pss.take i).map λ_=>false).map V.bl) ab ⟨⟨_,rfl⟩,ae.new hD,rfl⟩ (λi c f F _ _ q=>q.2.1.seq X) (λi x c f F hx R q=>?_) (λc f F R q=>?_)
  ·obtain⟨G,S,rfl⟩:=q;apply d5 G;clear G;intro u;obtain⟨ps,e,L⟩:=gq B hx;obtain⟨ai,yi,rfl,J,M⟩:=fg L;have hi:=aI e;have b1:yi.length=n:=by rw[M.length,Tt];exact(l ps (TB e)).2
   refine cC ⟨_,rfl,ai,yi,rfl,.inl (S.seq J),_,rfl,rfl,?_⟩;rw[b1,Zk rfl];refine⟨_,R,small (by simp only[Tt,TZ];lia),_,ab,⟨_,rfl⟩,aA hD S,?_⟩;rw[cZ e,TK];rfl
  ·obtain⟨_,S,rfl⟩:=q;refine⟨D,_,rfl,.of R,_,rfl,?_⟩;have e1:(((pss.take xs.length).map λ_=>false).any id)=false:=by
    rw[Uh];intro q;obtain⟨b,hb,av⟩:=UC.mp q;obtain⟨_,_,rfl⟩:=Tv.mp hb;cases av
   rw[e1];refine bU ?_;refine⟨_,rfl,n,rfl,by lia,by lia,λD3 U=>?_⟩;have a7:ae F (upd F D3 (.lst [])):=ae.new U;refine fL (λi c f W=>(∃u,f=[u,some (.ref a)])/\ae F W/\aC K (lim (upd F D3 (.lst [])) W) c ((bB pss i).map Pt.dat)) ab ⟨⟨_,rfl⟩,a7,.nil⟩ (λi c f W hi O q=>?_) (λc f W O q=>?_)
   ·obtain⟨G,s4,dn⟩:=q;apply d5 G;clear G;intro u;have b5:i<n:=by simpa using hi
    have b4:c.length=i:=by rw[dn.length,Tt];simp[bB]
    have t:=S.trans s4;refine cC ?_;refine⟨_,rfl,a,rfl,⟨_,t.seq X⟩,λD5 a8=>?_⟩;refine aN (K:=K) (xs:=xs) (λm I f H5=>(∃u,f=[u,some (.int (0+(i:Int)))])/\ae W H5/\aC K H I (((pss.take m).map λps=>ps.getD i (.hole 2)).map Pt.dat)) ab ⟨⟨_,rfl⟩,ae.new a8,.nil⟩ (λm I f H5 _ _ q=>(t.trans q.2.1).seq X) (λm x I f H5 hx Mz q=>?_) (λI f H5 Mz q=>?_)
    ·obtain⟨G,Y,o⟩:=q;apply d5 G;clear G;intro u;obtain⟨ps,e,L⟩:=gq B hx;obtain⟨ai,yi,rfl,J,M⟩:=fg L;have hm:=aI e;have a3:=(l ps (TB e)).2;have ap:ps[i]? = some (ps.getD i (.hole 2)):=by
      rw[Tu (by lia)];simp[Yx,Tu (show i<ps.length by lia)]
     obtain⟨y,hy,au⟩:=M.getD (i:=i) (d:=(ps.getD i (.hole 2)).dat) (by rw[TF,ap];rfl);have Rp:I.length=m:=by rw[o.length,Tt,Tt,TZ];lia
     refine cC ⟨_,rfl,_,rfl,ai,yi,_,y,rfl,rfl,(t.trans Y).seq J,?_,I,Mz,small (by lia),_,ab,⟨_,rfl⟩,aA a8 Y,?_⟩
     ·rw[VZ];exact cy hy
     ·rw[cZ e,TK];exact o.append (.cons au .nil)
    ·obtain⟨_,Y,o⟩:=q;rw[TY (by lia)]at o;have b0:=t.trans Y;refine⟨D5,I,pss.map (λps=>ps.getD i (.hole 2)),rfl,.of Mz,o.same b0,by intro z;exact Z (UD.mp z),⟨by rw[Tt];exact az,λp hp=>?_⟩,λr H6 s6 dr=>?_⟩
     ·obtain⟨ps,aw,rfl⟩:=Tv.mp hp;have a3:=l ps aw;have as:i<ps.length:=by lia
      have:ps.getD i (.hole 2)∈ps:=by simp[Yx,Tu as]
      exact a3.1.2 _ this
     ·have v:=Y.trans s6;have a4:H6 D3=some (.lst c):=v _ _ O;refine⟨c,a4,small (by lia),_,ab,⟨_,rfl⟩,aA U (s4.trans v),?_⟩;rw[mI (ys:=[]) ab,xk,TK];exact(dn.same (bQ v)).append (.cons (JZ (B9 (s4.trans v) a4) (ae.refl _) dr) .nil)
   ·obtain⟨_,s4,dn⟩:=q;refine k D3 c W (S.free U) (S.trans s4) O ?_;have e3:(n:Int).toNat=n:=Us n;rw[e3]at dn;exact dn.same (cW (S.trans a7).ll)
theorem yU:aE ["word"] ["word"] (ag (top 19)):=by refine⟨rfl,rfl,rfl,?_,rfl,?_,?_⟩<;>decide +kernel
theorem zv (T:Tx K mg A):ay P w K mg base CX0 1 A.nX A.oq ["word"] (qM K):=by
 refine T.oC.fn.ok yU (λc H Q E h=>?_) (λ_ _ _ s H c Q E _ h=>?_)
 ·obtain⟨x,rfl,_⟩:=h;rfl
 ·obtain⟨x,rfl,a,k⟩:=h;refine⟨_,ak (aD (dG (aa (aK pN (by rfl) T.cJ Yb (aa (pv 0) af)) (aa (pv 0) af)))),?_⟩;exact⟨_,rfl,x,rfl,a.sx,_,rfl,(by show 2<=Zg;decide),λp b=>k p b⟩
theorem lE:aE ["part","length","text"] ["part"] (ag (top 32)):=by refine⟨rfl,rfl,rfl,?_,rfl,?_,?_⟩<;>decide +kernel
theorem qU (T:Tx K mg A):ay P w K mg base CX0 2 A.jC A.j3 ["part"] (k9 K):=by
 have t:ay P w K mg base CX0 1 _ _ _ _:=OF (jE T);have u:ay P w K mg base CX0 1 _ _ _ _:=OF (zv T);refine T.iq.fn.ok lE (λB H Q E h=>?_) (λ_ _ _ s H B Q E n h=>?_)
 ·obtain⟨v,f,rfl,_⟩:=h;rfl
 ·obtain⟨v,f,rfl,q,c,k⟩:=h;obtain⟨a,x,y,j,o,_,_,l⟩:=tW q;refine⟨_,aj (bF (eM (ar t n (by rfl) T.dS.mg T.dS.fn.kp T.dS.bd .nil aB (aa (pv 0) af))) (ak (aD (dG (aa aq (aa (fu (r:=Gq K) PySem.F.plainAttrs_tuple PySem.F.slot_tuple_index PySem.F.type_tuple_index HN (jK (v:=.ref A.cQ) (by rfl) T.oB rfl) (aa (bc (r:=oz K) eX (pv 0) aq (λ_ _=>rfl)) af)) (aa aW af)))))) aT)
   (aj (lM (ar u n (by rfl) T.oC.mg T.oC.fn.kp T.oC.bd .nil aB (aa (bc (r:=oz K) eX (pv 0) aq (λ_ _=>rfl)) af)) (eN rfl (aL (ax (i:=1) lE.nd rfl (Or.inl rfl)) (aL (ax (i:=2) lE.nd rfl (Or.inl rfl)) cL))))
   (ak (aD (dG (aa aq (aa (pv 1) (aa (pv 2) af))))))),?_⟩
  refine⟨_,rfl,v,f,rfl,q,_,rfl,?_⟩;cases f with
  | hole m=>
   obtain⟨rfl,rfl⟩:=l;refine fc ?_;subst j;have e:m<3:=c;refine⟨.inr (.inl ⟨rfl,T.yB⟩),_,rfl,a,_,1,_,rfl,rfl,o,rfl,A.cQ,_,_,m,rfl,rfl,T.oR _,rfl,J7,e,M7 e,Oe e,(by show 3<=Zg;decide),λp d=>?_⟩;exact k _ _ (ae.new d) (.tup (.of ((cf d).trans ab)) (.cons (.int 1) (.cons (.int _) (.cons (.str (by decide +kernel)) .nil))))
  | word z=>
   obtain⟨rfl,rfl⟩:=l;refine bU ?_;subst j;have g:TOk y:=c;refine⟨_,rfl,a,_,1,_,rfl,rfl,o,rfl,y,rfl,g.1,λp d=>?_⟩;refine⟨p,_,rfl,.of ab,rfl,_,_,rfl,_,_,rfl,rfl,?_⟩;refine⟨_,rfl,_,rfl,(by show 3<=Zg;decide),λ_ b=>?_⟩;exact k _ _ ((ae.new d).trans (ae.new b)) (.tup (.of ((cf ((ae.new d).free b)).trans ab)) (.cons (.int 0) (.cons (.int _) (.cons (.str g.2) .nil))))
theorem lL:aE ["pattern"] ["pattern"] (ag (top 33)):=by refine⟨rfl,rfl,rfl,?_,rfl,?_,?_⟩<;>decide +kernel
theorem tH (T:Tx K mg A):ay P w K mg base CX0 3 A.eh A.eA ["pattern"] (lT K):=by
 have G:ay P w K mg base CX0 2 _ _ _ _:=OF (qU T);refine T.bW.fn.ok lL (λS H Q E h=>?_) (λ_ _ _ s H S Q E O h=>?_)
 ·obtain⟨v,ps,rfl,_⟩:=h;rfl
 ·obtain⟨v,ps,rfl,U,j,k⟩:=h;obtain⟨a,xs,L,y,l⟩:=fg U;refine⟨_,ak (aD (dG (aa (aK (r:=dC K) be (by rfl) T.cJ Yb (aa (pv 0) af)) (aa (ba (N':=["part"]) (n:=1) (fi:=[]) (g:=aX 0) rfl (bj (ag (top 33)) ["pattern"] (by decide +kernel)) (aY (pv 0)) (λs H C=>ax (i:=0) (nT _) rfl (Or.inl rfl) (.inr rfl)) (λs H C=>aP) (λs H C=>ar G O (by rfl) T.iq.mg T.iq.fn.kp T.iq.bd .nil aB (aa (pv 0) af))) af)))),?_⟩;subst L;have f:xs.length=ps.length:=by rw[l.length,Tt]
  have I:=j.1;refine⟨_,rfl,a,xs,rfl,.inl y,?_⟩;refine⟨_,rfl,a,rfl,⟨_,y⟩,λD o=>?_⟩;refine aN (K:=K) (xs:=xs) (λi b q d=>(∃u,q=[u])/\ae H d/\aC K (lim (upd H D (.lst [])) d) b ((ps.take i).map Pt.key)) ab ⟨⟨_,rfl⟩,ae.new o,.nil⟩ (λi b q d _ _ p=>p.2.1.seq y) (λi x b q d M c p=>?_) (λb q d c p=>?_)
  ·obtain⟨⟨u,rfl⟩,p⟩:=p;obtain⟨F,e,R⟩:=mP l M;have V:i<ps.length:=aI e;have N:b.length=i:=by rw[p.2.length,Tt,TZ];lia
   refine cC ⟨_,rfl,x,F,rfl,R.same p.1,j.2 F (TB e),λr _ B dr=>⟨b,B _ _ c,small (by lia),_,ab,⟨_,rfl⟩,aA o (p.1.trans B),?_⟩⟩;rw[mI (ys:=[]) ab,cZ e];exact(p.2.same (bQ B)).append (.cons (dr.same (cW (B9 p.1 c))) .nil)
  ·obtain⟨_,p⟩:=p;refine⟨(by show 2<=Zg;decide),λt m=>?_⟩;have J:ae H (upd d t (.tup [.int xs.length,.ref D])):=p.1.trans (ae.new m);rw[TY (by lia)]at p;refine k _ _ J ?_;have e:fF ps = .tuple [.int xs.length,.list (ps.map Pt.key)]:=by rw[f];rfl
   rw[e];have z:(upd d t (.tup [.int xs.length,.ref D])) D=some (.lst b):=by rw[ao (aw c m)];exact c
   refine .tup (.of ((cf (p.1.free m)).trans ab)) (.cons (.int _) (.cons (.lst (.of ((cf o).trans z)) ?_) .nil));exact(p.2.same (bQ (ae.new m))).same (cW (ae.new o).ll)
theorem BM:aE ["patterns"] ["patterns"] (ag (top 34)):=by refine⟨rfl,rfl,rfl,?_,rfl,?_,?_⟩<;>decide +kernel
theorem uK (T:Tx K mg A):ay P w K mg base CX0 6 A.mr A.mF ["patterns"] (nK K):=by
 have uF:ay P w K mg base CX0 3 _ _ _ _:=OF (tH T);refine T.ordered.fn.ok BM (λvs H Q E h=>?_) (λ_ _ _ s H vs Q E hr h=>?_)
 ·obtain⟨a,xs,pss,rfl,_⟩:=h;rfl
 ·obtain⟨a,xs,pss,rfl,hq,L,F,V,k⟩:=h;refine⟨_,ak (aD (ba (N':=["pattern"]) (n:=1) (fi:=[]) (g:=aX 0) rfl (bj (ag (top 34)) ["patterns"] (by decide +kernel)) (aY (Fl (a:=.int) (r:=oW) .int uF hr T.bW.bd (by rfl) T.js (by rfl) T.bW.mg (aa (pv 0) af))) (λs H fp=>ax (i:=0) (nT _) rfl (Or.inl rfl) (.inr rfl)) (λs H fp=>aP) (λs H fp=>cH (r:=j8 K) fG (by rfl) T.li i0 (aa (pv 0) af)))),?_⟩;have R:xs.length=pss.length:=by rw[F.length,Tt]
  refine⟨_,rfl,_,rfl,a,xs,rfl,hq,L,?_⟩;refine p9 (K:=K) (H0:=H) xs (pss.map fF) [] [] H (by rw[Tt];exact R) (ae.refl H) .nil (λi x d f _ c I y kk=>?_) (λks H1 s1 d1=>?_)
  ·obtain⟨v,e,c9⟩:=gq F c;rw[TF,e]at I;cases I;exact⟨x,v,rfl,c9.same y,V v (TB e),λr H' sr dr=>kk r H' sr (dr.same cE)⟩
  ·have a5:aC K H1 ks (pss.map fF):=by simpa using d1
   refine⟨pss.map fF,a5,λd I=>?_,λd I=>?_,λX p a4 hp ho=>?_⟩
   ·obtain⟨v,_,rfl⟩:=Tv.mp I;exact oh v
   ·obtain⟨v,_,rfl⟩:=Tv.mp I;exact HZ v
   ·refine⟨X,rfl,⟨_,.of ab⟩,λD hD=>?_⟩;have U:p.length=xs.length:=by rw[hp.length_eq,UX]
    have B:p.Perm (Y7 pss.length):=by rw[<-R];exact hp
    have a6:(sel pss p).length=xs.length:=by unfold sel;rw[Tt,U]
    have z:ae H (upd H1 X (.lst (picked xs p))):=s1.trans (ae.new a4);generalize hHb:upd H1 X (HO.lst (picked xs p))=Hb at z hD;have Jq:Hb X=some (.lst (picked xs p)):=by rw[<-hHb];exact ab
    have j:ae Hb (upd Hb D (.lst [])):=ae.new hD;refine aN (K:=K) (xs:=picked xs p) (λi b W f=>(∃u,W=[u])/\ae Hb f/\F4 (upd Hb D (.lst [])) f b/\aC K (lim (upd Hb D (.lst [])) f) b (((sel pss p).take i).map aJ)) ab ⟨⟨_,rfl⟩,j,(λx c=>by cases c),.nil⟩ (λi b W f _ _ q=>.of (q.2.1 _ _ Jq)) (λi x b W f c m q=>?_) (λb W f m q=>?_)
    ·obtain⟨q0,y,Z,O⟩:=q;apply d5 q0;clear q0;intro u;obtain⟨v,G,RQ,c9⟩:=Jf F B c;obtain⟨a',C,rfl,a0,M⟩:=fg c9;have a8:b.length=i:=by rw[O.length,Tt,TZ];have:=aI G;lia
     have a9:i<xs.length:=by rw[<-a6];exact aI G
     refine cC ⟨_,rfl,a',C,rfl,.inl ((z.trans y).seq a0),λl hl=>?_⟩;have J:l≠D:=(aw m hl).symm;have S:(upd Hb D (.lst [])) l=none:=by rw[ao J];exact y.free hl
     have N:ae f (upd f l (.lst C)):=ae.new hl;refine⟨b,N _ _ m,small (by lia),_,ab,⟨_,rfl⟩,aA hD (y.trans N),?_,?_⟩
     ·intro x c;rcases TV.mp c with c | c
      ·obtain⟨t,ys,rfl,o,h2,Y⟩:=Z x c;have a3:t≠D:=λe=>by subst e;rw[ab]at o;cases o
       exact⟨t,ys,rfl,o,by rw[ao a3];exact N _ _ h2,Y⟩
      ·simp only[Tz]at c;subst c;exact⟨l,C,rfl,S,by rw[ao J];exact ab,by rw[M.length,Tt];exact(V v RQ).1⟩
     ·rw[mI (ys:=[]) ab,cZ G];exact(O.same (bQ N)).append (.cons (.lst (.of ((cf S).trans ab)) (j6 (z.trans j) ((z.trans y).trans N) M)) .nil)
    ·obtain⟨_,y,Z,O⟩:=q;have a7:(picked xs p).length=xs.length:=by rw[nE,U]
     rw[TY (by lia)]at O;refine k D b f (sel pss p) (z.free hD) (z.trans y) m (Hy B) (Bq B ho) (λx c=>?_) (λx c=>?_) (O.same (cW (z.trans j).ll))
     ·obtain⟨t,ys,rfl,o,h2,Y⟩:=Z x c;exact⟨t,ys,rfl,(z.trans j).free o,h2,Y⟩
     ·obtain⟨t,ys,rfl,o,h2,Y⟩:=Z x c;intro e;cases e;rw[ab]at o;cases o
theorem LM {k:Nat}{A:Zc} (r:bG k A):A.units+10<cLine:=by have:=r.un;lia
section
variable {g:TG}{tt:TT}{te:TE}{D:Za}{Q:VK}{σ:St}{H:Hp}
theorem Ic {a:Za}{xs:WD} (c:Nat->WD->St->Hp->Prop) (j:H D=some (.lst [])) (l:c 0 [] σ H) (h:∀i acc σ H,i<=xs.length->H D=some (.lst acc)->c i acc σ H->SqT K H a xs)
  (m:∀i x acc σ H,xs[i]? = some x->H D=some (.lst acc)->c i acc σ H->g x σ H λσ2 H2=>tt σ2 H2 λb H3=>if b=true then te σ2 H3 λv H4=>∃ys,H4 D=some (.lst ys)/\ys.length<Zg/\CN D (c (i+1)) σ2 (upd H4 D (.lst (ys++[v])))else CN D (c (i+1)) σ2 H3)
  (k:∀acc σ H,H D=some (.lst acc)->c xs.length acc σ H->Q (.ref D) H):sP g tt te (Itt K a) D Q σ H:=by
 refine pF xs.length c j l (λi acc σ H f d p=>⟨xs,xs[i],h i acc σ H (UH f) d p,by simp[f]⟩) (λacc σ H d p=>⟨xs,h _ acc σ H (Tw _) d p,Tw _⟩) (λi acc σ H x _ f d p y=>?_) k;obtain⟨e,y⟩:=y;subst e;exact m i x acc σ _ (y xs (h i acc σ _ (UH f) d p)) d p
end
theorem uM {H:Hp}{v:V}{ps:WC} (h:Den K H v (tupP ps)):∃a xs,v = .ref a/\SqT K H a xs/\aC K H xs (ps.map Pt.dat):=by
 unfold tupP at h;cases h with
 | tup hq hd=>exact⟨_,_,rfl,hq,hd⟩
theorem yq {H:Hp}{v:V}{k:Kq} (h:Den K H v (prD k)):∃a x y,v = .ref a/\SqT K H a [x,y]/\Den K H x (tupP k.1)/\Den K H y (tupP k.2):=by
 unfold prD at h;cases h with
 | tup b c=>
  cases c with
  | cons e t=>
   cases t with
   | cons d t=>
    cases t;exact⟨_,_,_,rfl,b,e,d⟩
def kL (K:Wz):Sp:=λvs H Q _=>∃v ps,vs=[v]/\Den K H v (tupP ps)/\POk ps/\∀r H',ae H H'->Den K (lim H H') r (fF ps)->Q r H'
theorem rM (T:Tx K mg A):ay P w K mg base CX0 3 A.eh A.eA ["pattern"] (kL K):=by
 have G:ay P w K mg base CX0 2 _ _ _ _:=OF (qU T);refine T.bW.fn.ok lL (λS H Q E h=>?_) (λ_ _ _ s H S Q E O h=>?_)
 ·obtain⟨v,ps,rfl,_⟩:=h;rfl
 ·obtain⟨v,ps,rfl,U,j,k⟩:=h;obtain⟨a,xs,L,y,l⟩:=uM U;refine⟨_,ak (aD (dG (aa (aK (r:=dC K) be (by rfl) T.cJ Yb (aa (pv 0) af)) (aa (ba (N':=["part"]) (n:=1) (fi:=[]) (g:=aX 0) rfl (bj (ag (top 33)) ["pattern"] (by decide +kernel)) (LQ (pv 0)) (λs H C=>ax (i:=0) (nT _) rfl (Or.inl rfl) (.inr rfl)) (λs H C=>aP) (λs H C=>ar G O (by rfl) T.iq.mg T.iq.fn.kp T.iq.bd .nil aB (aa (pv 0) af))) af)))),?_⟩;subst L;have f:xs.length=ps.length:=by rw[l.length,Tt]
  have I:=j.1;refine⟨_,rfl,a,xs,rfl,.inr y,?_⟩;refine⟨_,rfl,a,rfl,⟨_,y⟩,λD o=>?_⟩;refine Ic (K:=K) (xs:=xs) (λi b q d=>(∃u,q=[u])/\ae H d/\aC K (lim (upd H D (.lst [])) d) b ((ps.take i).map Pt.key)) ab ⟨⟨_,rfl⟩,ae.new o,.nil⟩ (λi b q d _ _ p=>p.2.1.cU y) (λi x b q d M c p=>?_) (λb q d c p=>?_)
  ·obtain⟨⟨u,rfl⟩,p⟩:=p;obtain⟨F,e,R⟩:=mP l M;have V:i<ps.length:=aI e;have N:b.length=i:=by rw[p.2.length,Tt,TZ];lia
   refine cC ⟨_,rfl,x,F,rfl,R.same p.1,j.2 F (TB e),λr _ B dr=>⟨b,B _ _ c,small (by lia),_,ab,⟨_,rfl⟩,aA o (p.1.trans B),?_⟩⟩;rw[mI (ys:=[]) ab,cZ e];exact(p.2.same (bQ B)).append (.cons (dr.same (cW (B9 p.1 c))) .nil)
  ·obtain⟨_,p⟩:=p;refine⟨(by show 2<=Zg;decide),λt m=>?_⟩;have J:ae H (upd d t (.tup [.int xs.length,.ref D])):=p.1.trans (ae.new m);rw[TY (by lia)]at p;refine k _ _ J ?_;have e:fF ps = .tuple [.int xs.length,.list (ps.map Pt.key)]:=by rw[f];rfl
   rw[e];have z:(upd d t (.tup [.int xs.length,.ref D])) D=some (.lst b):=by rw[ao (aw c m)];exact c
   refine .tup (.of ((cf (p.1.free m)).trans ab)) (.cons (.int _) (.cons (.lst (.of ((cf o).trans z)) ?_) .nil));exact(p.2.same (bQ (ae.new m))).same (cW (ae.new o).ll)
def rB (K:Wz):Sp:=λvs H Q _=>∃(v:V) (k:Kq),vs=[v]/\Den K H v (prD k)/\POk k.1/\POk k.2/\∀r H',ae H H'->Den K H' r (pkD k)->Q r H'
theorem lV:aE ["pair","old","new"] ["pair"] (ag (top 54)):=by refine⟨rfl,rfl,rfl,?_,rfl,?_,?_⟩<;>decide +kernel
theorem zL (T:Tx K mg A):ay P w K mg base CX0 4 A.nG A.nR ["pair"] (rB K):=by
 have l:ay P w K mg base CX0 3 _ _ _ _:=OF (rM T);refine T.uq.fn.ok lV (λu H Q E h=>?_) (λ_ _ _ s H u Q E j h=>?_)
 ·obtain⟨v,k,rfl,_⟩:=h;rfl
 ·obtain⟨v,g,rfl,z,b,d,k⟩:=h;obtain⟨a,x,y,o,r,C,B⟩:=yq z;refine⟨_,aj (lM (pv 0) (eN rfl (aL (ax (i:=1) lV.nd rfl (Or.inl rfl)) (aL (ax (i:=2) lV.nd rfl (Or.inl rfl)) cL))))
   (ak (aD (dG (aa (ar l j (by rfl) T.bW.mg T.bW.fn.kp T.bW.bd .nil aB (aa (pv 1) af)) (aa (ar l j (by rfl) T.bW.mg T.bW.fn.kp T.bW.bd .nil aB (aa (pv 2) af)) af))))),?_⟩
  subst o;refine⟨_,rfl,a,_,rfl,r,rfl,_,_,rfl,_,_,rfl,rfl,?_⟩;refine⟨_,rfl,x,g.1,rfl,C,b,λq _ m d1=>?_⟩;refine⟨_,rfl,y,g.2,rfl,B.same m,d,λp e f d2=>⟨(by show 2<=Zg;decide),λt n=>?_⟩⟩;have c:ae e (upd e t (.tup [q,p])):=ae.new n;exact k _ _ ((m.trans f).trans c) (.tup (.of ab) (.cons (((d1.same cE).same f).same c) (.cons ((d2.same cE).same c) .nil)))
def Du (w:Ze) (K:Wz):Sp:=λvs H Q _=>∃(a:Za) (xs:WD) (ks:List Kq),vs=[.ref a]/\SqL K H a xs/\aC K H xs (ks.map prD)/\(∀k∈ks,JG k)/\ks.length<64 /\
 ∀(d:Za) (l:List (Kq×Za×Nat)) (H':Hp),H d=none->ae H H'->H' d=some (dN w rL d (hoN l))->qY K rL H (hoN l)->rH l ks->l.length<=ks.length->Q (.ref d) H'
theorem ka:aE ["things","many","thing"] ["things"] (ag (top 52)):=by refine⟨rfl,rfl,rfl,?_,rfl,?_,?_⟩<;>decide +kernel
theorem uX (T:Tx K mg A):ay P w K mg base CX0 1 A.lW A.mf ["things"] (Du w K):=by
 refine T.mK.fn.ok ka (λZ H Q E h=>?_) (λ_ _ _ s H Z Q E V h=>?_)
 ·obtain⟨a,xs,ks,rfl,_⟩:=h;rfl
 ·obtain⟨a,xs,ks,rfl,W,D,N,_,k⟩:=h;refine⟨_,aj (bq (i:=1) ka.nd rfl (Or.inl rfl) (Ij (C:=rL)))
   (aj (ji YD rfl (aY (pv 0)) (ax (i:=2) ka.nd rfl (Or.inl rfl)) (ak (GZ (C:=rL) (LM V) (pv 1) (pv 2) (bN ib (DU (C:=rL) (LM V) (pv 1) (pv 2) aq ⟨rfl,rfl,rfl,rfl⟩) aq) rfl)))
   (ak (aD (pv 1)))),?_⟩
  intro d S;have X:ae H (upd H d (dN w rL d [])):=ae.new S;have L:xs.length=ks.length:=by rw[D.length,Tt]
  refine⟨_,rfl,a,rfl,⟨_,X.seq W⟩,?_⟩;refine k8 (K:=K) (xs:=xs) (λi I f=>(∃u,I=[some (.ref a),some (.ref d),u])/\ae H f/\∃l:List (Kq×Za×Nat),f d=some (dN w rL d (hoN l))/\qY K rL H (hoN l)/\rH l (ks.take i)/\l.length<=i) ⟨⟨_,rfl⟩,X,[],ab,(λx M=>by cases M),rH.nil,Tw _⟩ (λi I f _ p=>p.2.1.seq W) (λi x I f M p=>?_) (λI f p=>?_)
  ·obtain⟨⟨u,rfl⟩,n,l,B,e,m,j⟩:=p;obtain⟨c,R,G⟩:∃c,ks[i]? = some c/\Den K H x (prD c):=by
    obtain⟨_,o,O⟩:=D.get M;rw[TF]at o;obtain⟨c,t,r⟩:=Option.map_eq_some_iff.mp o;exact⟨c,t,by rw[r];exact O⟩
   have hi:=aI R;obtain⟨b,_,_,rfl,_⟩:=yq G;have g:=N c (TB R);have F:qY K rL f (hoN l):=λy v=>⟨(e y v).1,(e y v).2.same n⟩;have J:(hoN l).length=l.length:=by unfold hoN;rw[Tt]
   refine⟨_,rfl,d,_,rfl,B,_,rfl,valN (hoN l) c,⟨_,c,b,B,F,rfl,g,G.same n,rfl⟩,(getM l c:Int),1,JV l c,rfl,_,rfl,_,rfl,d,_,rfl,⟨_,c,b,B,F,rfl,g,G.same n,by rw[J];exact small (by lia),rfl⟩,?_⟩;rw[Kl m.nd];refine⟨⟨_,rfl⟩,aA S n,xq l c b,ab,λy v=>?_,?_,?_⟩
   ·unfold hoN at v;obtain⟨z,Y,rfl⟩:=Tv.mp v;rcases Hl Y with⟨q,U,t,r⟩ | ⟨t,r⟩
    ·have:=e (q.1,q.2.1,.int (q.2.2:Int)) (Tv.mpr ⟨q,U,rfl⟩);rw[t,r]at this;exact this
    ·show JG z.1/\Den K H (.ref z.2.1) (prD z.1);rw[t,r];exact⟨g,G⟩
   ·rw[T4,R];exact m.put c b
   ·have:=Gm (l:=l) (k:=c) (b:=b);lia
  ·obtain⟨⟨u,rfl⟩,n,l,B,e,m,j⟩:=p;rw[L]at m j;rw[Uv]at m;exact⟨_,rfl,k d l f S n B e m j⟩
theorem kZ:aE ["line","patterns","fitting"] ["line","patterns"] (ag (top 48)):=by refine⟨rfl,rfl,rfl,?_,rfl,?_,?_⟩<;>decide +kernel
theorem uG (T:Tx K mg A):ay P w K mg base CX0 7 A.jh A.jk ["line","patterns"] (l7 K):=by
 have p8:ay P w K mg base CX0 6 _ _ _ _:=OF (uK T);have yE:ay P w K mg base CX0 5 _ _ _ _:=OF (xV T);have MW:ay P w K mg base CX0 6 _ _ _ _:=OF (JU T);refine T.dA.fn.ok kZ (λvs H Q E h=>?_) (λ_ _ _ s H vs Q E hr h=>?_)
 ·obtain⟨z,a,xs,pss,rfl,_⟩:=h;rfl
 ·obtain⟨z,a,xs,pss,rfl,U,_,I,F,hz,X,k⟩:=h;have a3:xs.length=pss.length:=by rw[I.length,Tt]
  refine⟨_,aj (bq (i:=2) kZ.nd rfl (Or.inl rfl) (ar p8 hr (by rfl) T.ordered.mg T.ordered.fn.kp T.ordered.bd .nil aB (aa (ba (N':=["pattern","line"]) (n:=1) (fi:=[0]) (g:=aX 0) rfl (bj (ag (top 48)) ["line","patterns","fitting"] (by decide +kernel)) (aY (pv 1)) (λs H fp=>ax (i:=0) (show(["pattern","line"]:WF).Nodup by decide +kernel) rfl (Or.inl rfl) (.inr rfl)) (λs H fp=>jm (eM (ar MW hr (by rfl) T.fits.mg T.fits.fn.kp T.fits.bd .nil aB (aa (pv 0) (aa (pv 1) af))))) (λs H fp=>pv 0)) af)))
   (ak (aD (IU yE hr T.pW.bd rfl (by rfl) T.KD (by rfl) T.pW.mg (aa (pv 2) af)))),?_⟩
  refine⟨_,rfl,a,rfl,⟨_,U⟩,λD hD=>?_⟩;refine aN (K:=K) (xs:=xs) (λi b N R=>(∃u,N=[u,some (.str z)])/\ae H R/\aC K H b (((pss.take i).filter (cX z)).map aJ)) ab ⟨⟨_,rfl⟩,ae.new hD,.nil⟩ (λi b N R _ _ q=>q.2.1.seq U) (λi x b N R p j q=>?_) (λb N R j q=>?_)
  ·obtain⟨q0,o,B⟩:=q;apply d5 q0;clear q0;intro u;obtain⟨ps,y,G⟩:=gq I p;have hi:=aI y;have Z:b.length<=i:=by
    rw[B.length,Tt];exact TN (UG _ _) (by rw[TZ];lia)
   have et:pss.take (i+1)=pss.take i++[ps]:=by rw[T4,y];rfl
   refine⟨_,rfl,_,rfl,x,z,ps,rfl,G.same o,(F ps (TB y)).2,hz,X,λ_ M=>⟨_,rfl,?_⟩⟩;by_cases S:cX z ps=true
   ·have C:aV ps (Y6 z " ")=true:=S;rw[C];refine fc ?_;refine⟨_,rfl,b,M _ _ j,small (by lia),_,ab,⟨_,rfl⟩,aA hD (o.trans M),?_⟩;rw[et,UJ,TK];have W:[ps].filter (cX z)=[ps]:=by simp[S]
    rw[W];exact B.append (.cons G .nil)
   ·have C:aV ps (Y6 z " ")=false:=Uh.mpr S;rw[C];refine bU ⟨b,M _ _ j,⟨_,rfl⟩,o.trans M,?_⟩;have W:[ps].filter (cX z)=[]:=by simp[S]
    rw[et,UJ,W,Uu];exact B
  ·obtain⟨_,o,B⟩:=q;rw[TY (by lia)]at B;have a4:(pss.filter (cX z)).length<=pss.length:=UG _ _;have Z:b.length=(pss.filter (cX z)).length:=by rw[B.length,Tt]
   refine⟨D,b,pss.filter (cX z),rfl,.of j,by lia,B.same o,λps c=>F ps ((Ud.mp c).1),λ_ eV H5 l _ s5 RT O iF fr _ v=>?_⟩;have f:eV.length=l.length:=by rw[v.length,Tt]
   have RG:∀ps∈l,POk ps:=λps c=>F ps ((Ud.mp (O.mem_iff.mp c)).1);refine⟨_,rfl,_,rfl,?_⟩;refine vW (kds:=l.map looseD) (Sh.ok (.list .int)) (.of RT) (by rw[Tt];exact f) (λd V=>?_) (λm x d H6 _ p V J kk=>?_) (λLH=>?_) (λa0 H6 J=>?_)
   ·obtain⟨ps,_,rfl⟩:=Tv.mp V;exact⟨lX ps,DF ps⟩
   ·obtain⟨ps,L,c9⟩:=gq v p;rw[TF,L]at V;cases V;exact⟨x,ps,rfl,(c9.same cE).same J,RG ps (TB L),λD7 H7 _ s7 RR=>kk (.ref D7) H7 s7 (.lst (.of RR) wI)⟩
   ·subst LH;have r:l=[]:=UW (by rw[<-f];rfl);subst r;exact k .non H5 (o.trans s5) (.inl ⟨O.symm.eq_nil,rfl⟩)
   ·have r:l≠[]:=λe=>a0 (UW (by rw[f,e];rfl));obtain⟨ps,c,GN⟩:=Hn r iF;have Y:cq (l.map looseD)<eV.length:=by rw[f];exact aI c
    have p:eV[cq (l.map looseD)]? = some eV[cq (l.map looseD)]:=Tu Y;have pO:eV.getD (cq (l.map looseD)) .non=eV[cq (l.map looseD)]:=by simp[Yx,p]
    rw[pO];obtain⟨t,ys,ht,h1,h2,_⟩:=fr _ (TB p);obtain⟨_,Pg,c9⟩:=gq v p;rw[c]at Pg;cases Pg;refine k _ H6 ((o.trans s5).trans J) (.inr ⟨t,ys,ps,ht,o.free h1,J _ _ h2,⟨O.mem_iff.mp GN.1,λq U=>GN.2 q (O.mem_iff.mpr U)⟩,?_⟩);exact(c9.same (bQ J)).same (cW o.ll)
def oo (K:Wz):Sp:=λvs H Q _=>∃(a b:Za) (xs:WD) (ks:List Key),vs=[.ref a,.ref b]/\SqL K H a xs/\SqL K H b (ks.map kV)/\ks.length=xs.length/\xs.length<=1000 /\
 ∀(D:Za) (as:WH) H',H D=none->ae H H'->H' D=some (.lst (as.map V.ref))->(∀a∈as,H a=none)->gp (λa g=>H' a=some (.lst g)) as (grp ks xs)->Q (.ref D) H'
theorem j9:aE ["rows","keys","groups","row","key"] ["rows","keys"] (ag (top 37)):=by refine⟨rfl,rfl,rfl,?_,rfl,?_,?_⟩<;>decide +kernel
theorem uA (T:Tx K mg A):ay P w K mg base CX0 1 A.mJ A.mm ["rows","keys"] (oo K):=by
 refine T.jU.fn.ok j9 (λvs H Q E h=>?_) (λ_ _ _ s H vs Q E _ h=>?_)
 ·obtain⟨a,b,xs,d,rfl,_⟩:=h;rfl
 ·obtain⟨a,b,xs,d,rfl,a0,X,_,_,k⟩:=h;refine⟨_,aj (bq (i:=2) j9.nd rfl (Or.inl rfl) G1)
   (aj (ji YD rfl (tE (by rfl) T.v3 (aa (pv 0) (aa (pv 1) af))) (eN rfl (aL (ax (i:=3) j9.nd rfl (Or.inl rfl)) (aL (ax (i:=4) j9.nd rfl (Or.inl rfl)) cL))) (ak (cN (fu Yc YA YB fH (KA (pv 2) (pv 4) (bD af) ⟨rfl,rfl,rfl,rfl⟩) (aa (pv 3) af)))))
   (ak (aD (Gc rfl (by rfl) T.li i0 (pv 2))))),?_⟩
  intro G hG;have sG:ae H (upd H G (.dK [])):=ae.new hG;have S:(upd H G (.dK [])) G=some (.dK []):=ab;refine⟨_,rfl,_,rfl,a,b,rfl,⟨_,sG.seq a0⟩,⟨_,sG.seq X⟩,?_⟩;generalize upd H G (.dK [])=H1 at sG S ⊢;refine CK (K:=K) (xs:=xs) (ys:=d.map kV) (λi σ f=>(∃u v,σ=[some (.ref a),some (.ref b),some (.ref G),u,v])/\ae H f/\∃(as:WH) (kvs:List (Key×V)),f G=some (.dK kvs)/\GL H f G as kvs (bZ ((d.zip xs).take i))/\kvs.length<=i/\∀g∈(bZ ((d.zip xs).take i)).map (·.2),g.length<=i)
   ⟨⟨_,_,rfl⟩,sG,[],[],S,.nil,Tw _,λg hg=>by cases hg⟩ (λi σ f q=>⟨q.2.1.seq a0,q.2.1.seq X⟩) (λi x y σ f p hx U q hp=>?_) (λσ f q=>?_)
  ·obtain⟨q0,s2,as,kvs,m,C,ag,n⟩:=q;apply rO q0;clear q0;intro u v;have hi:=aI hx;rw[TF]at U;obtain⟨ky,a3,rfl⟩:∃ky,d[i]? = some ky/\y=kV ky:=by
    cases e:d[i]? with
    | none=>rw[e]at U;cases U
    | some ky=>rw[e]at U;cases U;exact⟨ky,rfl,rfl⟩
   have hz:(d.zip xs)[i]? = some (ky,x):=by rw[Uq];exact⟨a3,hx⟩
   have sp:ae f (upd f p (.tup [x,kV ky])):=ae.new hp;have N:(upd f p (.tup [x,kV ky])) p=some (.tup [x,kV ky]):=ab;have ah:G≠p:=aw m hp;have s3:=s2.trans sp;have o:=sp _ _ m;have t:GL H (upd f p (.tup [x,kV ky])) G as kvs (bZ ((d.zip xs).take i)):=C.keep λc l=>by
    obtain⟨⟨g,e⟩,_⟩:=C.mem c l;exact ao (aw e hp)
   generalize upd f p (.tup [x,kV ky])=H3 at sp N s3 o t ⊢;refine⟨p,_,rfl,.of N,rfl,_,_,rfl,_,_,rfl,rfl,?_⟩;refine⟨_,rfl,G,rfl,.inl ⟨kvs,.of o⟩,_,rfl,T2 _,λL hL=>?_⟩;have sL:ae H3 (upd H3 L (.lst [])):=ae.new hL;have Z:(upd H3 L (.lst [])) L=some (.lst []):=ab;have J:L≠G:=(aw o hL).symm;have OJ:L∉as:=λz=>by
    obtain⟨⟨g,e⟩,_⟩:=t.mem L z;rw[hL]at e;cases e
   have R:H L=none:=s3.free hL;have s4:=s3.trans sL;have I:=sL _ _ o;have j:GL H (upd H3 L (.lst [])) G as kvs (bZ ((d.zip xs).take i)):=t.keep λc l=>by
    obtain⟨⟨g,e⟩,_⟩:=t.mem c l;exact ao (aw e hL)
   generalize upd H3 L (.lst [])=H4 at sL Z s4 I j ⊢;have r:bZ ((d.zip xs).take (i+1))=bJ (bZ ((d.zip xs).take i)) ky x:=zN hz;have B:∀g∈(bJ (bZ ((d.zip xs).take i)) ky x).map (·.2),g.length<=i+1:=λg hg=>by
    obtain⟨q,hq,rfl⟩:=Tv.mp hg;unfold bJ at hq
    split at hq
    ·obtain⟨q',a5,rfl⟩:=Tv.mp hq;have:=n q'.2 (U6 a5)
     split
     ·show(q'.2++[x]).length<=_;rw[TJ,T1];lia
     ·lia
    ·rcases TV.mp hq with z | z
     ·have:=n q.2 (U6 z);lia
     ·rw[Tz.mp z];show 1<=_;lia
   refine⟨kvs,ky,I,rfl,small (by lia),λ_ a9=>?_,λhn=>?_⟩
   ·obtain⟨c,g,rfl,l,W,a4,M⟩:=j.grow (x:=x) a9;have Y:=j.mem c l;refine⟨.inl ⟨rfl,_,.of W⟩,_,rfl,c,g,_,rfl,rfl,W,small (by have:=n g a4;lia),?_⟩;refine⟨⟨_,_,rfl⟩,aA Y.2.1 s4,as,kvs,by rw[ao Y.2.2.symm];exact I,by rw[r];exact M,by lia,by rw[r];exact B⟩
   ·have a6:H G=none:=hG;have O:(upd H4 G (.dK (putK kvs ky (.ref L)))) L=some (.lst []):=by rw[ao J];exact Z
    refine⟨.inl ⟨rfl,_,.of O⟩,_,rfl,L,[],_,rfl,rfl,O,small (by decide),?_⟩;have a7:(upd (upd H4 G (.dK (putK kvs ky (.ref L)))) L (.lst ([]++[x]))) L=some (.lst [x]):=ab;have a8:GL H (upd (upd H4 G (.dK (putK kvs ky (.ref L)))) L (.lst ([]++[x]))) G as kvs (bZ ((d.zip xs).take i)):=j.keep λc l=>by
     have:=j.mem c l;rw[ao (λ(z:c=L)=>OJ (z ▸ l)),ao this.2.2]
    obtain⟨e1,M⟩:=a8.more hn a7 R J OJ;refine⟨⟨_,_,rfl⟩,aA R (aA a6 s4),as++[L],kvs++[(ky,.ref L)],by rw[ao J.symm,ab,e1],by rw[r];exact M,by rw[TJ,T1];lia,by rw[r];exact B⟩
  ·obtain⟨q0,s2,as,kvs,m,C,ag,n⟩:=q;apply rO q0;clear q0;intro u v;have hm:min xs.length (d.map kV).length=(d.zip xs).length:=by rw[Tt,Ul,Nat.min_comm]
   rw[hm,TY (Tw _)]at C;refine⟨_,rfl,G,kvs,rfl,.of m,λD hD=>?_⟩;rw[C.vals];have sD:ae f (upd f D (.lst (as.map V.ref))):=ae.new hD;exact k D as _ (s2.free hD) (s2.trans sD) ab (λc l=>(C.mem c l).2.1) (C.lists.mono λc g e=>sD _ _ e)
def iS (K:Wz):Sp:=λvs H Q _=>∃(u:V) (p n:Nat) (wss:WE),vs=[u,.int p]/\Den K H u (gD wss)/\GOk n wss/\p<n /\
 ∀(D:Za) H',H D=none->ae H H'->H' D=some (.lst ((wAt wss p).map V.str))->Q (.ref D) H'
def iW (K:Wz):Sp:=λvs H Q _=>∃(u:V) (p n:Nat) (wss:WE),vs=[u,.int p]/\Den K H u (gD wss)/\GOk n wss/\p<n /\
 ∀H',ae H H'->Q (.int (uAt wss p).length) H'
def gc (K:Wz):Sp:=λvs H Q _=>∃(u:V) (p n:Nat) (wss:WE) (t:Za) (s l:Int),vs=[u,.int p,.ref t]/\Den K H u (gD wss)/\GOk n wss/\p<n/\SqT K H t [.int s,.int l] /\
 ∀H',ae H H'->Q (.bl (gF wss p s l)) H'
theorem zu:aE ["group","place"] ["group","place"] (ag (top 38)):=by refine⟨rfl,rfl,rfl,?_,rfl,?_,?_⟩<;>decide +kernel
theorem lh (T:Tx K mg A):ay P w K mg base CX0 1 A.iu A.iD ["group","place"] (iS K):=by
 refine T.eu.fn.ok zu (λL H Q E h=>?_) (λ_ _ _ s H L Q E _ h=>?_)
 ·obtain⟨u,p,n,wss,rfl,_⟩:=h;rfl
 ·obtain⟨u,p,n,wss,rfl,M,G,_,k⟩:=h;obtain⟨a,xs,rfl,C,e⟩:=Dz M;have l:xs.length=wss.length:=by rw[e.length,Tt]
  refine⟨_,ak (aD (ba (N':=["words","place"]) (n:=1) (fi:=[1]) (g:=aX 0) rfl (bj (ag (top 38)) ["group","place"] (by decide +kernel)) (aY (pv 0)) (λs H I=>ax (i:=0) (show(["words","place"]:WF).Nodup by decide +kernel) rfl (Or.inl rfl) (.inr rfl)) (λs H I=>aP) (λs H I=>bc (r:=cO K) aS (pv 0) (pv 1) (λ_ _=>rfl)))),?_⟩;refine⟨_,rfl,a,rfl,⟨_,C⟩,λD t=>?_⟩;refine aN (K:=K) (xs:=xs) (λi b j d=>(∃u,j=[u,some (.int p)])/\ae H d/\b=(wAt (wss.take i) p).map V.str) ab ⟨⟨_,rfl⟩,ae.new t,rfl⟩ (λi b j d _ _ q=>q.2.1.seq C) (λi x b j d B m q=>?_) (λb j d c q=>?_)
  ·obtain⟨F,f,rfl⟩:=q;apply d5 F;clear F;intro u;have O:=aI B;obtain⟨ws,r,z,rfl,o⟩:=r9 e B;have N:=G.row ws (TB z);have v:p<ws.length:=by lia
   have y:(ws.map V.str)[p]? = some (.str (ws.getD p Yh)):=by rw[TF,TU,Tu v];rfl
   have J:=G.le;refine cC ⟨_,rfl,_,rfl,r,_,_,_,rfl,rfl,f.seq o,cy y,_,m,small (by unfold wAt;rw[Tt,Tt,TZ];lia),_,ab,⟨_,rfl⟩,aA t f,?_⟩;rw[Gg z,TK];rfl
  ·obtain⟨_,f,rfl⟩:=q;rw[l,TY (Tw _)]at c;exact k D d t f c
theorem px:aE ["group","place"] ["group","place"] (ag (top 39)):=by refine⟨rfl,rfl,rfl,?_,rfl,?_,?_⟩<;>decide +kernel
theorem o5 (T:Tx K mg A):ay P w K mg base CX0 2 A.fN A.fE ["group","place"] (iW K):=by
 have d:ay P w K mg base CX0 1 _ _ _ _:=OF (lh T);refine T.e7.fn.ok px (λg H Q E h=>?_) (λ_ _ _ s H g Q E e h=>?_)
 ·obtain⟨u,p,n,a,rfl,_⟩:=h;rfl
 ·obtain⟨u,p,n,a,rfl,j,c,f,k⟩:=h;refine⟨_,ak (aD (xT EV rfl (by rfl) T.cJ Yb (by rfl) T.HJ BG (aa (ar d e (by rfl) T.eu.mg T.eu.fn.kp T.eu.bd .nil aB (aa (pv 0) (aa (pv 1) af))) af))),?_⟩;refine⟨_,rfl,_,rfl,u,p,n,a,rfl,j,c,f,λD i _ l b=>⟨D,_,rfl,.of b,Vn (c.LA p) (by decide),k i l⟩⟩
theorem Fn {α:Type}{l m:List α}{f:α->Bool} (h:l.Perm m):l.all f=m.all f:=by
 rw[Ue,T6,T6];exact⟨λq x hx=>q x (h.mem_iff.mpr hx),λq x hx=>q x (h.mem_iff.mp hx)⟩
theorem vP (ws:WF):(ws.map V.str).all ie=true:=by
 rw[T6];intro x hx;obtain⟨w,_,rfl⟩:=Tv.mp hx;rfl
theorem AQ (ws:WF) (w:Str):(ws.map V.str).countP (λz=>eqV z (.str w))=ws.countP λz=>decide (z=w):=by
 rw[List.countP_map];rfl
theorem bK:aE ["group","place","sieve","spread","least","words","unlike"] ["group","place","sieve"] (ag (top 40)):=by refine⟨rfl,rfl,rfl,?_,rfl,?_,?_⟩<;>decide +kernel
theorem ma (T:Tx K mg A):ay P w K mg base CX0 2 A.dZ A.dY ["group","place","sieve"] (gc K):=by
 have hJ:ay P w K mg base CX0 1 _ _ _ _:=OF (lh T);refine T.dv.fn.ok bK (λvs H Q E h=>?_) (λ_ _ _ s H vs Q E X h=>?_)
 ·obtain⟨u,p,n,a,t,s,l,rfl,_⟩:=h;rfl
 ·obtain⟨u,p,n,a,t,s,l,rfl,hd,G,hp,O,k⟩:=h;refine⟨_,aj (lM (pv 2) (eN rfl (aL (ax (i:=3) bK.nd rfl (Or.inl rfl)) (aL (ax (i:=4) bK.nd rfl (Or.inr rfl)) cL))))
   (aj (bq (i:=5) bK.nd rfl (Or.inr rfl) (ar hJ X (by rfl) T.eu.mg T.eu.fn.kp T.eu.bd .nil aB (aa (pv 0) (aa (pv 1) af))))
   (aj (bq (i:=6) bK.nd rfl (Or.inl rfl) (xT (pU rfl X) rfl (by rfl) T.js mj (by rfl) T.HJ BG (aa (pv 5) af)))
   (ak (aD (tw (Fs Dw Dw aq (aK (r:=dC K) be (by rfl) T.cJ Yb (aa (pv 6) af)) (pv 3)) (p7 (aK (r:=FO K) (pE rfl) (by rfl) T.Ct xR (aa (ba (N':=["word","least","words"]) (n:=1) (fi:=[4,5]) (g:=aX 0) rfl (bj (ag (top 40)) ["group","place","sieve","spread","least","words","unlike"] (by decide +kernel)) (aY (pv 6)) (λs H fp=>ax (i:=0) (show(["word","least","words"]:WF).Nodup by decide +kernel) rfl (Or.inl rfl) (.inr rfl)) (λs H fp=>aP) (λs H fp=>eF F9 (A7 (K:=K) rfl (r:=Im K) Yc Z1 PySem.F.type_list_count G8 (pv 2) (aa (pv 0) af)) (pv 1) (bg _))) af)))))))),?_⟩
  refine⟨_,rfl,t,_,rfl,O,rfl,_,_,rfl,_,_,rfl,rfl,?_⟩;refine⟨_,rfl,_,rfl,u,p,n,a,rfl,hd,G,hp,λW I _ s1 y=>?_⟩;refine⟨_,rfl,W,_,rfl,.of y,Vn (G.LA p) (by decide),G.O7 p,λU b hU Y _=>?_⟩;have M:ae I (upd I U (.lst (b.map V.str))):=ae.new hU;have d:(upd I U (.lst (b.map V.str))) U=some (.lst (b.map V.str)):=ab;have v:=M _ _ y;have C:=s1.trans M;generalize upd I U (.lst (b.map V.str))=H2 at M d v C ⊢;have L:b.length=(uAt a p).length:=Y.length_eq;have f:((b.map V.str).length:Int)=((uAt a p).length:Int):=by rw[Tt,L]
  refine⟨_,rfl,U,_,rfl,.inl (.of d),_,_,rfl,rfl,_,rfl,?_⟩;rw[f];cases c1:decide ((2:Int)<=((uAt a p).length:Int))with
  | false=>
   refine bU ⟨_,rfl,bU ?_⟩;have e:gF a p s l=false:=by unfold gF;rw[c1];rfl
   rw[<-e];exact k H2 C
  | true=>
   refine fc ⟨_,rfl,_,_,rfl,rfl,_,rfl,?_⟩;cases c2:decide (((uAt a p).length:Int)<=s)with
   | false=>
    refine bU ?_;have e:gF a p s l=false:=by unfold gF;rw[c1,c2];rfl
    show Q (.bl false) H2;rw[<-e];exact k H2 C
   | true=>
    refine fc ⟨_,rfl,U,rfl,⟨_,.of d⟩,λB S=>?_⟩;refine aN (K:=K) (xs:=b.map V.str) (λi c J o=>(∃u,J=[u,some (.int l),some (.ref W)])/\ae H2 o/\c=((b.take i).map λw=>decide (l<=((wAt a p).countP λz=>decide (z=w):Nat))).map V.bl) ab ⟨⟨_,rfl⟩,ae.new S,rfl⟩ (λi c J o _ _ q=>.of (q.2.1 _ _ d)) (λi x c J o hx N q=>?_) (λc J o j q=>?_)
    ·obtain⟨Z,D,rfl⟩:=q;apply d5 Z;clear Z;intro _;obtain⟨_,R,rfl⟩:=gG hx;have hi:=aI R;have hu:=G.O7 p;have m:=D _ _ v;refine cC ⟨_,rfl,.inl ⟨rfl,_,.of m⟩,_,rfl,W,_,_,rfl,rfl,.of m,rfl,vP _,_,rfl,_,_,rfl,rfl,?_⟩;refine⟨_,N,small (by rw[Tt,Tt,TZ];lia),_,ab,⟨_,rfl⟩,aA S D,?_⟩;rw[AQ,T4,R];simp
    ·obtain⟨_,D,rfl⟩:=q;rw[Tt,TY (Tw _)]at j;refine⟨B,_,rfl,.of j,?_⟩;have e:gF a p s l=((b.map λw=>decide (l<=((wAt a p).countP λz=>decide (z=w):Nat))).all id):=by
      unfold gF;rw[c1,c2,List.all_map,Ve,Ve];exact(Fn Y).symm
     rw[<-e];exact k o (C.trans D)
def RE:Str:=("place_to_part_at" : Str) ++ ".<locals>." ++ "<lambda>"
def bP (P:Za) (H:Hp):Prop:=ig P ⟨122,27,122,69⟩ RE H
def gA (K:Wz) (P:Za):Sp:=λvs H Q _=>∃(u:V) (n:Nat) (wss:WE) (t:Za) (s l:Int),vs=[u,.ref t]/\Den K H u (gD wss)/\GOk n wss/\SqT K H t [.int s,.int l]/\bP P H /\
 ∀H',ae (wo P H) H'->bP P H'->Q (Rq (plc wss n s l)) H'
theorem gB:aE ["group","sieve","places"] ["group","sieve"] (ag (top 41)):=by refine⟨rfl,rfl,rfl,?_,rfl,?_,?_⟩<;>decide +kernel
theorem mY (T:Tx K mg A):ay P w K mg base CX0 5 A.eO A.cM ["group","sieve"] (gA K A.au):=by
 have m3:ay P w K mg base CX0 4 _ _ _ _:=OF (ma T);have pQ:ay P w K mg base CX0 2 _ _ _ _:=OF (o5 T);refine T.dP.fn.okC T.lam.code gB (λvs H Q E h=>?_) (λ_ _ s H vs Q E hr h=>?_)
 ·obtain⟨u,n,wss,t,s,l,rfl,_⟩:=h;rfl
 ·obtain⟨u,n,wss,t,b,l,rfl,f,M,a9,a7,k⟩:=h;obtain⟨a,X,rfl,hq,J⟩:=Dz f;have ao:X.length=wss.length:=by rw[J.length,Tt]
  have ah:0<wss.length:=Vs.mpr M.ne;have v:X[0]? = some X[0]:=Tu (by lia);obtain⟨a3,r0,a4,Z,Rm⟩:=r9 J v;have Pa:=M.row a3 (TB a4);have ai:=M.EF;refine⟨_,aj (mD (i:=2) (N':=["place","group","sieve"]) (n:=1) (fi:=[0,1]) (g:=aX 0) gB.nd rfl (Or.inl rfl) rfl (bj (ag (top 41)) ["group","sieve","places"] (by decide +kernel)) (dW (by rfl) T.gP (aa (aK (r:=dC K) be (by rfl) T.cJ Yb (aa (bc (r:=cO K) aS (pv 0) aq (λ_ _=>rfl)) af)) af)) (λs H fp=>ax (i:=0) (show(["place","group","sieve"]:WF).Nodup by decide +kernel) rfl (Or.inl rfl) (.inr rfl)) (λs H fp=>jm (eM (ar m3 hr (by rfl) T.dv.mg T.dv.fn.kp T.dv.bd .nil aB (aa (pv 1) (aa (pv 0) (aa (pv 2) af)))))) (λs H fp=>pv 0))
   (ak (aD (J4 (P:=A.au) (y:= "place") (N':=["place","group"]) (fi:=[0]) rfl hr (MB (ag (top 41)) ["group","sieve","places"] (by decide +kernel)) rfl T.lam.hd T.lam.bm (λq _ s H=>ar pQ (hr.in1.deeper _) (by rfl) T.e7.mg T.e7.fn.kp T.e7.bd .nil aB (aa (pv 1) (aa (pv 0) af))) (by rfl) T.KD (aa (pv 2) af)))),?_⟩
  rw[Z]at v;refine⟨_,rfl,a,X,0,_,rfl,rfl,hq,cy (j:=0) v,r0,_,rfl,.inl Rm,(n:Int),?_,by lia,by lia,λD hD=>?_⟩
  ·rw[Tt,Pa.1]
  refine fL (λi z σ H4=>(∃u,σ=[u,some (.ref a),some (.ref t)])/\ae H H4/\z=(jz wss i b l).map λp=>V.int (p:Nat)) ab ⟨⟨_,rfl⟩,ae.new hD,rfl⟩ (λi z σ H4 _ R q=>?_) (λz σ H4 a5 q=>?_)
  ·obtain⟨q0,o,rfl⟩:=q;apply d5 q0;clear q0;intro _;have a0:i<n:=by lia
   have ap:=Ge (wss:=wss) (i:=i) (s:=b) (l:=l);have e0:((0:Int)+(i:Int))=((i:Nat):Int):=by lia
   refine⟨_,rfl,_,rfl,_,rfl,.ref a,i,n,wss,t,b,l,?_,f.same o,M,a0,o.cU a9,λH5 U=>⟨_,rfl,?_⟩⟩
   ·rw[e0];rfl
   rw[Ep];cases hf:gF wss i b l with
   | true=>
    refine fc ⟨_,rfl,_,U _ _ R,small (by rw[Tt];lia),_,ab,⟨_,rfl⟩,aA hD (o.trans U),?_⟩;have F:[i].filter (λp=>gF wss p b l)=[i]:=by simp[hf]
    rw[F,TK,e0];rfl
   | false=>
    refine bU ⟨_,U _ _ R,⟨_,rfl⟩,o.trans U,?_⟩;have F:[i].filter (λp=>gF wss p b l)=[]:=by simp[hf]
    rw[F,Uu]
  ·obtain⟨_,o,rfl⟩:=q;have G:bP A.au H4:=aF a7 o;refine⟨_,rfl,.ref D,rfl,G,λc H5 hn L a6=>?_⟩;have sw:ae (wo A.au H4) H5:=FR hn;obtain⟨_,N⟩:=aR G;have Y:Den K H5 (.ref a) (gD wss):=(C0 N (f.same o)).same sw;have a8:H5 D=_:=yr sw N a5 λ_ e=>by cases e
   have B:ae (wo A.au H) H5:=(iK o).trans sw;have W:(n:Int).toNat=n:=by lia
   refine vW (kds:=(jz wss n b l).map λp=>.int (uAt wss p).length) (Sh.ok .int) (.of a8) (by rw[Tt,Tt,W]) (λd f=>?_) (λm x d H6 _ I f O kk=>?_) (λLH=>?_) (λS H6 O=>?_)
   ·obtain⟨p,_,rfl⟩:=Tv.mp f;exact⟨⟨_,rfl⟩,J3 _⟩
   ·rw[W,TF]at I;rw[TF]at f;cases e:(jz wss n b l)[m]? with
    | none=>rw[e]at I;cases I
    | some p=>
     rw[e]at I f;cases I;cases f;have hp:=(yQ (TB e)).1;exact⟨_,rfl,O _ _ a6,_,rfl,_,rfl,.ref a,p,n,wss,rfl,Y.same O,M,hp,λH7 s7=>kk _ H7 s7 (.int _)⟩
   ·have e:plc wss n b l=none:=by
     unfold plc;rw[if_pos];have:=UD.mp LH
     rwa [W]at this
    have:=k H5 B L;rw[e]at this;exact this
   ·rw[W]at S ⊢;have C:jz wss n b l≠[]:=λe=>S (by rw[e];rfl);have hl:=ze wss _ C;have e:plc wss n b l=some ((jz wss n b l).getD (cq ((jz wss n b l).map λp=>.int (uAt wss p).length)) 0):=by unfold plc;rw[Zo C]
    have:=k H6 (B.trans O) (aF L O);rw[e]at this;have F:((jz wss n b l).map λp=>V.int (p:Nat)).getD (cq ((jz wss n b l).map λp=>.int (uAt wss p).length)) .non=V.int ((jz wss n b l).getD (cq ((jz wss n b l).map λp=>.int (uAt wss p).length)) 0:Nat):=by
     rw[TU,TF,TU,Tu hl];rfl
    rw[F];exact this
def rT (N:Nat) (K:Wz) (P:Za):Sp:=λvs H Q _=>∃(B:Hp) (u:V) (n:Nat) (wss:WE) (t:Za) (s l:Int),vs=[u,.ref t]/\ae B H/\B P=none/\Den K B u (gD wss)/\GOk n wss/\SqT K H t [.int s,.int l]/\bP P H/\mu n wss<N /\
 ∀(D:Za) (ys:WD) (C H':Hp),H D=none->ae (wo P H) H'->bP P H'->H' D=some (.lst ys)->ae B C->ae C H'->(∀b,C b≠none->B b≠none\/H b=none)->C P=none->aC K C ys ((prt n s l N wss).map gD)->Q (.ref D) H'
def wt (K:Wz) (P:Za):Sp:=rT 13 K P
theorem mE:aE ["group","sieve","place","groups","smaller"] ["group","sieve"] (ag (top 42)):=by refine⟨rfl,rfl,rfl,?_,rfl,?_,?_⟩<;>decide +kernel
theorem C1 (T:Tx K mg A):∀N,ay P w K mg base CX0 (6+N) A.ju A.jo ["group","sieve"] (rT N K A.au)
 | 0=>⟨λvs H Q E h=>by obtain⟨B,u,n,wss,t,s,l,rfl,_⟩:=h;rfl,λ_ _ _ _ _ _ _ _ _ _ _ _ _ h=>by obtain⟨B,u,n,wss,t,s,l,_,_,_,_,_,_,_,r,_⟩:=h;lia⟩
 | N+1=>by
  have ou:ay P w K mg base CX0 (6+N) A.eO A.cM ["group","sieve"] (gA K A.au):=(mY T).mono (by lia);have qf:ay P w K mg base CX0 (6+N) A.mJ A.mm ["rows","keys"] (oo K):=(uA T).mono (by lia);have hJ:ay P w K mg base CX0 (6+N) A.iu A.iD ["group","place"] (iS K):=(lh T).mono (by lia);have uh:ay P w K mg base CX0 (6+N) A.ju A.jo ["group","sieve"] (rT N K A.au):=C1 T N;show ay P w K mg base CX0 ((6+N)+1) A.ju A.jo ["group","sieve"] (rT (N+1) K A.au);refine T.parted.fn.ok mE (λvs H Q E h=>?_) (λ_ _ _ s H vs R E hr h=>?_)
  ·obtain⟨B,u,n,wss,t,s,l,rfl,_⟩:=h;rfl
  ·obtain⟨B,u,n,wss,t,m,l,rfl,a0,Y,I,ok,a3,bb,_,k⟩:=h;refine⟨_,aj (bq (i:=2) mE.nd rfl (Or.inl rfl) (ar ou hr (by rfl) T.dP.mg T.dP.fn.kp T.dP.bd .nil aB (aa (pv 0) (aa (pv 1) af))))
   (aj (bF (bi BN (pv 2) BJ (bg _)) (ak (aD (bD (aa (pv 0) af)))) aT)
   (aj (bq (i:=3) mE.nd rfl (Or.inl rfl) (bD af))
   (aj (ji YD rfl (aY (ar qf hr (by rfl) T.jU.mg T.jU.fn.kp T.jU.bd .nil aB (aa (pv 0) (aa (ar hJ hr (by rfl) T.eu.mg T.eu.fn.kp T.eu.bd .nil aB (aa (pv 0) (aa (pv 2) af))) af)))) (ax (i:=4) mE.nd rfl (Or.inl rfl)) (ak (cN (fu Yc PySem.F.slot_list_extend PySem.F.type_list_extend wC (pv 3) (aa (ar uh hr (by rfl) T.parted.mg T.parted.fn.kp T.parted.bd .nil aB (aa (pv 4) (aa (pv 1) af))) af)))))
   (ak (aD (pv 3)))))),?_⟩
   obtain⟨a,xs,rfl,hqB,Nk⟩:=Dz I;have bu:xs.length=wss.length:=by rw[Nk.length,Tt]
   obtain⟨_,b7⟩:=aR bb;have bw:ae B (wo A.au H):=fU Y a0;refine⟨_,rfl,_,rfl,.ref a,n,wss,t,m,l,rfl,I.same a0,ok,a3,bb,λH1 s1 Z=>?_⟩;have U:ae B H1:=bw.trans s1;have Q9:SqT K H1 t [.int m,.int l]:=s1.cU (oJ b7 a3);obtain⟨_,Pn⟩:=aR Z;have M:∀{b:Za}{H':Hp},ae (wo A.au H) H'->H' b=none->b≠A.au->H b=none:=λ{b H'} m e ne=>by
    have:=m.free e
    rwa [av ne]at this
   refine⟨_,rfl,rfl,_,rfl,?_⟩;cases hpl:plc wss n m l with
   | none=>
    refine fc ⟨_,rfl,(by show 1<=Zg;decide),λD hD=>?_⟩;have sD:ae H1 (upd H1 D (.lst [.ref a])):=ae.new hD;have e:prt n m l (N+1) wss=[wss]:=by unfold prt;rw[hpl]
    exact k D _ B _ (M s1 hD (aw Pn hD).symm) (s1.trans sD) (aF Z sD) ab (ae.refl B) (U.trans sD) (λb h=>.inl h) Y (by rw[e];exact .cons I .nil)
   | some p=>
    obtain⟨hp,RH⟩:=yp hpl;have bp:prt n m l (N+1) wss=(byW wss p).flatMap (prt n m l N):=by
     conv=>lhs;unfold prt
     rw[hpl]
    refine bU ?_;refine⟨T2 _,λG hG=>?_⟩;have sG:ae H1 (upd H1 G (.lst [])):=ae.new hG;have aq:(upd H1 G (.lst [])) G=some (.lst []):=ab;have X:G≠A.au:=(aw Pn hG).symm;have b9:=aF Z sG;have s2:ae (wo A.au H) (upd H1 G (.lst [])):=s1.trans sG;generalize upd H1 G (.lst [])=H2 at sG aq b9 s2 ⊢;refine⟨_,rfl,_,rfl,_,rfl,.ref a,p,n,wss,rfl,I.same (U.trans sG),ok,hp,λW _ _ s3 b6=>?_⟩;have a6:=sG.trans s3;have ek:((wAt wss p).map V.str)=((wAt wss p).map (Sum.inr:Str->Key)).map kV:=by rw[T7];rfl
    rw[ek]at b6;have c3:=ok.le;refine⟨a,W,xs,(wAt wss p).map Sum.inr,rfl,(U.trans a6).seq hqB,.of b6,by rw[Tt];unfold wAt;rw[Tt,bu],by lia,λD as H4 hD s4 L bc gy=>⟨D,rfl,⟨_,.of L⟩,?_⟩⟩;have ao:=a6.trans s4;have b5:=s3 _ _ aq;have a9:=s4 _ _ b5;have ag:bP A.au H4:=aF b9 (s3.trans s4);have b2:ae (wo A.au H) H4:=s2.trans (s3.trans s4);obtain⟨_,xW⟩:=aR ag;have br:ae B H4:=U.trans ao;have OC:=ao.cU Q9;have f:H G=none:=M s1 hG X;have bt:B G=none:=by
     cases e:B G with
     | none=>rfl
     | some o=>rw[a0 _ _ e]at f;cases f
    have hC:∃d:Hp,ae B d/\ae d H4/\d G=none/\d A.au=none/\(∀b,d b≠none->B b≠none\/H b=none)/\∀c∈as,(∀g,H4 c=some (.lst g)->g≠[]->d c=H4 c):=by
     refine⟨λb=>if b=G\/b=A.au then none else if B b≠none\/b∈as then H4 b else none,λb o e=>?_,λb o e=>?_,by simp,by simp,λb hb=>?_,λc hc g hg be=>?_⟩
     ·have r:b≠G:=nn e bt
      have h2:b≠A.au:=nn e Y
      show(if b=G\/b=A.au then none else _)=_;rw[Zo (by rintro(z | z) <;> contradiction),Zn (.inl (by rw[e];simp))];exact br _ _ e
     ·dsimp only at e
      split at e
      ·cases e
      ·split at e
       ·exact e
       ·cases e
     ·dsimp only at hb
      split at hb
      ·exact absurd rfl hb
      ·rename_i hn
       split at hb
       ·rename_i hor;rcases hor with z | z
        ·exact .inl z
        ·refine .inr (M (s2.trans s3) (bc b z) λw=>hn (.inr w))
       ·exact absurd rfl hb
     ·have r:c≠G:=λz=>by rw[z,a9]at hg;cases hg;exact be rfl
      have h2:c≠A.au:=nn hg xW
      show(if c=G\/c=A.au then none else _)=_;rw[Zo (by rintro(z | z) <;> contradiction),Zn (.inr hc)]
    obtain⟨d,a8,bx,ah,a5,b4,bl⟩:=hC;have F2:=Dv (vX (Nk.same a8)) ((wAt wss p).map Sum.inr);refine k8 (K:=K) (xs:=as.map V.ref) (λi σ H5=>(∃v,σ=[some (.ref a),some (.ref t),some (.int p),some (.ref G),v])/\ae (wo A.au (wo G H4)) H5/\bP A.au H5/\∃(acc:WD) (C:Hp),H5 G=some (.lst acc)/\ae d C/\ae C H5/\C G=none/\C A.au=none/\(∀b,C b≠none->B b≠none\/H b=none)/\aC K C acc ((((byW wss p).take i).flatMap (prt n m l N)).map gD))
     ⟨⟨_,rfl⟩,bA.trans bA,ag,[],d,a9,ae.refl _,bx,ah,a5,b4,.nil⟩ (λi σ H5 _ q=>.of (q.2.1 _ _ (by
      have r:D≠G:=nn hD b5
      have h2:D≠A.au:=nn L xW
      rw[av h2,av r];exact L))) (λi x σ H5 hx q=>?_) (λσ H5 q=>?_)
    ·obtain⟨q0,s5,S,acc,C,j,sC,O,cG,cP,cb,dn⟩:=q;apply d5 q0;clear q0;intro v;rw[TF]at hx;obtain⟨c,b3,rfl⟩:∃c,as[i]? = some c/\x = .ref c:=by
      cases e:as[i]? with
      | none=>rw[e]at hx;cases hx
      | some c=>rw[e]at hx;cases hx;exact⟨c,rfl,rfl⟩
     obtain⟨g,bh,az⟩:=gy.at b3;obtain⟨wg,b0,ap⟩:=F2.at bh;have J:wg∈byW wss p:=TB b0;have F0:=(pZ J).1;have Mf:g≠[]:=λe=>by
      have:=ap.len;rw[e]at this;exact F0 (U7.mp this.symm)
     have bj:d c=some (.lst g):=(bl c (TB b3) g az Mf).trans az;have bf:Den K d (.ref c) (gD wg):=.lst (.of bj) (wA ap);have bk:ae d H5:=sC.trans O;have y:ae (wo A.au H) H5:=λb o e=>by
      by_cases r:b=G
      ·rw[r,av X,f]at e;cases e
      ·have h2:=(aZ e).1;exact s5 b o (Zq h2 r (b2 b o e))
     have Qm:SqT K H5 t [.int m,.int l]:=y.cU (oJ b7 a3);refine⟨_,rfl,.inl ⟨rfl,_,.of j⟩,_,rfl,_,rfl,d,.ref c,n,wg,t,m,l,rfl,bk,a5,bf,ok.sub J,Qm,S,by have:=KN hp (xU RH) J;lia,λD2 ys C' H6 _ s6 bz IQ _ PR a4 ba b8=>?_⟩;obtain⟨_,HP⟩:=aR S;have a7:H6 G=some (.lst acc):=yr s6 HP j λ_ e=>by cases e
     have b1:ae C H6:=(fU cP O).trans s6;have ai:C' G=none:=by
      cases e:C' G with
      | none=>rfl
      | some o=>
       rcases a4 G (by rw[e];simp)with z | z
       ·exact absurd ah z
       ·rw[j]at z;cases z
     have c1:acc.length<=wss.length:=by rw[dn.length,Tt];exact Jv i
     have c2:ys.length<=wg.length:=by rw[b8.length,Tt];exact pA F0
     have c0:=(pZ J).2.1;refine⟨G,D2,acc,ys,rfl,rfl,a7,IQ,TN (show _<=1000 by lia) (by decide),?_⟩;refine⟨⟨_,rfl⟩,aA (by rw[av X,cu]) (bI s5 s6),jS bz a7,acc++ys,hU C C',ab,sC.trans Pz,aA (xo cG ai) (PJ b1 PR),xo cG ai,xo cP ba,λb hb=>?_,?_⟩
     ·rcases PN hb with z | z
      ·exact cb b z
      ·rcases a4 b z with w | w
       ·exact b4 b w
       ·refine .inr (M y w λe=>z (by rw[e];exact ba))
     ·rw[T4,show(byW wss p)[i]? = some wg from b0];simp only[Option.toList,List.flatMap_append,TK,UY,List.flatMap_nil,Uu];exact(dn.same Pz).append (b8.same (Sb b1 PR))
    ·obtain⟨q0,s5,S,acc,C,j,sC,O,cG,cP,cb,dn⟩:=q;apply d5 q0;clear q0;intro v;have bo:as.length=(byW wss p).length:=by rw[gy.len,F2.len];rfl
     rw[Tt,bo,TY (Tw _)]at dn;have y:ae (wo A.au H) H5:=λb o e=>by
      by_cases r:b=G
      ·rw[r,av X,f]at e;cases e
      ·have h2:=(aZ e).1;exact s5 b o (Zq h2 r (b2 b o e))
     refine⟨_,rfl,k G acc C H5 f y S j (a8.trans sC) O cb cP ?_⟩;rw[bp];exact dn
theorem DY (T:Tx K mg A):ay P w K mg base CX0 19 A.ju A.jo ["group","sieve"] (wt K A.au):=C1 T 13
def gE (K:Wz):Sp:=λvs H Q _=>∃(u:V) (n:Nat) (wss:WE),vs=[u]/\Den K H u (gD wss)/\GOk n wss /\
 ∀D acc H',H D=none->ae H H'->H' D=some (.lst acc)->aC K (lim H H') acc ((bB (wss.map jA) n).map Pt.dat)->Q (.ref D) H'
theorem Ox {H:Hp}{M:Za}{xs:WD} (h:H M=some (.lst xs)):ae (tO H) (wo M H):=λb o e=>by
 obtain⟨n,e⟩:=C6 e;have:b≠M:=λz=>by rw[z,h]at e;cases e;exact n _ rfl
 rw[av this];exact e
theorem mX:aE ["group"] ["group"] (ag (top 43)):=by refine⟨rfl,rfl,rfl,?_,rfl,?_,?_⟩<;>decide +kernel
theorem mW (T:Tx K mg A):ay P w K mg base CX0 6 A.eL A.eJ ["group"] (gE K):=by
 have GB:ay P w K mg base CX0 5 _ _ _ _:=OF (EO T);refine T.dU.fn.ok mX (λvs H Q E h=>?_) (λ_ _ _ s H vs Q E hr h=>?_)
 ·obtain⟨u,n,wss,rfl,_⟩:=h;rfl
 ·obtain⟨u,n,wss,rfl,hd,S,k⟩:=h;obtain⟨a,xs,rfl,hq,N⟩:=Dz hd;have a5:xs.length=wss.length:=by rw[N.length,Tt]
  have aj:=S.le;have ah:=S.EF;refine⟨_,ak (aD (ar GB hr (by rfl) T.joined.mg T.joined.fn.kp T.joined.bd .nil aB (aa (ba (N':=["words"]) (n:=1) (fi:=[]) (g:=aX 0) rfl (bj (ag (top 43)) ["group"] (by decide +kernel)) (aY (pv 0)) (λs H J=>ax (i:=0) (nT _) rfl (Or.inl rfl) (.inr rfl)) (λs H J=>aP) (λs H J=>ba (wi:=Fp K (Kk 0)) (N':=["word"]) (n:=1) (fi:=[]) (g:=aX 0) rfl (Dx (ag (top 43)) (by decide +kernel)) (aY (pv 0)) (λs H J=>ax (i:=0) (nT _) rfl (Or.inl rfl) (.inr rfl)) (λs H J=>aP) (λs H J=>dG (aa aW (aa (pv 0) af))))) af))),?_⟩;refine⟨_,rfl,a,rfl,⟨_,hq⟩,λM hM=>?_⟩;refine aN (K:=K) (xs:=xs) (λi c W F=>(∃u,W=[u])/\ae H F/\aC K (wo M F) c (((wss.take i).map jA).map aJ)) ab ⟨⟨_,rfl⟩,ae.new hM,.nil⟩ (λi c W F _ _ q=>q.2.1.seq hq) (λi x c W F hx L q=>?_) (λc W F a8 q=>?_)
  ·obtain⟨R,C,d⟩:=q;apply d5 R;clear R;intro u;obtain⟨o,r,hw,rfl,O⟩:=r9 N hx;have hi:=aI hw;have X:=S.row o (TB hw);have ai:c.length<=64:=by rw[d.length,Tt,Tt,TZ];lia
   refine cC ⟨_,rfl,r,rfl,⟨_,C.seq O⟩,λI hI=>?_⟩;have Y:I≠M:=(aw L hI).symm;refine aN (K:=K) (xs:=o.map V.str) (λj B m l=>(∃u,m=[u])/\ae F l/\aC K (tO l) B (((o.take j).map Pt.word).map Pt.dat)) ab ⟨⟨_,rfl⟩,ae.new hI,.nil⟩ (λj B m l _ _ q=>(C.trans q.2.1).seq O) (λj y B m l hy a3 q=>?_) (λB m l a7 q=>?_)
   ·obtain⟨R,v,b⟩:=q;apply d5 R;clear R;intro u;obtain⟨z,f,rfl⟩:=gG hy;have hj:=aI f;have a9:=X.2 z (TB f);have Te:B.length+1<=20:=by rw[b.length,Tt,Tt,TZ];lia
    refine cC ⟨_,rfl,(by show 2<=Zg;decide),λt ht=>?_⟩;have Z:ae l (upd l t (.tup [.str "word",.str z])):=ae.new ht;have pt:ME (upd l t (.tup [.str "word",.str z])) (.ref t) (.word z):=⟨t,rfl,ab⟩;have G:=Z _ _ a3;refine⟨_,G,small (by lia),_,ab,⟨_,rfl⟩,aA hI (v.trans Z),?_⟩;have et:(o.take (j+1)).map Pt.word=(o.take j).map Pt.word++[.word z]:=by rw[T4,f];simp
    rw[et,TK];have tt:=Lr (ys:=B++[.ref t]) G;exact(b.same ((Od Z).trans tt)).append (.cons ((pt.den a9).same tt) .nil)
   ·obtain⟨_,v,b⟩:=q;rw[Tt,TY (Tw _)]at b;have U:=v _ _ L;refine⟨_,U,small (by lia),_,ab,⟨_,rfl⟩,aA hM (C.trans v),?_⟩;rw[Bx,T4,hw];simp only[Option.toList,TK,TX,U0];refine(d.same (iK v)).append (.cons (.lst (xs:=B) (.of (Zp Y a7)) (b.same (Ox U))) .nil)
  ·obtain⟨_,C,d⟩:=q;rw[a5,TY (Tw _)]at d;refine⟨M,c,wss.map jA,n,rfl,.of a8,d.same bA,λe=>S.ne (UD.mp e),by rw[Tt];lia,λ_ a6=>?_,λD R0 l hD v a0 b=>?_⟩
   ·obtain⟨o,a4,rfl⟩:=Tv.mp a6;have X:=S.row o a4;refine⟨⟨by unfold jA;rw[Tt];lia,λp hp=>?_⟩,by unfold jA;rw[Tt];exact X.1⟩;obtain⟨z,f,rfl⟩:=Tv.mp hp;exact(X.2 z f).ok
   ·exact k D R0 l (C.free hD) (C.trans v) a0 (b.same (cW C.ll))
def ku (K:Wz) (P:Za):Sp:=λvs H Q _=>∃(a t:Za) (zs:WF) (s l:Int),vs=[.ref a,.ref t]/\Rd H a (.lst (zs.map V.str))/\zs.length<64/\(∀z∈zs,∃ws,fP 12 z ws)/\SqT K H t [.int s,.int l]/\bP P H /\
 ∀(D:Za) (ms:WF) (acc:WD) (H':Hp) (ps:WB),ms.Perm (eU [] zs)->UpS ms->H D=none->ae (wo P H) H'->bP P H'->H' D=some (.lst acc)->ps.Perm (gth s l (ms.map λz=>Y6 z " "))->yl ps->pG ps->ps.length<64->F4 H H' acc->(∀x∈acc,x ≠ .ref D)->aC K (lim H H') acc (ps.map aJ)->Q (.ref D) H'
theorem By {ms:WF}{z:Str}{i:Nat} (h:ms[i]? = some z):(ms.take (i+1)).map (λz=>Y6 z " ")=(ms.take i).map (λz=>Y6 z " ")++[Y6 z " "]:=by
 rw[T4,h];simp
theorem iI:aE ["lines","sieve","rows","patterns","group"] ["lines","sieve"] (ag (top 44)):=by refine⟨rfl,rfl,rfl,?_,rfl,?_,?_⟩<;>decide +kernel
theorem rA (T:Tx K mg A):ay P w K mg base CX0 20 A.kH A.j5 ["lines","sieve"] (ku K A.au):=by
 have qf:ay P w K mg base CX0 19 _ _ _ _:=OF (uA T);have p8:ay P w K mg base CX0 19 _ _ _ _:=OF (uK T);have g6:ay P w K mg base CX0 19 _ _ _ _:=OF (lU T);have nQ:ay P w K mg base CX0 19 _ _ _ _:=OF (mW T);have uh:ay P w K mg base CX0 19 _ _ _ _:=OF (DY T);refine T.gathered.fn.ok iI (λvs H Q E h=>?_) (λ_ _ _ s H vs Q E hr h=>?_)
 ·obtain⟨a,t,zs,s,l,rfl,_⟩:=h;rfl
 ·obtain⟨a,t,zs,O,l,rfl,dh,_,cm,dg,bz,k⟩:=h;refine⟨_,aj (mD (i:=2) (N':=["line"]) (n:=1) (fi:=[]) (g:=aX 0) iI.nd rfl (Or.inl rfl) rfl (bj (ag (top 44)) ["lines","sieve","rows","patterns","group"] (by decide +kernel)) (aY (xT (pU rfl hr) rfl (by rfl) T.js mj (by rfl) T.HJ BG (aa (pv 0) af))) (λs H fp=>ax (i:=0) (nT _) rfl (Or.inl rfl) (.inr rfl)) (λs H fp=>aP) (λs H fp=>ar g6 hr (by rfl) T.words_of.mg T.words_of.fn.kp T.words_of.bd .nil aB (aa (pv 0) af)))
   (aj (bq (i:=3) iI.nd rfl (Or.inl rfl) (bD af))
   (aj (ji YD rfl (aY (ar qf hr (by rfl) T.jU.mg T.jU.fn.kp T.jU.bd .nil aB (aa (pv 2) (aa (ba (N':=["words"]) (n:=1) (fi:=[]) (g:=aX 0) rfl (bj (ag (top 44)) ["lines","sieve","rows","patterns","group"] (by decide +kernel)) (aY (pv 2)) (λs H fp=>ax (i:=0) (nT _) rfl (Or.inl rfl) (.inr rfl)) (λs H fp=>aP) (λs H fp=>aK (r:=dC K) be (by rfl) T.cJ Yb (aa (pv 0) af))) af)))) (ax (i:=4) iI.nd rfl (Or.inl rfl)) (ak (cN (fu Yc PySem.F.slot_list_extend PySem.F.type_list_extend wC (pv 3) (aa (ba (N':=["smaller"]) (n:=1) (fi:=[]) (g:=aX 0) rfl (bj (ag (top 44)) ["lines","sieve","rows","patterns","group"] (by decide +kernel)) (aY (ar uh hr (by rfl) T.parted.mg T.parted.fn.kp T.parted.bd .nil aB (aa (pv 4) (aa (pv 1) af)))) (λs H fp=>ax (i:=0) (nT _) rfl (Or.inl rfl) (.inr rfl)) (λs H fp=>aP) (λs H fp=>ar nQ hr (by rfl) T.dU.mg T.dU.fn.kp T.dU.bd .nil aB (aa (pv 0) af))) af)))))
   (ak (aD (ar p8 hr (by rfl) T.ordered.mg T.ordered.fn.kp T.ordered.bd .nil aB (aa (pv 3) af)))))),?_⟩
  have di:=tV zs;refine⟨_,rfl,a,zs,rfl,dh,by lia,by lia,λS ms hS bu ck=>⟨S,rfl,⟨_,.of ab⟩,λR hR=>?_⟩⟩;have dj:=bu.length_eq;have bt:∀z∈ms,∃ws,fP 12 z ws:=λz hz=>cm z ((iZ.mp (bu.mem_iff.mp hz)).resolve_left (by simp));obtain⟨tb,br⟩:=aR bz;have sS:ae H (upd H S (.lst (ms.map V.str))):=ae.new hS;have bc:(upd H S (.lst (ms.map V.str))) S=some (.lst (ms.map V.str)):=ab;generalize upd H S (.lst (ms.map V.str))=H1 at sS bc hR ⊢;refine aN (K:=K) (xs:=ms.map V.str) (λi m B Y=>(∃u,B=[u])/\ae H1 Y/\aC K (wo R Y) m (((ms.take i).map λz=>Y6 z " ").map wsD)) ab ⟨⟨_,rfl⟩,ae.new hR,.nil⟩ (λi m B Y _ _ q=>.of (q.2.1 _ _ bc)) (λi x m B Y hx bk q=>?_) (λm B Y c2 q=>?_)
  ·obtain⟨U,s2,a0⟩:=q;apply d5 U;clear U;intro u;obtain⟨z,hz,rfl⟩:=gG hx;have hi:=aI hz;obtain⟨ws,f⟩:=bt z (TB hz);have c1:=f.ok (by decide);have bl:m.length<=64:=by rw[a0.length,Tt,Tt,TZ];lia
   refine cC ⟨_,rfl,z,rfl,TN c1.2 (by decide),λL hL=>?_⟩;have sL:ae Y (upd Y L (.lst ((Y6 z " ").map V.str))):=ae.new hL;have d7:L≠R:=(aw bk hL).symm;refine⟨_,sL _ _ bk,small (by lia),_,ab,⟨_,rfl⟩,aA hR (s2.trans sL),?_⟩;rw[Bx,By hz,TK];refine(a0.same (iK sL)).append (.cons (.lst (xs:=(Y6 z " ").map V.str) (.of (Zp d7 ab)) ?_) .nil);rw[f.split];exact jy λw hw=>(f.wd w hw).ok
  ·obtain⟨_,s2,a0⟩:=q;rw[Tt,TY (Tw _)]at a0;have a8:aC K Y m ((ms.map λz=>Y6 z " ").map wsD):=a0.same bA;have a4:kG (ms.map λz=>Y6 z " "):=⟨by rw[Tt];lia,λws cn=>by
    obtain⟨z,hz,rfl⟩:=Tv.mp cn;obtain⟨ws,f⟩:=bt z hz;rw[f.split];exact⟨f.pos,f.le,λw hw=>⟨(f.wd w hw).word,TN (f.wd w hw).len (by decide),(f.wd w hw).ok⟩⟩⟩
   have cp:(ms.map λz=>Y6 z " ").length=ms.length:=Tt _;have kk:=k;generalize hrs:(ms.map λz=>Y6 z " ")=rss at a8 a4 cp;have QT:m.length=rss.length:=by rw[a8.length,Tt]
   have b1:=sS.trans s2;refine⟨T2 _,λG hG=>?_⟩;have sG:ae Y (upd Y G (.lst [])):=ae.new hG;have az:(upd Y G (.lst [])) G=some (.lst []):=ab;have df:=b1.trans sG;have ai:=sG _ _ c2;generalize upd Y G (.lst [])=H3 at sG az df ai ⊢;refine⟨_,rfl,_,rfl,R,rfl,⟨_,.of ai⟩,λKL b7=>?_⟩;refine aN (K:=K) (xs:=m) (λi W B H4=>(∃u,B=[u])/\ae H3 H4/\W=((rss.take i).map λws=>(Sum.inl (ws.length:Int):Key)).map kV) ab ⟨⟨_,rfl⟩,ae.new b7,rfl⟩ (λi W B H4 _ _ q=>.of (q.2.1 _ _ ai)) (λi x W B H4 hx c8 q=>?_) (λW B H4 bg q=>?_)
   ·obtain⟨U,s4,rfl⟩:=q;apply d5 U;clear U;intro u;have hi:=aI hx;obtain⟨ws,r,hw,rfl,cy⟩:=r9 a8 hx;refine cC ⟨_,rfl,r,_,rfl,.inl ((sG.trans s4).seq cy),_,c8,small (by rw[Tt,Tt,TZ];lia),_,ab,⟨_,rfl⟩,aA b7 s4,?_⟩;rw[T4,hw];simp[kV]
   ·obtain⟨_,s4,rfl⟩:=q;rw[QT,TY (Tw _)]at bg;refine⟨R,KL,m,_,rfl,.of (s4 _ _ ai),.of bg,by rw[Tt];lia,by lia,λD as H5 hD s5 a9 _ gy=>⟨D,rfl,⟨_,.of a9⟩,?_⟩⟩;have bx:ae Y H5:=sG.trans (s4.trans s5);have a6:ae H H5:=b1.trans bx;have a7:=(s4.trans s5) _ _ az;have ct:bP A.au H5:=aF bz a6;have HP:=a6 _ _ br;have b3:G≠A.au:=nn a7 HP
    have b4:H G=none:=b1.free hG;have cc:D≠G:=λe=>by rw[e,s4 _ _ az]at hD;cases hD
    have cw:D≠A.au:=nn a9 HP
    have cq:aC K (wo G H5) m (rss.map wsD):=a8.same (fU hG bx);have F2:=Dv (vX cq) (rss.map λws=>(Sum.inl (ws.length:Int):Key));have bw:(wo G H5) A.au=some (.tbl tb):=by rw[av b3.symm];exact HP
    refine k8 (K:=K) (xs:=as.map V.ref) (λi B H6=>(∃v,B=[some (.ref a),some (.ref t),some (.ref R),some (.ref G),v])/\ae (wo A.au (wo G H5)) H6/\bP A.au H6/\∃uJ:WD,H6 G=some (.lst uJ)/\aC K (wo G H6) uJ ((((byL rss).take i).flatMap (x8 O l)).map aJ))
     ⟨⟨_,rfl⟩,bA.trans bA,ct,[],a7,.nil⟩ (λi B H6 _ q=>.of (q.2.1 _ _ (Zq cw cc a9))) (λi x B H6 hx q=>?_) (λB H6 q=>?_)
    ·obtain⟨U,s6,a5,uJ,ah,X⟩:=q;apply d5 U;clear U;intro v;rw[TF]at hx;obtain⟨c,d1,rfl⟩:∃c,as[i]? = some c/\x = .ref c:=by
      cases e:as[i]? with
      | none=>rw[e]at hx;cases hx
      | some c=>rw[e]at hx;cases hx;exact⟨c,rfl,rfl⟩
     obtain⟨g,c6,b0⟩:=gy.at d1;obtain⟨I,bi,bh⟩:=F2.at c6;have b6:I∈byL rss:=TB bi;have F0:=(BH b6).1;have Mf:g≠[]:=λe=>by
      have:=bh.len;rw[e]at this;exact F0 (U7.mp this.symm)
     have d0:c≠G:=λz=>by rw[z,a7]at b0;cases b0;exact Mf rfl
     have c3:Den K (wo A.au (wo G H5)) (.ref c) (gD I):=C0 bw (.lst (.of (Zp d0 b0)) (wA bh));have J:=qK a4 b6;have QJ:SqT K H6 t [.int O,.int l]:=s6.cU (oJ bw ((fU b4 a6).cU dg));refine⟨_,rfl,.inl ⟨rfl,_,.of ah⟩,_,rfl,_,rfl,wo A.au (wo G H5),.ref c,gn I,I,t,O,l,rfl,s6,cu,c3,J,QJ,a5,by have:=K7 (gn I) I;have:=J.EF;lia,λD2 ys C H7 _ s7 b9 IQ _ d3 _ _ b8=>⟨D2,rfl,⟨_,.of IQ⟩,λM hM=>?_⟩⟩;obtain⟨bf,EC⟩:=aR a5;obtain⟨_,_⟩:=aR b9;have b2:H7 G=some (.lst uJ):=yr s7 EC ah λ_ e=>by cases e
     have cs:M≠G:=(aw b2 hM).symm;have de:ys.length=(prt (gn I) O l 13 I).length:=by rw[b8.length,Tt]
     have d4:=pA (n:=gn I) (s:=O) (l:=l) (N:=13) F0;have cz:=J.le;have c7:(upd H7 M (.lst [])) M=some (.lst []):=ab;refine aN (K:=K) (xs:=ys) (λj W B H8=>(∃u,B=[u])/\ae H7 H8/\aC K (lim (upd H7 M (.lst [])) H8) W ((((prt (gn I) O l 13 I).take j).map λg'=>bB (g'.map jA) (gn I)).map aJ)) ab ⟨⟨_,rfl⟩,ae.new hM,.nil⟩ (λj W B H8 _ _ q=>.of (q.2.1 _ _ IQ)) (λj y W B H8 hy aq q=>?_) (λW B H8 d2 q=>?_)
     ·obtain⟨U,s8,Z⟩:=q;apply d5 U;clear U;intro u;have hj:=aI hy;obtain⟨d,a3,cj⟩:=b8.get hy;rw[TF]at a3;obtain⟨g',c0,rfl⟩:∃g',(prt (gn I) O l 13 I)[j]? = some g'/\d=gD g':=by
       cases e:(prt (gn I) O l 13 I)[j]? with
       | none=>rw[e]at a3;cases a3
       | some g'=>rw[e]at a3;cases a3;exact⟨g',rfl,rfl⟩
      have bl:W.length<=64:=by rw[Z.length,Tt,Tt,TZ];lia
      refine cC ⟨_,rfl,y,gn I,g',rfl,cj.same (d3.trans s8),kq J g' (TB c0),λDp QN H9 bo s9 RJ da=>?_⟩;have dd:=s9 _ _ aq;have Ro:Dp≠M:=(aw aq bo).symm;refine⟨_,dd,small (by lia),_,ab,⟨_,rfl⟩,aA hM (s8.trans s9),?_⟩;rw[mI c7,T4,c0];simp only[Option.toList,TK,TX,U0];have cg:LL (upd H7 M (.lst [])) H8:=λb zs e=>by
       by_cases hb:b=M
       ·exact⟨W,by rw[hb];exact aq⟩
       ·rw[ao hb]at e;exact⟨zs,s8 _ _ e⟩
      have c4:(upd H7 M (.lst [])) Dp=none:=by rw[ao Ro];exact s8.free bo
      exact(Z.same (bQ s9)).append (.cons (.lst (xs:=QN) (.of ((cf c4).trans RJ)) (da.same (cW cg))) .nil)
     ·obtain⟨_,s8,Z⟩:=q;rw[de,TY (Tw _)]at Z;have b5:=s8 _ _ b2;have Tn:uJ.length<=rss.length:=by rw[X.length,Tt];exact zC O l rss i
      have bl:W.length<=64:=by rw[Z.length,Tt,Tt];lia
      have RP:=a4.1;refine⟨G,M,uJ,W,rfl,rfl,b5,d2,TN (show _<=1000 by lia) (by decide),?_⟩;have cx:(wo A.au (wo G H5)) G=none:=by rw[av b3,cu]
      refine⟨⟨_,rfl⟩,aA cx ((bI s6 s7).trans s8),jS (aF b9 s8) b5,uJ++W,ab,?_⟩;rw[Bx,T4,show(byL rss)[i]? = some I from bi];simp only[Option.toList,List.flatMap_append,TK,UY,List.flatMap_nil,Uu];have d9:(wo G H6) A.au=some (.tbl bf):=by rw[av b3.symm];exact EC
      have sa:ae (wo A.au (wo G H6)) (wo G H8):=λb o e=>by
       obtain⟨h1,e⟩:=aZ e;obtain⟨h2,e⟩:=aZ e;rw[av h2];exact s8 _ _ (s7 _ _ (Zp h1 e))
      have d8:(upd H7 M (.lst [])) G=some (.lst uJ):=by rw[ao cs.symm];exact b2
      exact((zl d9 X).same sa).append (Z.same (Fc d8))
    ·obtain⟨U,s6,a5,uJ,ah,X⟩:=q;apply d5 U;clear U;intro v;have c9:as.length=(byL rss).length:=by rw[gy.len,F2.len];rfl
     rw[Tt,c9,TY (Tw _)]at X;have cz:(gth O l rss).length<=rss.length:=by
      have:=zC O l rss (byL rss).length
      rwa [TY (Tw _)]at this
     have d4:uJ.length=(gth O l rss).length:=by rw[X.length,Tt];rfl
     have RP:=a4.1;have J:pG (gth O l rss):=L9 a4;have ap:ae (wo A.au H) H6:=λb o e=>by
      obtain⟨h1,e⟩:=aZ e;have h2:b≠G:=nn e b4
      exact s6 b o (Zq h1 h2 (a6 b o e))
     refine⟨_,rfl,G,uJ,gth O l rss,rfl,.of ah,by lia,X.same bA,λps bp=>⟨TN (J ps bp).2.2 (by decide),λp hp=>((J ps bp).1 p hp).ok⟩,λD9 RW H9 ps dc s9 OW BD iF fr c5 d6=>?_⟩;obtain⟨bf,EC⟩:=aR a5;have cv:=s9 _ _ EC;have bb:∀{b:Za}{zs:WD},H6 b=none->H9 b=some (.lst zs)->H b=none:=λ{b zs} e1 e2=>by
      have h1:b≠A.au:=nn e2 cv
      have:=ap.free e1
      rwa [av h1]at this
     refine k D9 ms RW H9 ps bu ck (bb dc OW) (ap.trans s9) (aF a5 s9) OW (by rw[hrs];exact BD) iF (λq hq=>J q (BD.mem_iff.mp hq)) (by rw[BD.length_eq];lia) (λx hx=>?_) c5 (d6.same (cW λb zs e=>?_))
     ·obtain⟨t',ys,e1,e2,e3,e4⟩:=fr x hx;exact⟨t',ys,e1,bb e2 e3,e3,e4⟩
     ·have h1:b≠A.au:=nn e br
      exact⟨zs,ap _ _ (Zp h1 e)⟩
def ue (K:Wz):Sp:=λvs H Q _=>∃z:Str,vs=[.str z]/\LOk z/\Y5 z=true/\(Y6 z " ").length<=12/\(∀w∈Y6 z " ",cS w=true)/\∀H',ae H H'->Q (.bl true) H'
theorem Jp (n:Nat):(List.replicate n true).all id=true:=by
 rw[T6];intro x hx;exact(List.mem_replicate.mp hx).2
theorem uQ:aE ["thing","words"] ["thing"] (ag (top 18)):=by refine⟨rfl,rfl,rfl,?_,rfl,?_,?_⟩<;>decide +kernel
theorem BC (T:Tx K mg A):ay P w K mg base CX0 3 A.qr A.qe ["thing"] (ue K):=by
 have R:ay P w K mg base CX0 2 _ _ _ _:=OF (lU T);have L:ay P w K mg base CX0 2 _ _ _ _:=OF (t8 T);refine T.rX.fn.ok uQ (λO H Q E h=>?_) (λ_ _ _ s H O Q E G h=>?_)
 ·obtain⟨z,rfl,_⟩:=h;rfl
 ·obtain⟨z,rfl,I,m,N,C,k⟩:=h;refine⟨_,aj (bF (lu (eM (aK (r:=Lx K) Aw (by rfl) T.oZ m9 (aa (pv 0) (aa (CM (v:=.ty "str") (by rfl) T.C8 Hq rfl) af))))) (ak (aD kN)) aT)
   (aj (bq (i:=1) uQ.nd rfl (Or.inl rfl) (ar R G (by rfl) T.words_of.mg T.words_of.fn.kp T.words_of.bd .nil aB (aa (pv 0) af)))
   (ak (aD (tw (eF Dw (aK (r:=dC K) be (by rfl) T.cJ Yb (aa (pv 1) af)) (jK (v:=.int 12) (by rfl) (Z6 T.xl) ⟨_,rfl⟩) (bg _)) (p7 (aK (r:=FO K) (pE rfl) (by rfl) T.Ct xR (aa (ba (N':=["word"]) (n:=1) (fi:=[]) (g:=aX 0) rfl (bj (ag (top 18)) ["thing","words"] (by decide +kernel)) (aY (pv 1)) (λs H J=>ax (i:=0) (nT _) rfl (Or.inl rfl) (.inr rfl)) (λs H J=>aP) (λs H J=>ar L G (by rfl) T.ke.mg T.ke.fn.kp T.ke.bd .nil aB (aa (pv 0) af))) af))))))),?_⟩
  refine⟨_,rfl,_,"str",_,true,rfl,.str z,by rfl,_,rfl,bU ?_⟩;refine⟨_,rfl,z,rfl,I,λl q=>?_⟩;have B:ae H (upd H l (.lst ((Y6 z " ").map V.str))):=ae.new q;have d:=Au (y:= " ") m;generalize Y6 z " " = ws at B N C d;have f:SqL K (upd H l (.lst (ws.map V.str))) l (ws.map V.str):=.of ab;refine⟨_,rfl,l,_,rfl,.inl f,_,_,rfl,rfl,_,rfl,?_⟩;rw[Tt,Zk (show(ws.length:Int)<=12 by lia)];refine fc ?_;refine⟨_,rfl,l,rfl,⟨_,f⟩,λD t=>?_⟩;generalize upd H l (.lst (ws.map V.str))=H1 at B f t;refine aN (K:=K) (xs:=ws.map V.str) (λi a j c=>(∃u,j=[u])/\ae H1 c/\a=(List.replicate i true).map V.bl) ab ⟨⟨_,rfl⟩,ae.new t,rfl⟩ (λi a j c _ _ p=>p.2.1.seq f) (λi x a j c M b p=>?_) (λa j c b p=>?_)
  ·obtain⟨⟨u,rfl⟩,o,rfl⟩:=p;obtain⟨w,e,rfl⟩:=gG M;have S:=aI e;have F:=TB e;refine cC ⟨_,rfl,w,rfl,TN (d w F).2 I,_,b,small (by rw[Tt,List.length_replicate];lia),_,ab,⟨_,rfl⟩,aA t o,?_⟩;rw[C w F,List.replicate_succ',TK];rfl
  ·obtain⟨_,o,rfl⟩:=p;refine⟨D,_,rfl,.of b,?_⟩;rw[Jp];exact k c (B.trans o)
def je (K:Wz) (A:Ad):Sp:=λvs H Q _=>∃(x t r b dx:Za) (rv bv:WD) (rs:List (Int×Str)) (bs:WB) (s l:Int),vs=[.ref x,.ref t,.ref r,.ref b]/\H x=some (.ins A.aH dx [])/\SqT K H t [.int s,.int l]/\H r=some (.lst rv)/\aC K H rv (rs.map zf)/\H b=some (.lst bv)/\aC K H bv (bs.map aJ)/\rs.length<64/\(∀q∈rs,∃ws,fP 12 q.2 ws)/\bs.length<64/\pG bs/\bP A.au H /\
 ∀(H':Hp) (f fl:Za) (fv lv:WD) (fnd:WB) (fls:List (Option WC)),H f=none->H fl=none->ae (wo x (wo A.au H)) H'->bP A.au H'->H' x=some (.ins A.aH dx [("rows",.ref r),("by_hand",.ref b),("found",.ref f),("falls",.ref fl)]) ->
  H' f=some (.lst fv)->aC K (lim H H') fv (fnd.map aJ)->H' fl=some (.lst lv)->aC K (lim H H') lv (fls.map oP)->iT s l (l8 bs (rs.map (·.2))) fnd->ql bs fnd (rs.map (·.2)) fls->Q .non H'
theorem Hm {bs:WB}{zs:WF}{i:Nat}{z:Str} (h:zs[i]? = some z):l8 bs (zs.take (i+1))=l8 bs (zs.take i)++if (bs.filter (cX z)).isEmpty then[z]else[]:=by
 unfold l8;rw[T4,h,UJ]
 congr 1
 show List.filter _ [z]=_;rw[U8,List.filter_nil]
theorem CW {bs:WB}{zs:WF}:(l8 bs zs).length<=zs.length:=UG _ _
theorem jg:aE ["self","sieve","rows","by_hand","lines","first"] ["self","sieve","rows","by_hand"] (ag (mIn 56 0)):=by refine⟨rfl,rfl,rfl,?_,rfl,?_,?_⟩<;>decide +kernel
theorem nu (T:Tx K mg A):ay P w K mg base CX0 21 A.e9 A.gU ["self","sieve","rows","by_hand"] (je K A):=by
 have nY:ay P w K mg base CX0 20 _ _ _ _:=OF (rA T);have nq:ay P w K mg base CX0 20 _ _ _ _:=OF (uG T);refine T.nL.fn.ok jg (λvs H Q E h=>?_) (λ_ _ _ s H vs Q E hr h=>?_)
 ·obtain⟨x,t,r,b,M,rv,bv,rs,bs,s0,l0,rfl,_⟩:=h;rfl
 ·obtain⟨x,t,r,b,M,rv,bv,rs,bs,s0,l0,rfl,hx,dt,bx,cq,hb,c1,d6,cx,_,c8,cs,k⟩:=h;have RD:rv.length=rs.length:=by rw[cq.length,Tt]
  have Tc:bv.length=bs.length:=by rw[c1.length,Tt]
  have dr:∀p∈bs,POk p:=λp hp=>⟨TN (c8 p hp).2.2 (by decide),λq hq=>((c8 p hp).1 q hq).ok⟩;obtain⟨_,a8⟩:=aR cs;have d2:x≠A.au:=λe=>by rw[<-e,hx]at a8;cases a8
  refine⟨_,aj (mD (i:=4) (N':=["moment","line"]) (n:=2) (fi:=[]) (g:=uP K 2 (dh (aX 0) (dh (aX 1) sY))) jg.nd rfl (Or.inl rfl) rfl (bj (ag (mIn 56 0)) ["self","sieve","rows","by_hand","lines","first"] (by decide +kernel)) (aY (pv 2)) (λs H fp=>eN rfl (aL (ax (i:=0) (show(["moment","line"]:WF).Nodup by decide +kernel) rfl (Or.inl rfl) (.inr rfl)) (aL (ax (i:=1) (show(["moment","line"]:WF).Nodup by decide +kernel) rfl (Or.inl rfl) (.inr rfl)) cL))) (λs H fp=>aP) (λs H fp=>pv 1))
   (aj (mD (i:=5) (N':=["line","by_hand"]) (n:=1) (fi:=[3]) (g:=aX 0) jg.nd rfl (Or.inl rfl) rfl (bj (ag (mIn 56 0)) ["self","sieve","rows","by_hand","lines","first"] (by decide +kernel)) (aY (pv 4)) (λs H fp=>ax (i:=0) (show(["line","by_hand"]:WF).Nodup by decide +kernel) rfl (Or.inl rfl) (.inr rfl)) (λs H fp=>aP) (λs H fp=>ar nq hr (by rfl) T.dA.mg T.dA.fn.kp T.dA.bd .nil aB (aa (pv 0) (aa (pv 1) af))))
   (aj (kP T.bL T.ee (pv 0) (pv 2))
   (aj (kP T.bL T.dQ (pv 0) (pv 3))
   (aj (kP T.bL T.g8 (pv 0) (ar nY hr (by rfl) T.gathered.mg T.gathered.fn.kp T.gathered.bd .nil aB (aa (ba (N':=["line","fall"]) (n:=2) (fi:=[]) (g:=uP K 2 (dh (aX 0) (dh (aX 1) sY))) rfl (bj (ag (mIn 56 0)) ["self","sieve","rows","by_hand","lines","first"] (by decide +kernel)) (tE (by rfl) T.v3 (aa (pv 4) (aa (pv 5) af))) (λs H fp=>eN rfl (aL (ax (i:=0) (show(["line","fall"]:WF).Nodup by decide +kernel) rfl (Or.inl rfl) (.inr rfl)) (aL (ax (i:=1) (show(["line","fall"]:WF).Nodup by decide +kernel) rfl (Or.inl rfl) (.inr rfl)) cL))) (λs H fp=>jm (bi BN (pv 1) BJ (bg _))) (λs H fp=>pv 0)) (aa (pv 1) af))))
   (ak (kP T.bL T.dD (pv 0) (ba (N':=["line","fall","self"]) (n:=2) (fi:=[0]) (g:=uP K 2 (dh (aX 0) (dh (aX 1) sY))) rfl (bj (ag (mIn 56 0)) ["self","sieve","rows","by_hand","lines","first"] (by decide +kernel)) (tE (by rfl) T.v3 (aa (pv 4) (aa (pv 5) af))) (λs H fp=>eN rfl (aL (ax (i:=0) (show(["line","fall","self"]:WF).Nodup by decide +kernel) rfl (Or.inl rfl) (.inr rfl)) (aL (ax (i:=1) (show(["line","fall","self"]:WF).Nodup by decide +kernel) rfl (Or.inl rfl) (.inr rfl)) cL))) (λs H fp=>aP) (λs H fp=>sI (bi BN (pv 1) BJ (bg _)) (ar nq hr (by rfl) T.dA.mg T.dA.fn.kp T.dA.bd .nil aB (aa (pv 0) (aa (bE T.bL T.g8 (pv 2)) af))) (pv 1))))))))),?_⟩
  refine⟨_,rfl,r,rfl,⟨_,.of bx⟩,λL hL=>?_⟩;refine aN (K:=K) (xs:=rv) (λi a J H1=>(∃u v,J=[u,v])/\ae H H1/\a=((rs.take i).map (·.2)).map V.str) ab ⟨⟨_,_,rfl⟩,ae.new hL,rfl⟩ (λi a J H1 _ _ q=>.of (q.2.1 _ _ bx)) (λi y a J H1 hy d0 q=>?_) (λa J H1 U q=>?_)
  ·obtain⟨q0,s1,rfl⟩:=q;apply rO q0;clear q0;intro u v;obtain⟨p,_,hp,rfl,dm,_⟩:=zP cq hy;have hi:=aI hp;refine BO (s1.cU dm) ⟨_,rfl,_,d0,small (by simp only[Tt,TZ];lia),_,ab,⟨_,_,rfl⟩,aA hL s1,?_⟩;rw[T4,hp];simp
  obtain⟨_,s1,rfl⟩:=q;rw[RD,TY (Tw _)]at U;have aw:∀z∈rs.map (·.2),∃ws,fP 12 z ws:=λz I=>by
   obtain⟨q,hq,rfl⟩:=Tv.mp I;exact cx q hq
  have cu:(rs.map (·.2)).length<64:=by rw[Tt];exact d6
  generalize rs.map (·.2)=zs at U aw cu k
  have c3:∀z∈zs,LOk z/\Y5 z=true:=λz I=>by
   obtain⟨ws,hw⟩:=aw z I;have:=hw.ok (by decide);exact⟨TN this.2 (by decide),this.1⟩
  refine⟨_,rfl,L,rfl,⟨_,.of U⟩,λF hF=>?_⟩;refine aN (K:=K) (xs:=zs.map V.str) (λi a J X=>(∃u,J=[u,some (.ref b)])/\ae H1 X/\∃os:List (Option WC),aC K (wo F (lim H X)) a (os.map oP)/\os.length=i/\∀(j:Nat) z o,zs[j]? = some z->os[j]? = some o->DN bs z o) ab ⟨⟨_,rfl⟩,ae.new hF,[],.nil,rfl,λj z o _ e=>by cases e⟩ (λi a J X _ _ q=>.of (q.2.1 _ _ U)) (λi y a J X hy bt q=>?_) (λfo J X a5 q=>?_)
  ·obtain⟨q0,s2,os,dn,Z,a9⟩:=q;apply d5 q0;clear q0;intro u;obtain⟨z,I,rfl⟩:=gG hy;have a4:=c3 z (TB I);have hi:=aI I;have m:=s1.trans s2;refine cC ⟨_,rfl,_,rfl,z,b,bv,bs,rfl,.of (m _ _ hb),by lia,c1.same m,dr,a4.1,a4.2,λrr H3 s3 hf=>?_⟩;obtain⟨o,ho,c9⟩:=AB hf;have b3:a.length=i:=by rw[dn.length,Tt];exact Z
   refine⟨_,s3 _ _ bt,small (by lia),_,ab,⟨_,rfl⟩,aA hF (s2.trans s3),os++[o],?_,by rw[TJ,Z];rfl,λj z' o' S l=>?_⟩
   ·rw[rS,TK];exact(dn.same (iK (bQ s3))).append (.cons (c9.same (Fj m bt)) .nil)
   ·by_cases hj:j<os.length
    ·rw[Ui hj]at l;exact a9 j z' o' S l
    ·have b8:=aI l;rw[TJ,T1]at b8;have ap:j=i:=by lia
     rw[Uy (by lia),show j - os.length=0 by lia]at l;cases l;rw[ap,I]at S;cases S;exact ho
  obtain⟨_,s2,os,cm,Z,a9⟩:=q;rw[Tt]at Z;have dF:aC K (lim H X) fo (os.map oP):=cm.same bA;have cc:fo.length=zs.length:=by rw[dF.length,Tt];exact Z
  have m:=s1.trans s2;have a7:=m _ _ hx;have b5:=s2 _ _ U;have cf:=aF cs m;clear cm s1 s2 U;refine⟨_,rfl,_,rfl,x,M,_,rfl,a7,by decide,?_⟩;refine eG cf a7 λH3 a3 f3 c0=>?_;replace a3:H3 x=some (.ins A.aH M [("rows",.ref r)]):=a3;refine⟨_,rfl,_,rfl,x,M,_,rfl,a3,by simp,?_⟩;refine eG c0 a3 λH4 b2 f0 bu=>?_;replace b2:H4 x=some (.ins A.aH M [("rows",.ref r),("by_hand",.ref b)]):=b2;have f4:∀c,c≠x->H4 c=X c:=λc h=>(f0 c h).trans (f3 c h);clear c0 a3 f3;have c4:L≠x:=nn hL hx
  have br:F≠x:=nn a5 a7
  have cg:H4 L=some (.lst (zs.map V.str)):=by rw[f4 _ c4];exact b5
  have bk:H4 F=some (.lst fo):=by rw[f4 _ br];exact a5
  have OC:SqT K H4 t [.int s0,.int l0]:=by
   have f:=r6 hx dt;exact(show ae (wo x H) H4 fromλc o e=>by
    obtain⟨B,e⟩:=aZ e;rw[f4 c B];exact m _ _ e).cU f
  have cj:∀(i:Nat) z y,zs[i]? = some z->fo[i]? = some y->∃o,DN bs z o/\os[i]? = some o/\decide (y=V.non)=o.isNone:=λi z y I hy=>by
   obtain⟨o,ho,hd⟩:=si dF hy;exact⟨o,a9 i z o I ho,ho,Bu hd⟩
  refine⟨_,rfl,_,rfl,L,F,rfl,⟨_,.of cg⟩,⟨_,.of bk⟩,λGL c6=>?_⟩;refine ul (K:=K) (xs:=zs.map V.str) (ys:=fo) (λi a J H5=>(∃u v,J=[u,v])/\ae H4 H5/\a=(l8 bs (zs.take i)).map V.str) ab ⟨⟨_,_,rfl⟩,ae.new c6,rfl⟩ (λi a J H5 _ q=>⟨.of (q.2.1 _ _ cg),.of (q.2.1 _ _ bk)⟩) (λi xx y a J H5 tt bb hy R q az=>?_) (λa J H5 bh q=>?_)
  ·obtain⟨q0,s5,rfl⟩:=q;apply rO q0;clear q0;intro u v;obtain⟨z,I,rfl⟩:=gG bb;obtain⟨o,ho,cb,LY⟩:=cj i z y I hy;have st:ae H5 (upd H5 tt (.tup [.str z,y])):=ae.new az;have hi:=aI I;have b3:=CW (bs:=bs) (zs:=zs.take i);rw[TZ]at b3;refine⟨tt,_,rfl,.of ab,rfl,_,_,rfl,_,_,rfl,rfl,_,rfl,rfl,_,rfl,?_⟩;rw[LY,ho.none];have a6:=Hm (bs:=bs) I;cases he:(bs.filter (cX z)).isEmpty with
   | true=>
    rw[he]at a6;refine fc ⟨_,rfl,_,st _ _ R,small (by rw[Tt];lia),_,ab,⟨_,_,rfl⟩,aA c6 (s5.trans st),?_⟩;rw[a6,TK];rfl
   | false=>
    rw[he]at a6;refine bU ⟨_,st _ _ R,⟨_,_,rfl⟩,s5.trans st,?_⟩;rw[a6];simp
  obtain⟨_,s5,rfl⟩:=q;rw[Tt,cc,Vm,TY (Tw _)]at bh;have R1:=CW (bs:=bs) (zs:=zs);refine⟨_,rfl,GL,t,l8 bs zs,s0,l0,rfl,.inl bh,by lia,λz I=>aw z (Ud.mp I).1,s5.cU OC,aF bu s5,λD ms Gv H6 ps dk hu hD s6 cp d1 dg d3 b7 Sd _ _ b4=>?_⟩;have qo:iT s0 l0 (l8 bs zs) ps:=⟨⟨ms,dk,hu,dg⟩,d3,b7,Sd⟩;have ao:=s5 _ _ b2;have b9:H6 x=some (.ins A.aH M [("rows",.ref r),("by_hand",.ref b)]):=s6 _ _ (Zp d2 ao);have b6:D≠x:=nn hD ao
  have Tg:Gv.length=ps.length:=by rw[b4.length,Tt]
  refine⟨_,rfl,x,M,_,rfl,b9,by simp,?_⟩;refine eG cp b9 λH7 O f7 bp=>?_;replace O:H7 x=some (.ins A.aH M [("rows",.ref r),("by_hand",.ref b),("found",.ref D)]):=O;obtain⟨bl,HA⟩:=aR bp;have N:∀c o,c≠x->c≠A.au->X c=some o->H7 c=some o:=λc o f B e=>by
   rw[f7 c f];refine s6 _ _ ?_;rw[av B];refine s5 _ _ ?_;rw[f4 c f];exact e
  have du:∀c o,c≠x->c≠A.au->H5 c=some o->H7 c=some o:=λc o f B e=>by
   rw[f7 c f];exact s6 _ _ (Zp B e)
  have aq:∀c o,c≠x->H6 c=some o->H7 c=some o:=λc o f e=>by rw[f7 c f];exact e
  have bf:∀{c:Za}{ys:WD},X c=some (.lst ys)->c≠A.au:=λ{c ys} h e=>by
   obtain⟨q,hq⟩:=aR cf;rw[e,hq]at h;cases h
  have bo:H7 L=some (.lst (zs.map V.str)):=N _ _ c4 (bf b5) b5;have ck:H7 F=some (.lst fo):=N _ _ br (bf a5) a5;have be:H7 D=some (.lst Gv):=aq _ _ b6 d1;have c5:∀d,H x≠some (.lst d):=λd e=>by rw[hx]at e;cases e
  have c2:∀d,H A.au≠some (.lst d):=λd e=>by rw[a8]at e;cases e
  have de:∃C M fs,lim H X x=some (.ins C M fs):=⟨_,_,_,by rw[bw c5];exact a7⟩;have di:∃ps,lim H X A.au=some (.tbl ps):=⟨_,by rw[bw c2];exact m _ _ a8⟩;have bz:∃C M fs,lim H5 H6 x=some (.ins C M fs):=⟨_,_,_,by rw[bw λd e=>by rw[ao]at e;cases e];exact b9⟩;have ct:∃ps,lim H5 H6 A.au=some (.tbl ps):=by
   obtain⟨_,dd⟩:=aR (aF bu s5);obtain⟨q6,dq⟩:=aR cp;exact⟨q6,by rw[bw λd e=>by rw[dd]at e;cases e];exact dq⟩
  have dj:∀c d,(∀ys,H5 c≠some (.lst ys))->c≠x->H c≠some (.lst d):=λc d f B e=>f d (s5 _ _ (by rw[f4 c B];exact m _ _ e));have df:aC K H7 Gv (ps.map aJ):=o6 b4 bz ct λc o f _ _ e=>aq c o f e;have cv:∀p∈ps,POk p:=λp hp=>⟨TN (b7 p hp).2.2 (by decide),λq hq=>((b7 p hp).1 q hq).ok⟩;refine⟨_,rfl,_,rfl,L,F,rfl,⟨_,.of bo⟩,⟨_,.of ck⟩,λG hG=>?_⟩;have d9:∀c o,c≠x->c≠A.au->X c=some o->c≠G:=λc o f B e z=>by rw[<-z,N c o f B e]at hG;cases hG
  refine ul (K:=K) (xs:=zs.map V.str) (ys:=fo) (λi a J H8=>(∃u v,J=[u,v,some (.ref x)])/\ae H7 H8/\∃ls:List (Option WC),aC K (wo G (lim H H8)) a (ls.map oP)/\ls.length=i/\∀(j:Nat) z o,zs[j]? = some z->ls[j]? = some o->k4 bs ps z o) ab ⟨⟨_,_,rfl⟩,ae.new hG,[],.nil,rfl,λj z o _ e=>by cases e⟩ (λi a J H8 _ q=>⟨.of (q.2.1 _ _ bo),.of (q.2.1 _ _ ck)⟩) (λi xx y a J H8 tt bb hy R q az=>?_) (λlv J H8 cy q=>?_)
  ·obtain⟨q0,s8,ls,dn,W,b1⟩:=q;apply rO q0;clear q0;intro u v;obtain⟨z,I,rfl⟩:=gG bb;obtain⟨o,ho,cb,LY⟩:=cj i z y I hy;have st:ae H8 (upd H8 tt (.tup [.str z,y])):=ae.new az;have c7:SqT K (upd H8 tt (.tup [.str z,y])) tt [.str z,y]:=.of ab;have Y:=s8.trans st;generalize upd H8 tt (.tup [.str z,y])=H9 at st c7 Y ⊢;have hi:=aI I;have b3:a.length=i:=by rw[dn.length,Tt];exact W
   have a4:=c3 z (TB I);have b0:=st _ _ R;have bq:∀{o':Option WC},k4 bs ps z o'->∀(j:Nat) z' o2,zs[j]? = some z'->(ls++[o'])[j]? = some o2->k4 bs ps z' o2:=λ{o'} h' j z' o2 S l=>by
    by_cases hj:j<ls.length
    ·rw[Ui hj]at l;exact b1 j z' o2 S l
    ·have b8:=aI l;rw[TJ,T1]at b8;have ap:j=i:=by lia
     rw[Uy (by lia),show j - ls.length=0 by lia]at l;cases l;rw[ap,I]at S;cases S;exact h'
   refine BO c7 ⟨_,rfl,rfl,_,rfl,?_⟩;rw[LY];cases o with
   | none=>
    have dp:bs.filter (cX z)=[]:=by
     rcases ho with⟨e,_⟩ | ⟨p,e,_⟩
     ·exact e
     ·cases e
    refine fc ⟨_,rfl,_,rfl,x,M,_,.ref D,rfl,Y _ _ O,rfl,z,D,Gv,ps,rfl,.of (Y _ _ be),by lia,df.same Y,cv,a4.1,a4.2,λrr cn a0 hf=>?_⟩;obtain⟨o',l,c9⟩:=AB hf;refine⟨_,a0 _ _ b0,small (by lia),_,ab,⟨_,_,rfl⟩,aA hG (Y.trans a0),ls++[o'],?_,by rw[TJ,W];rfl,bq (.inr ⟨dp,l⟩)⟩;rw[rS,TK];refine(dn.same (iK (bQ (st.trans a0)))).append (.cons ?_ .nil);have d7:∃C M fs,lim H9 cn x=some (.ins C M fs):=⟨_,_,_,by rw[bw λd e=>by rw[Y _ _ O]at e;cases e];exact a0 _ _ (Y _ _ O)⟩;have cz:∃ps,lim H9 cn A.au=some (.tbl ps):=⟨bl,by rw[bw λd e=>by rw[Y _ _ HA]at e;cases e];exact a0 _ _ (Y _ _ HA)⟩;refine Cm c9 d7 cz λc o2 f B h3 e=>?_;rw[av λe2=>h3 _ (by rw[e2];exact b0),bw λd e2=>h3 d (Y _ _ (N _ _ f B (m _ _ e2)))];exact e
   | some p=>
    have d8:Den K (lim H X) y (oP (some p)):=by
     obtain⟨o2,bc,hd⟩:=si dF hy;rw[cb]at bc;cases bc;exact hd
    refine bU ⟨_,rfl,_,b0,small (by lia),_,ab,⟨_,_,rfl⟩,aA hG Y,ls++[some p],?_,by rw[TJ,W];rfl,bq (.inl ?_)⟩
    ·rw[rS,TK];refine(dn.same (iK (bQ st))).append (.cons ?_ .nil);refine Cm d8 de di λc o2 f B h3 e=>?_;rw[av (d9 c o2 f B e),bw h3];exact Y _ _ (N c o2 f B e)
    ·rcases ho with⟨_,e⟩ | ⟨_,e,hl⟩
     ·cases e
     ·cases e;exact⟨p,rfl,hl⟩
  obtain⟨_,s8,ls,dc,W,b1⟩:=q;rw[Tt,cc,Vm]at W;have ah:=s8 _ _ O;have R:G≠x:=nn hG O
  refine⟨_,rfl,x,M,_,rfl,ah,by simp,?_⟩;refine eG (aF bp s8) ah λH9 ai f9 cw=>?_;replace ai:H9 x=some (.ins A.aH M [("rows",.ref r),("by_hand",.ref b),("found",.ref D),("falls",.ref G)]):=ai;have as:∀c o,c≠x->H7 c=some o->H9 c=some o:=λc o f e=>by rw[f9 c f];exact s8 _ _ e
  refine k H9 D G Gv lv ps ls ?_ ?_ ?_ cw ai (as _ _ b6 be) ?_ (by rw[f9 _ R];exact cy) ?_ qo ⟨W,b1⟩
  ·cases e:H D with
   | none=>rfl
   | some o=>
    have:=s5 _ _ (show H4 D=some o by rw[f4 _ b6];exact m _ _ e);rw[hD]at this;cases this
  ·cases e:H G with
   | none=>rfl
   | some o=>
    by_cases B:G=A.au
    ·rw[B,HA]at hG;cases hG
    ·have:=N _ _ R B (m _ _ e);rw[hG]at this;cases this
  ·intro c o e;obtain⟨f,e⟩:=aZ e;obtain⟨B,e⟩:=aZ e;exact as _ _ f (N _ _ f B (m _ _ e))
  ·exact o6 b4 bz ct λc o f B h3 e=>by
    rw[bw λd=>dj c d h3 f];exact as _ _ f (aq _ _ f e)
  ·have d4:∃C M fs,lim H H8 x=some (.ins C M fs):=⟨_,_,_,by rw[bw c5];exact ah⟩;have da:∃ps,lim H H8 A.au=some (.tbl ps):=⟨bl,by rw[bw c2];exact s8 _ _ HA⟩;exact o6 (dc.same bA) d4 da λc o f B h3 e=>by
    rw[bw h3,f9 c f];exact e
def iU (K:Wz) (A:Ad):Sp:=λvs H Q _=>∃(g dx st dx2:Za) (fs gs:List (Str×V)) (rr bb:V),vs=[.ref g]/\H g=some (.ins A.aU dx fs)/\YR ("state" : Str) fs=some (.ref st)/\H st=some (.ins A.aH dx2 gs)/\YR ("rows" : Str) gs=some rr/\YR ("by_hand" : Str) gs=some bb/\∀p,H p=none->Q (.ref p) (upd H p (.tup [rr,bb]))
def ff (K:Wz) (A:Ad):Sp:=λvs H Q _=>∃(g h dx t st ah pa tb r b:Za) (rv bv:WD) (rs:List (Int×Str)) (bs:WB) (s l:Int),vs=[.ref g,.ref h]/\H g=some (.ins A.aU dx [("sieve",.ref t),("state",.ref st),("ahead",.ref ah),("past",.ref pa),("taken_back",.ref tb)])/\SqT K H h [.ref r,.ref b]/\SqT K H t [.int s,.int l] /\
 H r=some (.lst rv)/\aC K H rv (rs.map zf)/\H b=some (.lst bv)/\aC K H bv (bs.map aJ)/\rs.length<64/\(∀q∈rs,∃ws,fP 12 q.2 ws)/\bs.length<64/\pG bs/\bP A.au H /\
 ∀(H':Hp) (x dx' f fl:Za) (fv lv:WD) (fnd:WB) (fls:List (Option WC)),H x=none->H f=none->H fl=none->ae (wo g (wo A.au H)) H'->bP A.au H'->H' g=some (.ins A.aU dx [("sieve",.ref t),("state",.ref x),("ahead",.ref st),("past",.ref pa),("taken_back",.ref tb)]) ->
  H' x=some (.ins A.aH dx' [("rows",.ref r),("by_hand",.ref b),("found",.ref f),("falls",.ref fl)])->H' f=some (.lst fv)->aC K (lim H H') fv (fnd.map aJ)->H' fl=some (.lst lv)->aC K (lim H H') lv (fls.map oP)->iT s l (l8 bs (rs.map (·.2))) fnd->ql bs fnd (rs.map (·.2)) fls->Q .non H'
def me (K:Wz) (A:Ad):Sp:=λvs H Q _=>∃(B:Hp) (g pa tb r b:Za) (v:gr) (rv bv:WD) (rs:List (Int×Str)) (bs:WB),vs=[.ref g,.ref r,.ref b]/\br K A.aU A.aH B H g pa tb v/\B A.au=none/\B r=some (.lst rv)/\aC K B rv (rs.map zf)/\B b=some (.lst bv)/\aC K B bv (bs.map aJ)/\rs.length<64/\(∀q∈rs,∃ws,fP 12 q.2 ws)/\bs.length<64/\pG bs/\v.past.length<=100000/\bP A.au H /\
 ∀(H' B':Hp) (tb':Za) (cur:StV),ae (wo g (wo pa (wo A.au H))) H'->bP A.au H'->H tb' = none->ae B B'->(∀c o,B c=none->H c=some o->xJ o->B' c=none)->cur.rs=rs->cur.bs=bs->br K A.aU A.aH B' H' g pa tb' ⟨v.s,v.l,cur,v.cur,v.past++[(v.cur.rs,v.cur.bs)],[]⟩->Q .non H'
def lC (K:Wz) (A:Ad):Sp:=λvs H Q _=>∃(B:Hp) (g pa tb:Za) (v:gr) (m:Int) (z:Str),vs=[.ref g,.int m,.str z]/\br K A.aU A.aH B H g pa tb v/\B A.au=none/\(∃ws,fP 12 z ws)/\v.cur.rs.length<63/\(∀q,v.cur.rs.getLast? = some q->q.1<=m)/\v.past.length<=100000/\bP A.au H /\
 ∀(H' B':Hp) (tb':Za) (cur:StV),ae (wo g (wo pa (wo A.au H))) H'->bP A.au H'->H tb' = none->ae B B'->(∀c o,B c=none->H c=some o->xJ o->B' c=none)->cur.rs=v.cur.rs++[(m,z)]->cur.bs=v.cur.bs->br K A.aU A.aH B' H' g pa tb' ⟨v.s,v.l,cur,v.cur,v.past++[(v.cur.rs,v.cur.bs)],[]⟩->Q (.int (v.cur.rs.length:Int)) H'
def qJ (K:Wz) (A:Ad):Sp:=λvs H Q _=>∃(g t dx:Za) (s l:Int),vs=[.ref g,.ref t]/\H g=some (.ins A.aU dx [])/\SqT K H t [.int s,.int l]/\bP A.au H /\
 ∀(H' B':Hp) (pa tb:Za) (cur:StV),ae (wo g (wo A.au H)) H'->bP A.au H'->H pa=none->H tb=none->(∀c o,H c=some o->xJ o->B' c=none)->cur.rs=[]->cur.bs=[]->br K A.aU A.aH B' H' g pa tb ⟨s,l,cur,cur,[],[]⟩->Q .non H'
def om (K:Wz) (A:Ad):Sp:=λvs H Q _=>∃(B:Hp) (g pa tb:Za) (v:gr),vs=[.ref g]/\br K A.aU A.aH B H g pa tb v/\Q (.int (v.cur.rs.length:Int)) H
def gz (K:Wz) (A:Ad):Sp:=λvs H Q _=>∃(B:Hp) (g pa tb:Za) (v:gr),vs=[.ref g]/\br K A.aU A.aH B H g pa tb v /\
 ∀(D:Za) (acc:WD) (H':Hp),H D=none->ae H H'->H' D=some (.lst acc)->aC K (lim H H') acc ((v.cur.bs++v.cur.fs).map aJ)->Q (.ref D) H'
def oG (K:Wz) (A:Ad):Sp:=λvs H Q _=>∃(B:Hp) (g pa tb:Za) (v:gr) (i:Nat) (ps:WC),vs=[.ref g,.int i]/\br K A.aU A.aH B H g pa tb v/\v.cur.os[i]? = some (some ps) /\
 ∀(D:Za) (ys:WD) (H':Hp),H D=none->ae H H'->H' D=some (.lst ys)->aC K (lim H H') ys (ps.map Pt.dat)->Q (.ref D) H'
theorem Ab:aE ["self"] ["self"] (ag (mIn 57 3)):=by refine⟨rfl,rfl,rfl,?_,rfl,?_,?_⟩<;>decide +kernel
theorem lK (T:Tx K mg A):ay P w K mg base CX0 1 A.fC A.iw ["self"] (iU K A):=by
 refine T.oQ.fn.ok Ab (λq H Q E h=>?_) (λ_ _ _ s H q Q E _ h=>?_)
 ·obtain⟨g,f,c,a,d,e,m,j,rfl,_⟩:=h;rfl
 ·obtain⟨g,f,c,a,d,e,m,j,rfl,l,b,i,r,o,k⟩:=h;refine⟨_,ak (aD (dG (aa (bE T.bL T.ee (bE T.aM T.bf (pv 0))) (aa (bE T.bL T.dQ (bE T.aM T.bf (pv 0))) af)))),?_⟩;exact⟨_,rfl,g,f,d,.ref c,rfl,l,b,c,a,e,m,rfl,i,r,_,rfl,g,f,d,.ref c,rfl,l,b,c,a,e,j,rfl,i,o,(by show 2<=Zg;decide),λp n=>k p n⟩
theorem ij:aE ["self","held","rows","by_hand"] ["self","held"] (ag (mIn 57 5)):=by refine⟨rfl,rfl,rfl,?_,rfl,?_,?_⟩<;>decide +kernel
theorem g7 (T:Tx K mg A):ay P w K mg base CX0 23 A.c6 A.eC ["self","held"] (ff K A):=by
 have i9:ay P w K mg base CX0 21 _ _ _ _:=OF (nu T);refine T.iH.fn.ok ij (λvs H Q E h=>?_) (λ_ _ _ s H vs Q E hr h=>?_)
 ·obtain⟨g,h,l,t,p,ah,S,R,r,b,rv,bv,rs,bs,s0,l0,rfl,_⟩:=h;rfl
 ·obtain⟨g,h,l,t,p,ah,S,R,r,b,rv,bv,rs,bs,s0,l0,rfl,n,ar,aw,D,as,hb,a7,a9,Y,a3,ag,O,k⟩:=h;obtain⟨_,gR⟩:=aR O;have a5:g≠A.au:=λe=>by rw[<-e,n]at gR;cases gR
  refine⟨_,aj (lM (pv 1) (eN rfl (aL (ax (i:=2) ij.nd rfl (Or.inl rfl)) (aL (ax (i:=3) ij.nd rfl (Or.inl rfl)) cL))))
   (aj (kP T.aM T.km (pv 0) (bE T.aM T.bf (pv 0)))
   (ak (kP T.aM T.bf (pv 0) (w6 T.y7 i9 hr (by rfl) T.C3 T.nL.bd .nil aB (aa (bE T.aM T.jD (pv 0)) (aa (pv 2) (aa (pv 3) af))))))),?_⟩
  refine⟨_,rfl,h,_,rfl,ar,rfl,_,_,rfl,_,_,rfl,rfl,?_⟩;refine⟨_,rfl,g,l,_,.ref p,rfl,n,rfl,_,rfl,g,l,_,rfl,n,by simp,?_⟩;refine eG O n λH2 a f2 ao=>?_;replace a:H2 g=some (.ins A.aU l [("sieve",.ref t),("state",.ref p),("ahead",.ref p),("past",.ref S),("taken_back",.ref R)]):=a;have s2:ae (wo g H) H2:=λc o e=>by
   obtain⟨j,e⟩:=aZ e;rw[f2 c j];exact e
  refine⟨_,rfl,g,l,_,.ref t,rfl,a,rfl,_,rfl,_,rfl,λx G U ab a0=>?_⟩;obtain⟨Hx,eq,C,aq⟩:=AN A.aH U ab a0;rw[eq];have m:ae (wo g H) Hx:=s2.trans C;have M:∀{c:Za}{W:WD},H c=some (.lst W)->c≠g:=λ{c W} h e=>by rw[e,n]at h;cases h
  have u:x≠g:=nn U a
  have L:H x=none:=by rw[<-f2 x u];exact U
  refine⟨x,t,r,b,G,rv,bv,rs,bs,s0,l0,rfl,aq,m.cU (r6 n aw),m _ _ (Zp (M D) D),(uC n as).same m,m _ _ (Zp (M hb) hb),(uC n a7).same m,a9,Y,a3,ag,aF ao C,λH3 f fl fv lv a8 Z hf B s3 a6 ai X df Qx dl qo ic=>⟨rfl,?_⟩⟩;have q:H3 g=some (.ins A.aU l [("sieve",.ref t),("state",.ref p),("ahead",.ref p),("past",.ref S),("taken_back",.ref R)]):=s3 _ _ (Zq u.symm a5 (C _ _ a));refine⟨_,rfl,g,l,_,rfl,q,by simp,?_⟩;refine eG a6 q λH4 y I a4=>?_;replace y:H4 g=some (.ins A.aU l [("sieve",.ref t),("state",.ref x),("ahead",.ref p),("past",.ref S),("taken_back",.ref R)]):=y;have J:∀{c:Za},Hx c=none->H c=none:=λ{c} e=>by
   cases e2:H c with
   | none=>rfl
   | some o=>
    by_cases j:c=g
    ·rw[j,C _ _ a]at e;cases e
    ·rw[m c o (Zp j e2)]at e;cases e
  have ap:f≠g:=λe=>by rw[e,C _ _ a]at hf;cases hf
  have QF:fl≠g:=λe=>by rw[e,C _ _ a]at B;cases B
  have go:∀{v:WD}{ds:WI},aC K (lim Hx H3) v ds->aC K (lim H H4) v ds:=λ{v ds} d=>o9 d λc o j N _ h3 _=>by
   have F:c≠g:=λe=>by rw[e,q]at N;cases N;exact h3 _ _ _ rfl
   rw[bw λW e=>j W (m _ _ (Zp F e)),I c F];exact N
  refine k H4 x G f fl fv lv a8 Z L (J hf) (J B) (λc o e=>?_) a4 y (by rw[I x u];exact ai) (by rw[I f ap];exact X) (go df) (by rw[I fl QF];exact Qx) (go dl) qo ic;obtain⟨j,e⟩:=aZ e;obtain⟨N,e⟩:=aZ e;rw[I c j];exact s3 _ _ (by rw[av (nn e L),av N];exact m _ _ (Zp j e))
theorem uo:aE ["self","rows","by_hand"] ["self","rows","by_hand"] (ag (mIn 57 6)):=by refine⟨rfl,rfl,rfl,?_,rfl,?_,?_⟩<;>decide +kernel
theorem tY (T:Tx K mg A):ay P w K mg base CX0 24 A.fR A.jf ["self","rows","by_hand"] (me K A):=by
 have d8:ay P w K mg base CX0 23 _ _ _ _:=OF (g7 T);have iE:ay P w K mg base CX0 23 _ _ _ _:=OF (lK T);refine T.qL.fn.ok uo (λvs H Q E h=>?_) (λ_ _ _ s H vs Q E hr h=>?_)
 ·obtain⟨B,g,pa,tb,r,b,v,rv,bv,rs,bs,rfl,_⟩:=h;rfl
 ·obtain⟨B,g,pa,tb,r,b,v,rv,bv,rs,bs,rfl,cF,ba,a4,b3,ax,ag,ai,a5,a7,aq,bk,b4,k⟩:=h;obtain⟨W,t,st,ah,L,_,hg,m,_,sB,aw,kX,_,_,b5,ap,_,a6,_,b9,_⟩:=cF;have qh:=ap;obtain⟨b8,N,M,_,_,bb,bc,_,_,q1,q2,q3,q4,q5,_,_,_,_⟩:=qh;obtain⟨_,gR⟩:=aR b4;have br:g≠A.au:=λe=>by rw[<-e,hg]at gR;cases gR
  have be:pa≠A.au:=λe=>by rw[<-e,m]at gR;cases gR
  have Z:pa≠g:=nn m hg
  have LV:L.length<=100000:=by rw[a6.1];exact bk
  refine⟨_,aj (cN (fu Yc YA YB fH (bE T.aM T.fZ (pv 0)) (aa (dO (pv 0) T.aM T.k6 iE hr T.oQ.bd .nil aB) af)))
   (aj (kP T.aM T.cw (pv 0) (bD af))
   (ak (cN (iO (pv 0) T.aM T.ir d8 hr T.iH.bd .nil aB (aa (dG (aa (pv 1) (aa (pv 2) af))) af))))),?_⟩
  refine⟨_,rfl,g,W,_,.ref pa,rfl,hg,rfl,.inl ⟨rfl,_,.of m⟩,_,rfl,g,W,_,rfl,hg,rfl,g,W,st,b8,_,_,.ref N,.ref M,rfl,hg,rfl,sB _ _ q1,rfl,rfl,λp D=>?_⟩;have O:p≠pa:=nn D m
  have U:p≠g:=nn D hg
  refine⟨pa,L,_,rfl,rfl,by rw[ao O.symm];exact m,small (by lia),?_⟩;have f2:∀c,c≠pa->c≠p->(upd (upd H p (.tup [.ref N,.ref M])) pa (.lst (L++[.ref p]))) c=H c:=λc i j=>by rw[ao i,ao j]
  have Mh:(upd (upd H p (.tup [.ref N,.ref M])) pa (.lst (L++[.ref p]))) pa=some (.lst (L++[.ref p])):=ab;have Y:(upd (upd H p (.tup [.ref N,.ref M])) pa (.lst (L++[.ref p]))) p=some (.tup [.ref N,.ref M]):=by rw[ao O];exact ab
  have as:bP A.au (upd (upd H p (.tup [.ref N,.ref M])) pa (.lst (L++[.ref p]))):=jS (aF b4 (ae.new D)) (xs:=L) (by rw[ao O.symm];exact m);generalize upd (upd H p (.tup [.ref N,.ref M])) pa (.lst (L++[.ref p]))=H2 at f2 Mh Y as ⊢;have az:H2 g=_:=(f2 g Z.symm U.symm).trans hg;refine⟨T2 _,λtb' X=>?_⟩;have b6:tb'≠g:=nn X az
  have ar:tb'≠pa:=nn X Mh
  have Pk:tb'≠p:=nn X Y
  have IC:H tb' = none:=by rw[<-f2 tb' ar Pk];exact X
  have s3:ae H2 (upd H2 tb' (.lst [])):=ae.new X;have PZ:(upd H2 tb' (.lst [])) tb' = some (.lst []):=ab;generalize upd H2 tb' (.lst [])=H3 at s3 PZ ⊢;have a8:=s3 _ _ az;refine⟨_,rfl,g,W,_,rfl,a8,by simp,?_⟩;refine eG (aF as s3) a8 λH4 I f4 a9=>?_;replace I:H4 g=some (.ins A.aU W [("sieve",.ref t),("state",.ref st),("ahead",.ref ah),("past",.ref pa),("taken_back",.ref tb')]):=I;have R:∀c o,c≠g->c≠pa->H c=some o->H4 c=some o:=λc o i j e=>by
   rw[f4 c i];refine s3 _ _ ?_;rw[f2 c j λz=>by rw[z,D]at e;cases e];exact e
  refine⟨_,rfl,g,W,_,rfl,I,rfl,_,rfl,_,rfl,(by show 2<=Zg;decide),λh hh=>?_⟩;obtain⟨H5,eq,u,bi⟩:=eH (.tup [.ref r,.ref b]) hh;rw[eq];have J:∀{c:Za}{o:HO},B c=some o->c≠g/\c≠pa/\c≠A.au:=λ{c o} e=>⟨(nn e aw),(nn e kX),nn e ba⟩;have G:ae B H5:=λc o e=>u _ _ (R c o (J e).1 (J e).2.1 (sB _ _ e));refine⟨g,h,W,t,st,ah,pa,tb',r,b,rv,bv,rs,bs,v.s,v.l,rfl,u _ _ I,.of bi,G.cU b5,G _ _ a4,b3.same G,G _ _ ax,ag.same G,ai,a5,a7,aq,aF a9 u,λn x bg f fl fv lv bf b7 hx hf bj s6 b2 b1 bo bh df Cc dl qo ic=>?_⟩;have S:∀c o,c≠g->c≠pa->c≠A.au->H c=some o->n c=some o:=λc o i j y e=>s6 _ _ (Zq i y (u _ _ (R c o i j e)));have a0:∀c o,c≠g->c≠A.au->H4 c=some o->n c=some o:=λc o i y e=>s6 _ _ (Zq i y (u _ _ e));have Pb:B tb' = none:=sB.free IC;have Fo:∀c o,B c=some o->n c=some o:=λc o e=>S c o (J e).1 (J e).2.1 (J e).2.2 (sB _ _ e);have a:=Ae (H':=n) sB aw kX Pb Fo;have lF:=sm (B:=B) (H:=H) (H':=n) (g:=g) (pa:=pa) (tb:=tb');have Hh:H4 pa=some (.lst (L++[.ref p])):=by rw[f4 pa Z];exact s3 _ _ Mh
  have xW:H4 tb' = some (.lst []):=by rw[f4 tb' b6];exact PZ
  have bp:tb'≠A.au:=λe=>by
   obtain⟨q,hq⟩:=aR a9;rw[<-e,xW]at hq;cases hq
  have QB:=a0 _ _ Z be Hh;have EC:=a0 _ _ b6 bp xW;have h0:∀{c:Za},H5 c=none->H c=none/\c≠g/\c≠pa/\c≠tb':=λ{c} e=>by
   have n1:c≠g:=λz=>by rw[z,u _ _ I]at e;cases e
   have n2:c≠pa:=λz=>by rw[z,u _ _ Hh]at e;cases e
   have n3:c≠tb':=λz=>by rw[z,u _ _ xW]at e;cases e
   refine⟨?_,n1,n2,n3⟩;cases e2:H c with
   | none=>rfl
   | some o=>rw[u _ _ (R c o n1 n2 e2)]at e;cases e
  have a3:∀{c:Za},H5 c=none->nxt B H n g pa tb' c=n c:=λ{c} e=>by
   obtain⟨i,j,y,h4⟩:=h0 e;exact gT j y h4 (λ_ z=>by rw[i]at z;cases z) (λ_ _ _ z=>by rw[i]at z;cases z) λ_ z=>by rw[i]at z;cases z
  have go:∀{v:WD}{ds:WI},aC K (lim H5 n) v ds->aC K (nxt B H n g pa tb') v ds:=λ{v ds} d=>o9 d λc o i j _ y h4=>by
   have n1:c≠g:=λe=>by rw[e,b1]at j;cases j;exact y _ _ _ rfl
   have n2:c≠pa:=λe=>i _ (by rw[e];exact u _ _ Hh);have n3:c≠tb':=λe=>i _ (by rw[e];exact u _ _ xW);have n4:c≠A.au:=λe=>by
    obtain⟨q,hq⟩:=aR b2;rw[e,hq]at j;cases j;exact h4 _ rfl
   rw[gT n1 n2 n3 (λys e=>i ys (u _ _ (R _ _ n1 n2 e))) (λC _ _ e=>?_) (λ_ e=>?_)]
   ·exact j
   ·have:=S _ _ n1 n2 n4 e;rw[j]at this;cases this;exact y _ _ _ rfl
   ·have:=S _ _ n1 n2 n4 e;rw[j]at this;cases this;exact h4 _ rfl
  have Q5:p≠A.au:=nn D gR
  have bq:n p=some (.tup [.ref N,.ref M]):=a0 _ _ U Q5 (by rw[f4 p U];exact s3 _ _ Y);have bl:nxt B H n g pa tb' p=some (.tup [.ref N,.ref M]):=by
   rw[gT U O Pk.symm (λ_ z=>by rw[D]at z;cases z) (λ_ _ _ z=>by rw[D]at z;cases z) λ_ z=>by rw[D]at z;cases z];exact bq
  refine k n (nxt B H n g pa tb') tb' ⟨rs,bs,bf,b7⟩ (λc o e=>?_) b2 IC a (λc o i j y=>sf i j y) rfl rfl
   ⟨W,t,x,st,L++[.ref p],[],b1,QB,EC,BE Fo,lF.1,lF.2.1,lF.2.2,ar.symm,a.cU b5,
    ⟨bg,r,b,f,fl,rv,bv,fv,lv,by rw[a3 hx];exact bo,a _ _ a4,b3.same a,a _ _ ax,ag.same a,by rw[a3 hf];exact bh,go df,by rw[a3 bj];exact Cc,go dl⟩,
    ap.same a,?_,.nil,⟨qo,ic,a5,aq,ai,a7⟩,b9⟩
  ·obtain⟨i,e⟩:=aZ e;obtain⟨j,e⟩:=aZ e;obtain⟨y,e⟩:=aZ e;exact S c o i j y e
  ·exact(a6.same a).snoc ⟨p,N,M,bb,bc,rfl,.of bl,a _ _ q2,q3.same a,a _ _ q4,q5.same a⟩
theorem EI {N:Hp->Prop}{G:Prop} (Pre:Hp->Prop) (rest:∀H,Pre H->N H) (f:(∀H,Pre H->N H)->G):G:=f rest
theorem qH:aE ["self","moment","line","rows"] ["self","moment","line"] (ag (mIn 57 7)):=by refine⟨rfl,rfl,rfl,?_,rfl,?_,?_⟩<;>decide +kernel
theorem qC (T:Tx K mg A):ay P w K mg base CX0 25 A.iz A.jP ["self","moment","line"] (lC K A):=by
 have vD:ay P w K mg base CX0 24 _ _ _ _:=OF (tY T);have E3:ay P w K mg base CX0 24 _ _ _ _:=OF (BC T);refine T.um.fn.ok qH (λvs H Q E h=>?_) (λ_ _ _ s H vs Q E hr h=>?_)
 ·obtain⟨B,g,pa,tb,v,m,z,rfl,_⟩:=h;rfl
 ·obtain⟨B,g,pa,tb,v,m,z,rfl,cF,ai,hz,_,OY,b1,a5,k⟩:=h;have Oq:=cF;obtain⟨dx,t,st,_,_,_,hg,D,J,sB,b2,kX,m5,_,_,ax,_,_,_,C,_⟩:=Oq;have qh:=ax;obtain⟨V,N,b0,_,_,a,ap,_,_,q1,q2,q3,q4,q5,_,_,_,_⟩:=qh;obtain⟨ws,O⟩:=hz;have G:=O.ok (by decide);have L:a.length=v.cur.rs.length:=by rw[q3.length,Tt]
  refine⟨_,aj (bq (i:=3) qH.nd rfl (Or.inl rfl) (bE T.bL T.ee (bE T.aM T.bf (pv 0))))
   (aj (bF (lu (eM (ar E3 hr (by rfl) T.rX.mg T.rX.fn.kp T.rX.bd .nil aB (aa (pv 2) af)))) (ak gf) aT)
   (aj (bF ((pw_and (tU (pv 3) (λ_=>rfl)) (pw_and1 (bi yO (pv 1) (bc (r:=oz K) eX (bc (r:=cO K) aS (pv 3) (NA Ma aq) (λ_ _=>rfl)) aq (λ_ _=>rfl)) (bg _)))).pt) (ak gf) aT)
   (aj (bF (bi F9 (aK (r:=dC K) be (by rfl) T.cJ Yb (aa (pv 3) af)) (jK (v:=.int 120) (by rfl) (Z6 T.yj) ⟨_,rfl⟩) (bg _)) (ak gf) aT)
   (aj (cN (iO (pv 0) T.aM T.ud vD hr T.qL.bd .nil aB (aa (bN (r:=rC K) kJ (pv 3) (bD (aa (dG (aa (pv 1) (aa (pv 2) af))) af))) (aa (bE T.bL T.dQ (bE T.aM T.bf (pv 0))) af))))
   (ak (aD (aK (r:=dC K) be (by rfl) T.cJ Yb (aa (pv 3) af)))))))),?_⟩
  refine⟨_,rfl,g,dx,_,.ref st,rfl,hg,rfl,st,V,_,.ref N,rfl,sB _ _ q1,rfl,?_⟩;refine⟨_,rfl,z,rfl,TN G.2 (by decide),G.1,by rw[O.split];exact O.le,by rw[O.split];exactλw h=>(O.wd w h).word,λH1 I=>⟨_,rfl,bU ?_⟩⟩;have d:=sB.trans I;have u:H1 N=some (.lst a):=d _ _ q2;apply EI (λH2:Hp=>H2=H1)
  case f=>
   intro rest;refine⟨_,rfl,_,.inl ⟨a,.of u,rfl⟩,?_⟩;cases hq:a with
   | nil=>exact bU (bU (rest _ rfl))
   | cons y _=>
    have W:a≠[]:=λe=>by rw[e]at hq;cases hq
    obtain⟨F,x',e'⟩:∃F x',a=F++[x']:=⟨a.dropLast,a.getLast W,(VE W).symm⟩;have aw:a[F.length]? = some x':=by rw[e'];simp
    obtain⟨p,ty,hp,rfl,b3,_⟩:=zP q3 aw;have b7:p.1<=m:=OY p (by
     rw[List.getLast?_eq_getElem?,<-L,e',TJ,T1,Nat.add_sub_cancel];exact hp)
    refine fc ⟨_,rfl,_,rfl,(1:Int),rfl,N,_,(-1:Int),.ref ty,rfl,rfl,.of u,?_,ty,_,0,_,rfl,rfl,d.cU b3,rfl,_,_,rfl,rfl,_,rfl,?_⟩
    ·rw[e'];exact J2
    ·rw[Zl (by lia)];exact bU (rest _ rfl)
  intro H2 e2;subst e2;refine⟨_,rfl,N,_,rfl,.inl (.of u),_,_,rfl,rfl,_,rfl,?_⟩;rw[Zl (by rw[L];lia)];refine bU ?_;have au:=aF a5 I;have Dq:=cF.same I;have a0:=I _ _ hg;refine⟨_,rfl,g,dx,_,rfl,a0,rfl,_,rfl,_,rfl,_,rfl,(by show 2<=Zg;decide),λtt n=>?_⟩;obtain⟨_,Y,s2,a4⟩:=eH (.tup [.int m,.str z]) n;rw[Y];refine⟨(by show 1<=Zg;decide),λll ag=>?_⟩;obtain⟨_,Y,M,a7⟩:=eH (.lst [.ref tt]) ag;rw[Y];refine⟨N,ll,_,_,rfl,rfl,.of ((s2.trans M) _ _ u),.of a7,TN (show a.length+1<=100 by lia) (by decide),λR S=>?_⟩;obtain⟨H5,Y,s4,b4⟩:=eH (.lst (a++[.ref tt])) S;rw[Y];have x:=(s2.trans M).trans s4;have Z:=d.trans x;have QP:B tt=none:=d.free n;have a8:B R=none:=(d.trans (s2.trans M)).free S;have a3:R≠tt:=λe=>by rw[e,(M _ _ a4)]at S;cases S
  have a6:=x _ _ a0;refine⟨_,rfl,g,dx,_,.ref st,rfl,a6,rfl,st,V,_,.ref b0,rfl,Z _ _ q1,rfl,?_⟩;have U:ae B (upd (upd B tt (.tup [.int m,.str z])) R (.lst (a++[.ref tt]))):=(ae.new QP).trans (ae.new (by rw[ao a3];exact a8));have bR:(upd (upd B tt (.tup [.int m,.str z])) R (.lst (a++[.ref tt]))) R=some (.lst (a++[.ref tt])):=ab;have bt:(upd (upd B tt (.tup [.int m,.str z])) R (.lst (a++[.ref tt]))) tt=some (.tup [.int m,.str z]):=by rw[ao a3.symm];exact ab
  have bo:∀c,c≠R->c≠tt->(upd (upd B tt (.tup [.int m,.str z])) R (.lst (a++[.ref tt]))) c=B c:=λc l j=>by rw[ao l,ao j]
  generalize upd (upd B tt (.tup [.int m,.str z])) R (.lst (a++[.ref tt]))=B1 at U bR bt bo;have Rx:ae B1 H5:=λc o e=>by
   by_cases l:c=R
   ·rw[l,bR]at e;cases e;rw[l];exact b4
   by_cases j:c=tt
   ·rw[j,bt]at e;cases e;rw[j];exact(M.trans s4) _ _ a4
   rw[bo c l j]at e;exact Z _ _ e
  have X:∀{c:Za}{o:HO},H c=some o->c≠R/\c≠tt:=λ{c o} e=>⟨(λh=>by rw[<-h,(I.trans (s2.trans M)) _ _ e]at S;cases S),λh=>by rw[<-h,I _ _ e]at n;cases n⟩;have ob:∀{c:Za}{o:HO},H c=some o->B c=none->B1 c=none:=λ{c o} e eb=>by rw[bo c (X e).1 (X e).2];exact eb
  obtain⟨_,gR⟩:=aR a5;have b:=I.trans x;have P9:br K A.aU A.aH B1 H5 g pa tb v:=cF.grow U Rx (ob hg b2) (ob D kX) (ob J m5) ((b _ _ hg).trans hg.symm) ((b _ _ D).trans D.symm) ((b _ _ J).trans J.symm);refine⟨B1,g,pa,tb,R,b0,v,a++[.ref tt],ap,v.cur.rs++[(m,z)],v.cur.bs,rfl,P9,ob gR ai,bR,?_,U _ _ q4,q5.same U,by rw[TJ,T1];lia,λq hq=>?_,C.bl,C.hnd,b1,aF au x,λH6 B' as b5 s6 b6 vq az El e1 e2 yS=>?_⟩
  ·rw[TK];exact(q3.same U).append (.cons (.tup (.of bt) (.cons (.int _) (.cons (.str G.1) .nil))) .nil)
  ·rcases TV.mp hq with hq | hq
   ·exact C.lns q hq
   ·rw[Tz.mp hq];exact⟨ws,O⟩
  ·have Mu:=yS;obtain⟨_,_,_,_,_,_,_,_,_,a9,_⟩:=Mu;have NN:=U.trans az;refine⟨_,rfl,N,_,rfl,.inl (.of (a9 _ _ (NN _ _ q2))),?_⟩;rw[L];refine k H6 B' as b5 (λc o e=>?_) b6 ?_ NN (λc o l j h3=>El c o (ob j l) (b _ _ j) h3) e1 e2 yS
   ·obtain⟨l,e⟩:=aZ e;obtain⟨j,e⟩:=aZ e;obtain⟨h3,e⟩:=aZ e;exact s6 _ _ (Zr l j h3 (b _ _ e))
   ·exact b.free vq
theorem Ba:aE ["self"] ["self"] (ag (mIn 57 1)):=by refine⟨rfl,rfl,rfl,?_,rfl,?_,?_⟩<;>decide +kernel
theorem B0 (T:Tx K mg A):ay P w K mg base CX0 1 A.mn A.qd ["self"] (om K A):=by
 refine T.DA.fn.ok Ba (λo H Q E h=>?_) (λ_ _ _ s H o Q E _ h=>?_)
 ·obtain⟨B,g,q,m,v,rfl,_⟩:=h;rfl
 ·obtain⟨B,g,q,m,v,rfl,n,k⟩:=h;obtain⟨u,t,e,_,_,_,l,_,_,i,_,_,_,_,_,b,_⟩:=n;obtain⟨c,f,_,_,_,a,_,_,_,j,p,q3,_,_,_,_,_,_⟩:=b;have d:a.length=v.cur.rs.length:=by rw[q3.length,Tt]
  refine⟨_,ak (aD (aK (r:=dC K) be (by rfl) T.cJ Yb (aa (bE T.bL T.ee (bE T.aM T.bf (pv 0))) af))),?_⟩;refine⟨_,rfl,g,u,_,.ref e,rfl,l,rfl,e,c,_,.ref f,rfl,i _ _ j,rfl,f,_,rfl,.inl (.of (i _ _ p)),?_⟩;rw[d];exact k
theorem rP:aE ["self"] ["self"] (ag (mIn 57 13)):=by refine⟨rfl,rfl,rfl,?_,rfl,?_,?_⟩<;>decide +kernel
theorem kR (T:Tx K mg A):ay P w K mg base CX0 1 A.dJ A.eY ["self"] (gz K A):=by
 refine T.jI.fn.ok rP (λvs H Q E h=>?_) (λ_ _ _ s H vs Q E _ h=>?_)
 ·obtain⟨B,g,pa,tb,v,rfl,_⟩:=h;rfl
 ·obtain⟨B,g,pa,tb,v,rfl,cF,k⟩:=h;obtain⟨dx,t,G,_,_,_,hg,_,_,p,_,_,_,_,_,X,_,F,_,z,_⟩:=cF;obtain⟨y,_,b0,f0,_,_,a,b,_,q1,_,q3,q4,q5,q6,q7,_,_⟩:=X;have a4:a.length=v.cur.bs.length:=by rw[q5.length,Tt]
  have a6:b.length=v.cur.fs.length:=by rw[q7.length,Tt]
  have h1:=z.bl;have h2:=z.gth.lt;refine⟨_,ak (aD (ba (N':=["pattern"]) (n:=1) (fi:=[]) (g:=aX 0) rfl (bj (ag (mIn 57 13)) ["self"] (by decide +kernel)) (aY (bN (r:=rC K) kJ (bE T.bL T.dQ (bE T.aM T.bf (pv 0))) (bE T.bL T.g8 (bE T.aM T.bf (pv 0))))) (λs H fp=>ax (i:=0) (nT _) rfl (Or.inl rfl) (.inr rfl)) (λs H fp=>aP) (λs H fp=>cH (r:=j8 K) fG (by rfl) T.li i0 (aa (pv 0) af)))),?_⟩;refine⟨_,rfl,g,dx,_,.ref G,rfl,hg,rfl,G,y,_,.ref b0,rfl,p _ _ q1,rfl,_,rfl,g,dx,_,.ref G,rfl,hg,rfl,G,y,_,.ref f0,rfl,p _ _ q1,rfl,b0,f0,_,_,rfl,rfl,.of (p _ _ q4),.of (p _ _ q6),TN (show a.length+b.length<=1000 by lia) (by decide),λC hC=>⟨C,rfl,⟨_,.of ab⟩,?_⟩⟩;have N:ae H (upd H C (.lst (a++b))):=ae.new hC;have f:(upd H C (.lst (a++b))) C=some (.lst (a++b)):=ab;have M:aC K H (a++b) ((v.cur.bs++v.cur.fs).map aJ):=by
   rw[TK];exact(q5.same p).append (q7.same p)
  have W:(a++b).length<=1000:=by rw[TJ];lia
  have j:(a++b).length=(v.cur.bs++v.cur.fs).length:=by rw[M.length,Tt]
  generalize upd H C (.lst (a++b))=H1 at N f ⊢;generalize a++b=xs at f M W j;generalize v.cur.bs++v.cur.fs=pss at M j k;intro D Y;have S:H D=none:=N.free Y;refine aN (K:=K) (xs:=xs) (λi c J m=>(∃u,J=[u])/\ae H1 m/\aC K (wo D (lim H m)) c ((pss.take i).map aJ)) ab ⟨⟨_,rfl⟩,ae.new Y,.nil⟩ (λi c J m _ _ q=>.of (q.2.1 _ _ f)) (λi x c J m hx l q=>?_) (λc J m R q=>?_)
  ·obtain⟨q0,O,d⟩:=q;apply d5 q0;clear q0;intro u;obtain⟨_,V,F⟩:=gq M hx;obtain⟨a1,ys,rfl,a3,a0⟩:=fg F;have hi:=aI hx;have e:=N.trans O;have a5:c.length<=1000:=by rw[d.length,Tt,TZ];lia
   refine cC ⟨_,rfl,a1,ys,rfl,.inl (e.seq a3),λL hL=>?_⟩;have I:=ae.new (o:=.lst ys) hL;have U:L≠D:=(aw l hL).symm;have Z:H L=none:=e.free hL;refine⟨_,I _ _ l,small (by lia),_,ab,⟨_,rfl⟩,aA Y (O.trans I),?_⟩;rw[rS,cZ V];refine(d.same (iK (bQ I))).append (.cons (.lst (xs:=ys) (.of (by rw[av U,cf Z];exact ab)) ?_) .nil);exact(j6 e (e.trans I) a0).same (Fj e l)
  ·obtain⟨_,O,d⟩:=q;rw[j,TY (Tw _)]at d;exact k D c m S (N.trans O) R (d.same bA)
theorem yf:aE ["self","number"] ["self","number"] (ag (mIn 57 14)):=by refine⟨rfl,rfl,rfl,?_,rfl,?_,?_⟩<;>decide +kernel
theorem xY (T:Tx K mg A):ay P w K mg base CX0 1 A.iL A.lD ["self","number"] (oG K A):=by
 refine T.wq.fn.ok yf (λM H Q E h=>?_) (λ_ _ _ s H M Q E _ h=>?_)
 ·obtain⟨B,g,S,F,v,i,N,rfl,_⟩:=h;rfl
 ·obtain⟨B,g,S,F,v,i,N,rfl,J,x,k⟩:=h;obtain⟨U,t,q,_,_,_,C,_,_,c,_,_,_,_,_,d,_,_,_,_,_⟩:=J;obtain⟨e,_,_,_,b,_,_,_,a,y,_,q3,_,_,_,_,z,m⟩:=d;have R:a.length=v.cur.os.length:=by rw[m.length,Tt]
  have L:=aI x;have u:a[i]? = some a[i]:=Tu (by lia);obtain⟨o,n,O⟩:=si m u;rw[x]at n;cases n;obtain⟨I,p,G,l,j⟩:=fg O;refine⟨_,ak (aD (cH (r:=j8 K) fG (by rfl) T.li i0 (aa (bc (r:=cO K) aS (bE T.bL T.dD (bE T.aM T.bf (pv 0))) (pv 1) (λ_ _=>rfl)) af))),?_⟩;refine⟨_,rfl,g,U,_,.ref q,rfl,C,rfl,q,e,_,.ref b,rfl,c _ _ y,rfl,_,rfl,b,_,(i:Int),_,rfl,rfl,.of (c _ _ z),cy u,I,p,by rw[G],.inl (c.seq l),λD f=>?_⟩;exact k D p _ f (ae.new f) ab (j6 (ae.refl H) (ae.new f) (j.same c))
theorem zU:aE ["self","sieve"] ["self","sieve"] (ag (mIn 57 0)):=by refine⟨rfl,rfl,rfl,?_,rfl,?_,?_⟩<;>decide +kernel
theorem zZ (T:Tx K mg A):ay P w K mg base CX0 23 A.jY A.nU ["self","sieve"] (qJ K A):=by
 have i9:ay P w K mg base CX0 21 _ _ _ _:=OF (nu T);refine T.zh.fn.ok zU (λvs H Q E h=>?_) (λ_ _ _ s H vs Q E hr h=>?_)
 ·obtain⟨g,t,y,s0,l0,rfl,_⟩:=h;rfl
 ·obtain⟨g,t,y,s0,l0,rfl,hg,ai,b4,k⟩:=h;obtain⟨_,gR⟩:=aR b4;have bc:g≠A.au:=λe=>by rw[<-e,hg]at gR;cases gR
  refine⟨_,aj (kP T.aM T.jD (pv 0) (cH jd (by rfl) T.xn tQ (aa (pv 1) af)))
   (aj (kP T.aM T.bf (pv 0) (w6 T.y7 i9 hr (by rfl) T.C3 T.nL.bd .nil aB (aa (bE T.aM T.jD (pv 0)) (aa (bD af) (aa (bD af) af)))))
   (aj (kP T.aM T.km (pv 0) (bE T.aM T.bf (pv 0)))
   (aj (kP T.aM T.fZ (pv 0) (bD af))
   (ak (kP T.aM T.cw (pv 0) (bD af)))))),?_⟩
  refine⟨_,rfl,t,_,rfl,.inr ⟨ai,_,rfl,g,y,_,rfl,hg,by decide,?_⟩⟩;refine eG b4 hg λH1 G f1 aq=>?_;replace G:H1 g=some (.ins A.aU y [("sieve",.ref t)]):=G;have az:ae (wo g H) H1:=λc o e=>by
   obtain⟨a,e⟩:=aZ e;rw[f1 c a];exact e
  refine⟨_,rfl,g,y,_,.ref t,rfl,G,rfl,T2 _,λr a3=>?_⟩;obtain⟨_,Y,s2,b2⟩:=eH (.lst []) a3;rw[Y];refine⟨T2 _,λb O=>?_⟩;obtain⟨H3,Y,s3,as⟩:=eH (.lst []) O;rw[Y];have L:=s2.trans s3;have M:=L _ _ G;intro x a8 hx bj b8;obtain⟨Hx,Y,U,b3⟩:=AN A.aH hx bj b8;rw[Y];have sH:ae (wo g H) Hx:=(az.trans L).trans U;have a9:x≠g:=nn hx M
  have n0:∀{c:Za},H3 c=none->H c=none:=λ{c} e=>by
   cases e2:H c with
   | none=>rfl
   | some o=>
    by_cases a:c=g
    ·rw[a,M]at e;cases e
    ·rw[(az.trans L) c o (Zp a e2)]at e;cases e
  have ag:H x=none:=n0 hx;have b5:H r=none:=by
   have bi:r≠g:=nn a3 G
   rw[<-f1 r bi];exact a3
  have be:H b=none:=by
   have b6:b≠g:=λe=>by rw[e,s2 _ _ G]at O;cases O
   cases e2:H b with
   | none=>rfl
   | some o=>rw[s2 _ _ (show H1 b=some o by rw[f1 b b6];exact e2)]at O;cases O
  refine⟨x,t,r,b,a8,[],[],[],[],s0,l0,rfl,b3,sH.cU (r6 hg ai),(s3.trans U) _ _ b2,.nil,U _ _ as,.nil,by decide,(λq F=>by cases F),by decide,(λq F=>by cases F),aF (aF aq L) U,λD f fl fv lv a7 a4 hf b0 s4 a5 ax bb df Rl dl qo ic=>⟨rfl,?_⟩⟩;have ab:D g=some (.ins A.aU y [("sieve",.ref t)]):=s4 _ _ (Zq a9.symm bc (U _ _ M));refine⟨_,rfl,g,y,_,rfl,ab,by simp,?_⟩;refine eG a5 ab λH5 J f5 bg=>?_;replace J:H5 g=some (.ins A.aU y [("sieve",.ref t),("state",.ref x)]):=J;refine⟨_,rfl,g,y,_,.ref x,rfl,J,rfl,_,rfl,g,y,_,rfl,J,by simp,?_⟩;refine eG bg J λH6 a0 f0 bo=>?_;replace a0:H6 g=some (.ins A.aU y [("sieve",.ref t),("state",.ref x),("ahead",.ref x)]):=a0;have f6:∀c,c≠g->H6 c=D c:=λc h=>(f0 c h).trans (f5 c h);refine⟨T2 _,λpa N=>?_⟩;obtain⟨_,Y,s7,b7⟩:=eH (.lst []) N;rw[Y];have b1:=s7 _ _ a0;have R:pa≠g:=nn N a0
  refine⟨_,rfl,g,y,_,rfl,b1,by simp,?_⟩;refine eG (aF bo s7) b1 λH8 W f8 bl=>?_;replace W:H8 g=some (.ins A.aU y [("sieve",.ref t),("state",.ref x),("ahead",.ref x),("past",.ref pa)]):=W;refine⟨T2 _,λtb l=>?_⟩;obtain⟨_,Y,s9,bh⟩:=eH (.lst []) l;rw[Y];have ao:=s9 _ _ W;have I:tb≠g:=nn l W
  have ap:H8 pa=some (.lst []):=by rw[f8 pa R];exact b7
  have bk:tb≠pa:=nn l ap
  refine⟨_,rfl,g,y,_,rfl,ao,by simp,?_⟩;refine eG (aF bl s9) ao λi Mm a6 JI=>?_;replace Mm:i g=some (.ins A.aU y [("sieve",.ref t),("state",.ref x),("ahead",.ref x),("past",.ref pa),("taken_back",.ref tb)]):=Mm;have g4:∀c o,c≠g->D c=some o->i c=some o:=λc o a e=>by
   rw[a6 c a];refine s9 _ _ ?_;rw[f8 c a];refine s7 _ _ ?_;rw[f6 c a];exact e
  have gx:∀c o,c≠g->c≠x->c≠A.au->Hx c=some o->i c=some o:=λc o a m u e=>g4 c o a (s4 _ _ (Zq m u e));have g0:∀c o,c≠g->c≠A.au->H c=some o->i c=some o:=λc o a u e=>gx c o a (nn e ag) u (sH _ _ (Zp a e));have z4:∀{c:Za},c≠g->D c=none->H c=none:=λ{c} a e=>by
   cases e2:H c with
   | none=>rfl
   | some o=>
    by_cases u:c=A.au
    ·obtain⟨q,F⟩:=aR a5;rw[u,F]at e;cases e
    ·rw[s4 c o (by rw[av (nn e2 ag),av u];exact sH _ _ (Zp a e2))]at e;cases e
  have PV:H pa=none:=z4 R (by rw[<-f6 pa R];exact N);have IC:H tb=none:=z4 I (by
   cases e2:D tb with
   | none=>rfl
   | some o=>
    rw[f8 tb I]at l;rw[s7 _ _ (show H6 tb=some o by rw[f6 tb I];exact e2)]at l;cases l)
  have SE:i x=some (.ins A.aH a8 [("rows",.ref r),("by_hand",.ref b),("found",.ref f),("falls",.ref fl)]):=g4 _ _ a9 ax;have j:∀{c:Za}{ys:WD},Hx c=some (.lst ys)->c≠g/\c≠x/\c≠A.au:=λ{c ys} e=>⟨(λz=>by rw[z,U _ _ M]at e;cases e),(nn e b3),λz=>by
   obtain⟨q,F⟩:=aR (aF (aF aq L) U);rw[z,F]at e;cases e⟩
  have n:=(s3.trans U) _ _ b2;have p:=U _ _ as;have S3:=gx _ _ (j n).1 (j n).2.1 (j n).2.2 n;have S8:=gx _ _ (j p).1 (j p).2.1 (j p).2.2 p;have Hh:D pa=none:=by rw[<-f6 pa R];exact N
  have xW:D tb=none:=by
   cases e2:D tb with
   | none=>rfl
   | some o=>
    rw[f8 tb I]at l;rw[s7 _ _ (show H6 tb=some o by rw[f6 tb I];exact e2)]at l;cases l
  have X:∀{c:Za}{o:HO},D c=some o->c≠pa/\c≠tb:=λ{c o} e=>⟨(nn e Hh),nn e xW⟩;have S:∀{c:Za}{o:HO},H c=none->c≠g->D c=some o->nxt (λ_=>none) H i g pa tb c=some o:=λ{c o} a m u=>by
   rw[gT m (X u).1 (X u).2 (λ_ z=>by rw[a]at z;cases z) (λ_ _ _ z=>by rw[a]at z;cases z) λ_ z=>by rw[a]at z;cases z];exact g4 _ _ m u
  have b9:D r=some (.lst []):=s4 _ _ (Zq ((j n).2.1) ((j n).2.2) n);have ba:D b=some (.lst []):=s4 _ _ (Zq ((j p).2.1) ((j p).2.2) p);have Z:∀{c:Za},Hx c=none->H c=none/\c≠g:=λ{c} e=>by
   have a:c≠g:=λz=>by rw[z,U _ _ M]at e;cases e
   refine⟨?_,a⟩;cases e2:H c with
   | none=>rfl
   | some o=>rw[sH c o (Zp a e2)]at e;cases e
  have go:∀{v:WD}{ds:WI},aC K (lim Hx D) v ds->aC K (nxt (λ_=>none) H i g pa tb) v ds:=λ{v ds} d=>o9 d λc o a m _ u h4=>by
   have n1:c≠g:=λe=>by rw[e,ab]at m;cases m;exact u _ _ _ rfl
   have n4:c≠A.au:=λe=>by
    obtain⟨q,F⟩:=aR a5;rw[e,F]at m;cases m;exact h4 _ rfl
   have ah:=g4 c o n1 m;rw[gT n1 (X m).1 (X m).2 (λys e=>a ys (sH _ _ (Zp n1 e))) (λC d' fs e=>?_) (λps e=>?_)]
   ·exact ah
   ·have:=g0 _ _ n1 n4 e;rw[ah]at this;cases this;exact u _ _ _ rfl
   ·have:=g0 _ _ n1 n4 e;rw[ah]at this;cases this;exact h4 _ rfl
  have hqB:SqT K (nxt (λ_=>none) H i g pa tb) t [.int s0,.int l0]:=by
   have aw:∀o:HO,(∀ys,o ≠ .lst ys)->(∀C d' fs,o ≠ .ins C d' fs)->(∀ps,o ≠ .tbl ps)->H t=some o->nxt (λ_=>none) H i g pa tb t=some o:=λo a m u e=>by
    have n1:t≠g:=λz=>by rw[z,hg]at e;cases e;exact m _ _ _ rfl
    have n4:t≠A.au:=λz=>by rw[z,gR]at e;cases e;exact u _ rfl
    rw[gT n1 (nn e PV) (nn e IC) (λys z=>by rw[e]at z;cases z;exact a _ rfl) (λ_ _ _ z=>by rw[e]at z;cases z;exact m _ _ _ rfl) λ_ z=>by rw[e]at z;cases z;exact u _ rfl];exact g0 _ _ n1 n4 e
   rcases ai with(q | ⟨ob,q⟩) | q
   ·exact .inl (.inl (aw _ (λ_ z=>by cases z) (λ_ _ _ z=>by cases z) (λ_ z=>by cases z) q))
   ·exact .inl (.inr ⟨ob,aw _ (λ_ z=>by cases z) (λ_ _ _ z=>by cases z) (λ_ z=>by cases z) q⟩)
   ·exact .inr q
  have lF:=sm (B:=λ_=>none) (H:=H) (H':=i) (g:=g) (pa:=pa) (tb:=tb);have OZ:wZ K A.aH (nxt (λ_=>none) H i g pa tb) x ⟨[],[],a7,a4⟩:=⟨a8,r,b,f,fl,[],[],fv,lv,S ag a9 ax,S b5 (j n).1 b9,.nil,S be (j p).1 ba,.nil,S (Z hf).1 (Z hf).2 bb,go df,S (Z b0).1 (Z b0).2 Rl,go dl⟩;have ar:StV.Ok ⟨[],[],a7,a4⟩ s0 l0:=⟨qo,ic,(λq F=>by cases F),(λq F=>by cases F),by show 0<64;decide,by show 0<64;decide⟩;refine k i (nxt (λ_=>none) H i g pa tb) pa tb ⟨[],[],a7,a4⟩ (λc o e=>?_) JI PV IC (λc o a m=>sf rfl a m) rfl rfl ⟨y,t,x,x,[],[],Mm,by rw[a6 pa R];exact s9 _ _ ap,by rw[a6 tb I];exact bh,BE (λc o e=>by cases e),lF.1,lF.2.1,lF.2.2,bk.symm,hqB,OZ,OZ,.nil,.nil,ar,ar⟩;obtain⟨a,e⟩:=aZ e;obtain⟨m,e⟩:=aZ e;exact g0 c o a m e
def qS (K:Wz) (A:Ad):Sp:=λvs H Q _=>∃(B:Hp) (g pa tb:Za) (v:gr) (l:List (List (Int×Str)×WB)) (rs:List (Int×Str)) (bs:WB),vs=[.ref g]/\br K A.aU A.aH B H g pa tb v/\B A.au=none/\v.past=l++[(rs,bs)]/\IM (rs,bs)/\v.tbk.length<=100000/\bP A.au H /\
 ∀(H' B':Hp) (cur:StV),ae (wo g (wo pa (wo tb (wo A.au H)))) H'->bP A.au H'->ae B B'->(∀c o,B c=none->H c=some o->xJ o->B' c=none)->cur.rs=rs->cur.bs=bs->br K A.aU A.aH B' H' g pa tb ⟨v.s,v.l,cur,v.cur,l,v.tbk++[(v.cur.rs,v.cur.bs)]⟩->Q .non H'
def oK (K:Wz) (A:Ad):Sp:=λvs H Q _=>∃(B:Hp) (g pa tb:Za) (v:gr) (l:List (List (Int×Str)×WB)) (rs:List (Int×Str)) (bs:WB),vs=[.ref g]/\br K A.aU A.aH B H g pa tb v/\B A.au=none/\v.tbk=l++[(rs,bs)]/\IM (rs,bs)/\v.past.length<=100000/\bP A.au H /\
 ∀(H' B':Hp) (cur:StV),ae (wo g (wo pa (wo tb (wo A.au H)))) H'->bP A.au H'->ae B B'->(∀c o,B c=none->H c=some o->xJ o->B' c=none)->cur.rs=rs->cur.bs=bs->br K A.aU A.aH B' H' g pa tb ⟨v.s,v.l,cur,v.cur,v.past++[(v.cur.rs,v.cur.bs)],l⟩->Q .non H'
theorem zy:aE ["self"] ["self"] (ag (mIn 57 10)):=by refine⟨rfl,rfl,rfl,?_,rfl,?_,?_⟩<;>decide +kernel
theorem Az (T:Tx K mg A):ay P w K mg base CX0 24 A.jZ A.nD ["self"] (qS K A):=by
 have d8:ay P w K mg base CX0 23 _ _ _ _:=OF (g7 T);have iE:ay P w K mg base CX0 23 _ _ _ _:=OF (lK T);refine T.Aq.fn.ok zy (λvs H Q E h=>?_) (λ_ _ _ s H vs Q E hr h=>?_)
 ·obtain⟨B,g,pa,tb,v,l,rs,bs,rfl,_⟩:=h;rfl
 ·obtain⟨B,g,pa,tb,v,l,rs,bs,rfl,cF,ax,FX,m,b5,a9,k⟩:=h;obtain⟨I,t,st,ah,_,u,n,d,a,sB,b8,kX,m5,L,ag,Z,_,W,U,aq,_⟩:=cF;have qh:=Z;obtain⟨ap,D,C,_,_,az,b1,_,_,q1,q2,q3,q4,q5,_,_,_,_⟩:=qh;obtain⟨_,gR⟩:=aR a9;rw[FX]at W;obtain⟨ys,y,rfl,as,hy⟩:=W.pop;obtain⟨h,r,b,rv,bv,rfl,bb,N,a8,a5,X⟩:=hy;have av:pa≠g:=nn d n
  have O:tb≠g:=nn a n
  have SO:u.length<=100000:=by rw[U.1];exact b5
  refine⟨_,aj (bF (lu (tU (bE T.aM T.fZ (pv 0)) (λ_=>rfl))) (ak gf) aT)
   (aj (cN (fu Yc YA YB fH (bE T.aM T.cw (pv 0)) (aa (dO (pv 0) T.aM T.k6 iE hr T.oQ.bd .nil aB) af)))
   (ak (cN (iO (pv 0) T.aM T.ir d8 hr T.iH.bd .nil aB (aa (Ga Yc PySem.F.slot_list_pop PySem.F.type_list_pop Cv (bE T.aM T.fZ (pv 0))) af))))),?_⟩
  have ar:(ys++[V.ref h]).isEmpty=false:=by simp
  refine⟨_,rfl,g,I,_,.ref pa,rfl,n,rfl,true,.inl ⟨_,.of d,by rw[ar];rfl⟩,bU ?_⟩;refine⟨_,rfl,g,I,_,.ref tb,rfl,n,rfl,.inl ⟨rfl,_,.of a⟩,_,rfl,g,I,_,rfl,n,rfl,g,I,st,ap,_,_,.ref D,.ref C,rfl,n,rfl,sB _ _ q1,rfl,rfl,λp q=>?_⟩;have Ei:p≠pa:=nn q d
  have G:p≠tb:=nn q a
  have b6:p≠g:=nn q n
  refine⟨tb,u,_,rfl,rfl,by rw[ao G.symm];exact a,small (by lia),?_⟩;have a4:bP A.au (upd (upd H p (.tup [.ref D,.ref C])) tb (.lst (u++[.ref p]))):=jS (aF a9 (ae.new q)) (xs:=u) (by rw[ao G.symm];exact a);have f2:∀c,c≠tb->c≠p->(upd (upd H p (.tup [.ref D,.ref C])) tb (.lst (u++[.ref p]))) c=H c:=λc J h2=>by rw[ao J,ao h2]
  have a0:(upd (upd H p (.tup [.ref D,.ref C])) tb (.lst (u++[.ref p]))) tb=some (.lst (u++[.ref p])):=ab;have R:(upd (upd H p (.tup [.ref D,.ref C])) tb (.lst (u++[.ref p]))) p=some (.tup [.ref D,.ref C]):=by rw[ao G];exact ab
  generalize upd (upd H p (.tup [.ref D,.ref C])) tb (.lst (u++[.ref p]))=H2 at f2 a0 R a4 ⊢;have a6:H2 g=_:=(f2 g O.symm b6.symm).trans n;have M:H2 pa=_:=(f2 pa L Ei.symm).trans d;refine⟨_,rfl,g,I,_,rfl,a6,rfl,_,rfl,g,I,_,.ref pa,rfl,a6,rfl,.inl ⟨rfl,_,.of M⟩,pa,.ref h,ys,rfl,rfl,M,?_⟩;have Y:=jS (ys:=ys) a4 M;have f5:∀c,c≠pa->(upd H2 pa (.lst ys)) c=H2 c:=λc J=>ao J;have S:(upd H2 pa (.lst ys)) pa=some (.lst ys):=ab;generalize upd H2 pa (.lst ys)=H5 at f5 S Y ⊢;have g5:∀c o,c≠pa->c≠tb->H c=some o->H5 c=some o:=λc o J h2 e=>by
   rw[f5 c J,f2 c h2 λz=>by rw[z,q]at e;cases e];exact e
  have i:ae B H5:=λc o e=>g5 c o (nn e kX) (nn e m5) (sB _ _ e);have aw:H5 tb=_:=(f5 tb L.symm).trans a0;have b3:H5 p=_:=(f5 p Ei).trans R;refine⟨g,h,I,t,st,ah,pa,tb,r,b,rv,bv,rs,bs,v.s,v.l,rfl,g5 _ _ av.symm O.symm n,i.cU bb,i.cU ag,i _ _ N,a8.same i,i _ _ a5,X.same i,m.rl,m.lns,m.bl,m.hnd,Y,λH6 x _ f _ _ _ b2 ai hx hf b7 s6 a7 b9 ba b4 df Cc dl qo ic=>?_⟩;obtain⟨a1,a2,a3⟩:=uB (P:=A.au) (past:=l) (tbk:=v.tbk++[(v.cur.rs,v.cur.bs)]) n d a sB b8 kX m5 L ag Z aq ax gR g5 S aw hx hf b7 s6 (aR a7) b9 ba b4 df Cc dl N a8 a5 X m qo ic λ_ j BZ=>⟨as.same j,(U.same j).snoc ⟨p,D,C,az,b1,rfl,.of (BZ p _ q b3),j _ _ q2,q3.same j,j _ _ q4,q5.same j⟩⟩;exact k H6 _ ⟨rs,bs,b2,ai⟩ a1 a7 a2 (λc o J h2 h3=>sf J h2 h3) rfl rfl a3
theorem xI:aE ["self"] ["self"] (ag (mIn 57 11)):=by refine⟨rfl,rfl,rfl,?_,rfl,?_,?_⟩<;>decide +kernel
theorem ya (T:Tx K mg A):ay P w K mg base CX0 24 A.iV A.lJ ["self"] (oK K A):=by
 have d8:ay P w K mg base CX0 23 _ _ _ _:=OF (g7 T);have iE:ay P w K mg base CX0 23 _ _ _ _:=OF (lK T);refine T.wx.fn.ok xI (λvs H Q E h=>?_) (λ_ _ _ s H vs Q E hr h=>?_)
 ·obtain⟨B,g,pa,tb,v,l,rs,bs,rfl,_⟩:=h;rfl
 ·obtain⟨B,g,pa,tb,v,l,rs,bs,rfl,cF,ax,FX,m,b7,a9,k⟩:=h;obtain⟨G,t,st,ah,u,_,n,a,j,sB,b8,kX,m5,J,ag,Z,_,W,R,ar,_⟩:=cF;have qh:=Z;obtain⟨aq,D,C,_,_,az,b1,_,_,q1,q2,q3,q4,q5,_,_,_,_⟩:=qh;obtain⟨_,gR⟩:=aR a9;rw[FX]at R;obtain⟨ys,y,rfl,av,hy⟩:=R.pop;obtain⟨h,r,b,rv,bv,rfl,bb,M,a8,a5,X⟩:=hy;have S:pa≠g:=nn a n
  have ap:tb≠g:=nn j n
  have LV:u.length<=100000:=by rw[W.1];exact b7
  refine⟨_,aj (bF (lu (tU (bE T.aM T.cw (pv 0)) (λ_=>rfl))) (ak gf) aT)
   (aj (cN (fu Yc YA YB fH (bE T.aM T.fZ (pv 0)) (aa (dO (pv 0) T.aM T.k6 iE hr T.oQ.bd .nil aB) af)))
   (ak (cN (iO (pv 0) T.aM T.ir d8 hr T.iH.bd .nil aB (aa (Ga Yc PySem.F.slot_list_pop PySem.F.type_list_pop Cv (bE T.aM T.cw (pv 0))) af))))),?_⟩
  have as:(ys++[V.ref h]).isEmpty=false:=by simp
  refine⟨_,rfl,g,G,_,.ref tb,rfl,n,rfl,true,.inl ⟨_,.of j,by rw[as];rfl⟩,bU ?_⟩;refine⟨_,rfl,g,G,_,.ref pa,rfl,n,rfl,.inl ⟨rfl,_,.of a⟩,_,rfl,g,G,_,rfl,n,rfl,g,G,st,aq,_,_,.ref D,.ref C,rfl,n,rfl,sB _ _ q1,rfl,rfl,λp q=>?_⟩;have Ei:p≠pa:=nn q a
  have U:p≠tb:=nn q j
  have b5:p≠g:=nn q n
  refine⟨pa,u,_,rfl,rfl,by rw[ao Ei.symm];exact a,small (by lia),?_⟩;have a4:bP A.au (upd (upd H p (.tup [.ref D,.ref C])) pa (.lst (u++[.ref p]))):=jS (aF a9 (ae.new q)) (xs:=u) (by rw[ao Ei.symm];exact a);have f2:∀c,c≠pa->c≠p->(upd (upd H p (.tup [.ref D,.ref C])) pa (.lst (u++[.ref p]))) c=H c:=λc I h2=>by rw[ao I,ao h2]
  have a0:(upd (upd H p (.tup [.ref D,.ref C])) pa (.lst (u++[.ref p]))) pa=some (.lst (u++[.ref p])):=ab;have N:(upd (upd H p (.tup [.ref D,.ref C])) pa (.lst (u++[.ref p]))) p=some (.tup [.ref D,.ref C]):=by rw[ao Ei];exact ab
  generalize upd (upd H p (.tup [.ref D,.ref C])) pa (.lst (u++[.ref p]))=H2 at f2 a0 N a4 ⊢;have a6:H2 g=_:=(f2 g S.symm b5.symm).trans n;have L:H2 tb=_:=(f2 tb J.symm U.symm).trans j;refine⟨_,rfl,g,G,_,rfl,a6,rfl,_,rfl,g,G,_,.ref tb,rfl,a6,rfl,.inl ⟨rfl,_,.of L⟩,tb,.ref h,ys,rfl,rfl,L,?_⟩;have Y:=jS (ys:=ys) a4 L;have f5:∀c,c≠tb->(upd H2 tb (.lst ys)) c=H2 c:=λc I=>ao I;have O:(upd H2 tb (.lst ys)) tb=some (.lst ys):=ab;generalize upd H2 tb (.lst ys)=H5 at f5 O Y ⊢;have g5:∀c o,c≠pa->c≠tb->H c=some o->H5 c=some o:=λc o I h2 e=>by
   rw[f5 c h2,f2 c I λz=>by rw[z,q]at e;cases e];exact e
  have d:ae B H5:=λc o e=>g5 c o (nn e kX) (nn e m5) (sB _ _ e);have aw:H5 pa=_:=(f5 pa J).trans a0;have b3:H5 p=_:=(f5 p U).trans N;refine⟨g,h,G,t,st,ah,pa,tb,r,b,rv,bv,rs,bs,v.s,v.l,rfl,g5 _ _ S.symm ap.symm n,d.cU bb,d.cU ag,d _ _ M,a8.same d,d _ _ a5,X.same d,m.rl,m.lns,m.bl,m.hnd,Y,λH6 x _ f _ _ _ b2 ai hx hf b6 s6 a7 b9 ba b4 df Cc dl qo ic=>?_⟩;obtain⟨a1,a2,a3⟩:=uB (P:=A.au) (past:=v.past++[(v.cur.rs,v.cur.bs)]) (tbk:=l) n a j sB b8 kX m5 J ag Z ar ax gR g5 aw O hx hf b6 s6 (aR a7) b9 ba b4 df Cc dl M a8 a5 X m qo ic λ_ i BZ=>⟨(W.same i).snoc ⟨p,D,C,az,b1,rfl,.of (BZ p _ q b3),i _ _ q2,q3.same i,i _ _ q4,q5.same i⟩,av.same i⟩;exact k H6 _ ⟨rs,bs,b2,ai⟩ a1 a7 a2 (λc o I h2 h3=>sf I h2 h3) rfl rfl a3
theorem xS:aE ["cell","turn"] ["cell","turn"] (ag (top 59)):=by refine⟨rfl,rfl,rfl,?_,rfl,?_,?_⟩<;>decide +kernel
theorem xE (T:Tx K mg A):ay P w K mg base CX0 1 A.l5 A.lr ["cell","turn"] (nr K):=by
 refine T.fM.fn.ok xS (λe H Q E h=>?_) (λ_ _ _ s H e Q E _ h=>?_)
 ·obtain⟨c,m,rfl,_⟩:=h;rfl
 ·obtain⟨c,m,rfl,_,k⟩:=h;refine⟨_,aj (bF (bi F9 (pv 0) (bN yh aq aq) (bg _)) (ak (aD (bD (aa (bN Gs (pv 0) (bN yh aq aq)) (aa (bN pY (pv 0) aq) (aa (pv 1) af)))))) aT)
   (ak (aD (bD (aa aq (aa (bN pY (pv 0) aq) (aa (pv 1) af)))))),?_⟩
  refine⟨_,rfl,_,_,rfl,rfl,⟨by decide,by decide,by decide⟩,_,_,rfl,rfl,_,rfl,?_⟩;refine EX (λb=>?_) (λb=>?_)
  ·refine⟨_,rfl,_,_,rfl,rfl,⟨by decide,by decide,by decide⟩,_,_,rfl,rfl,_,rfl,_,_,rfl,rfl,(by show(0:Int)<2147483579;decide),_,rfl,(by show 3<=Zg;decide),λd a=>?_⟩;have f:(10:Int) ^ (18:Int).toNat<=c:=Zm b;exact k d _ a (ae.new a) ⟨_,_,_,ab,by lia,Vv _ (by decide),Vc _ (by decide),Int.natCast_nonneg _,VR _⟩
  ·refine⟨_,rfl,_,_,rfl,rfl,(by show(0:Int)<2147483579;decide),_,rfl,(by show 3<=Zg;decide),λd a=>?_⟩;exact k d _ a (ae.new a) ⟨_,_,_,ab,by decide,Vv _ (by decide),Vc _ (by decide),Int.natCast_nonneg _,VR _⟩
theorem gH:aE ["deck","many","found","number"] ["deck","many"] (ag (top 60)):=by refine⟨rfl,rfl,rfl,?_,rfl,?_,?_⟩<;>decide +kernel
theorem eW (T:Tx K mg A):ay P w K mg base CX0 1 A.dH A.dz ["deck","many"] (dR K):=by
 refine T.ap.fn.ok gH (λt H Q E h=>?_) (λ_ _ _ s H t Q E _ h=>?_)
 ·obtain⟨d,m,n,rfl,_⟩:=h;rfl
 ·obtain⟨d,m,n,rfl,l,_,e,_,k⟩:=h;refine⟨_,aj (bF (bi K8 (bc (r:=cO K) aS (pv 0) aq (λ_ _=>rfl)) aq (bg _)) (aj (bq (i:=2) gH.nd rfl (Or.inl rfl) (bN pY (bc (r:=cO K) aS (pv 0) aq (λ_ _=>rfl)) (pv 1)))
   (aj (lM (bN CH (bc (r:=cO K) aS (pv 0) aq (λ_ _=>rfl)) (pv 1)) (xm (pv 0) aq set_list))
   (ak (aD (pv 2))))) aT)
   (aj (lM (bN ib (bc (r:=cO K) aS (pv 0) aq (λ_ _=>rfl)) aq) (xm (pv 0) aq set_list))
   (aj (bq (i:=3) gH.nd rfl (Or.inl rfl) (bN pY (bN yh (bN ib (bc (r:=cO K) aS (pv 0) aq (λ_ _=>rfl)) (bN Gx aq (bc (r:=cO K) aS (pv 0) aq (λ_ _=>rfl)))) aq) aq))
   (aj (bq (i:=2) gH.nd rfl (Or.inl rfl) (bN CH (bN pY (bN yh (bN ib (pv 3) (bN Gx aq (bc (r:=cO K) aS (pv 0) aq (λ_ _=>rfl)))) aq) aq) aq))
   (aj (bF (bi K8 (pv 1) aq (bg _)) (ak gf) aT)
   (ak (aD (bN pY (pv 2) (pv 1)))))))),?_⟩
  obtain⟨a,b,c,o,q,p,g,u,_⟩:=l;have j:SqL K H d [.int a,.int b,.int c]:=.of o;refine⟨_,rfl,d,_,0,_,rfl,rfl,j,rfl,_,_,rfl,rfl,_,rfl,?_⟩;refine EX (λv=>?_) (λv=>?_)
  ·refine⟨_,rfl,d,_,0,_,rfl,rfl,j,rfl,_,rfl,_,_,rfl,rfl,e,?_⟩;refine⟨_,rfl,d,_,0,_,rfl,rfl,j,rfl,_,rfl,_,_,rfl,rfl,⟨e,by lia⟩,?_⟩;refine⟨_,rfl,d,_,0,0,rfl,rfl,o,rfl,?_⟩;refine⟨_,rfl,?_⟩;exact k _ _ An ⟨_,_,_,ab,Int.ediv_nonneg q (by lia),p,g,u,by lia⟩ (Vv _ (by lia)) (Vc _ e)
  ·refine⟨_,rfl,d,_,2,_,rfl,rfl,j,rfl,_,_,rfl,rfl,?_⟩;refine⟨_,rfl,d,_,2,2,rfl,rfl,o,rfl,?_⟩;have f:SqL K (upd H d (.lst [.int a,.int b,.int (c+1)])) d [.int a,.int b,.int (c+1)]:=.of ab;refine⟨_,rfl,d,_,1,_,rfl,rfl,f,rfl,_,rfl,d,_,2,_,rfl,rfl,f,rfl,_,_,rfl,rfl,.inl ⟨by decide,by decide⟩,_,_,rfl,rfl,_,_,rfl,rfl,⟨by decide,by decide,by lia⟩,_,_,rfl,rfl,(by show(0:Int)<2147483647;decide),?_⟩;refine⟨_,rfl,_,rfl,d,_,2,_,rfl,rfl,f,rfl,_,_,rfl,rfl,.inl ⟨by decide,by decide⟩,_,_,rfl,rfl,_,_,rfl,rfl,⟨by decide,by decide,?_⟩,_,_,rfl,rfl,(by show(0:Int)<2147483629;decide),_,_,rfl,rfl,⟨by decide,by decide⟩,?_⟩
   ·have y:=Vv ((b+15485867 * (c+1)) ^ (5:Int).toNat) (show(2147483647:Int)≠0 by decide);have x:=Vc ((b+15485867 * (c+1)) ^ (5:Int).toNat) (show(0:Int)<2147483647 by decide);lia
   ·refine⟨_,rfl,_,_,rfl,rfl,_,rfl,?_⟩;rw[Zl (show¬ (1000000:Int)<m by lia)];refine bU ?_;refine⟨_,rfl,_,rfl,_,_,rfl,rfl,e,?_⟩;exact k _ _ An ⟨_,_,_,ab,q,p,g,by lia,by lia⟩ (Vv _ (by lia)) (Vc _ e)
theorem kI:aE ["deck","way","some"] ["deck"] (ag (top 62)):=by refine⟨rfl,rfl,rfl,?_,rfl,?_,?_⟩<;>decide +kernel
theorem jW (T:Tx K mg A):ay P w K mg base CX0 2 A.gb A.gh ["deck"] (gJ K):=by
 have N:ay P w K mg base CX0 1 _ _ _ _:=OF (eW T);refine T.cY.fn.ok kI (λvs H Q E h=>?_) (λ_ _ _ s H vs Q E R h=>?_)
 ·obtain⟨d,n,rfl,_⟩:=h;rfl
 ·obtain⟨d,n,rfl,a5,_,k⟩:=h;refine⟨_,aj (bq (i:=1) kI.nd rfl (Or.inl rfl) (ar N R (by rfl) T.ap.mg T.ap.fn.kp T.ap.bd .nil aB (aa (pv 0) (aa aq af))))
   (aj (bF (bi yO (pv 1) aq (bg _)) (ak (aD (bc (r:=cO K) aS (bD (aa aW (aa aW (aa aW af)))) (ar N R (by rfl) T.ap.mg T.ap.fn.kp T.ap.bd .nil aB (aa (pv 0) (aa aq af))) (λ_ _=>rfl)))) aT)
   (aj (bF (bi yO (pv 1) aq (bg _)) (ak (aD (bc (r:=cO K) aS (bD (aa aW (aa aW (aa aW (aa aW (aa aW af)))))) (ar N R (by rfl) T.ap.mg T.ap.fn.kp T.ap.bd .nil aB (aa (pv 0) (aa aq af))) (λ_ _=>rfl)))) aT)
   (aj (bF (bi yO (pv 1) aq (bg _)) (ak (aD (bc (r:=cO K) aS (bD (aa aW (aa aW (aa aW (aa aW (aa aW (aa aW (aa aW (aa aW af))))))))) (ar N R (by rfl) T.ap.mg T.ap.fn.kp T.ap.bd .nil aB (aa (pv 0) (aa aq af))) (λ_ _=>rfl)))) aT)
   (aj (bq (i:=2) kI.nd rfl (Or.inr rfl) (bc (r:=cO K) aS (bD (aa aW (aa aW (aa aW (aa aW af))))) (bN Gs (pv 1) aq) (λ_ _=>rfl)))
   (ak (aD (fu (r:=rJoin K) Yo PySem.F.slot_str_join PySem.F.type_str_join sj aW (aa (ba (N':=["k","some","deck"]) (n:=1) (fi:=[2,0]) (g:=aX 0) rfl (bj (ag (top 62)) ["deck","way","some"] (by decide +kernel)) (dW (by rfl) T.gP (aa (bN ib aq (ar N R (by rfl) T.ap.mg T.ap.fn.kp T.ap.bd .nil aB (aa (pv 0) (aa aq af)))) af)) (λs H fp=>ax (i:=0) (show(["k","some","deck"]:WF).Nodup by decide +kernel) rfl (Or.inl rfl) (.inr rfl)) (λs H fp=>aP) (λs H fp=>bc L5 (pv 1) (ar N R (by rfl) T.ap.mg T.ap.fn.kp T.ap.bd .nil aB (aa (pv 2) (aa (aK pN (by rfl) T.cJ Yb (aa (pv 1) af)) af))) (λ_ _=>rfl))) af)))))))),?_⟩
  refine⟨_,rfl,d,12,n,rfl,a5,by lia,by decide,by decide,λway H1 Y b _ _=>?_⟩;refine⟨_,rfl,_,_,rfl,rfl,_,rfl,?_⟩;refine EX (λ_=>?_) (λ_=>?_)
  ·refine⟨(by show 3<=Zg;decide),λp e=>⟨_,rfl,d,3,n+1,rfl,b.same (ae.new e),by lia,by decide,by decide,λr o t a S O=>?_⟩⟩;obtain⟨x,G,L⟩:=mh (l:=xG) S O;have m:o p=some (.lst (xG.map V.str)):=dw t ab (b.ne e);have f:=w1 x G;exact⟨p,_,r,_,rfl,rfl,.of m,L,k x o (bI (Y.trans (ae.new e)) t) (a.mono (by lia)) ⟨f.1,f.2.1,f.2.2⟩⟩
  ·refine⟨_,rfl,_,_,rfl,rfl,_,rfl,?_⟩;refine EX (λ_=>?_) (λ_=>?_)
   ·refine⟨(by show 5<=Zg;decide),λp e=>⟨_,rfl,d,5,n+1,rfl,b.same (ae.new e),by lia,by decide,by decide,λr o t a S O=>?_⟩⟩;obtain⟨x,G,L⟩:=mh (l:=yA) S O;have m:o p=some (.lst (yA.map V.str)):=dw t ab (b.ne e);have f:=w2 x G;exact⟨p,_,r,_,rfl,rfl,.of m,L,k x o (bI (Y.trans (ae.new e)) t) (a.mono (by lia)) ⟨f.1,f.2.1,f.2.2⟩⟩
   ·refine⟨_,rfl,_,_,rfl,rfl,_,rfl,?_⟩;refine EX (λ_=>?_) (λh8=>?_)
    ·refine⟨(by show 8<=Zg;decide),λp e=>⟨_,rfl,d,8,n+1,rfl,b.same (ae.new e),by lia,by decide,by decide,λr o t a S O=>?_⟩⟩;obtain⟨x,G,L⟩:=mh (l:=yG) S O;have m:o p=some (.lst (yG.map V.str)):=dw t ab (b.ne e);have f:=w3 x G;exact⟨p,_,r,_,rfl,rfl,.of m,L,k x o (bI (Y.trans (ae.new e)) t) (a.mono (by lia)) ⟨f.1,f.2.1,f.2.2⟩⟩
    ·have a7:¬ way<8:=λh=>h8 (Zk h);obtain⟨x,G,L⟩:=mh (l:=Bz) (r:=way - 8) (by lia) (by show way - 8<4;lia);have B:=w4 x G;refine⟨(by show 4<=Zg;decide),λp e=>⟨_,rfl,_,_,rfl,rfl,p,_,way - 8,_,rfl,rfl,.of ab,L,?_⟩⟩;have a6:Dk (upd H1 p (.lst (Bz.map V.str))) d (n+1):=b.same (ae.new e);refine⟨rfl,_,rfl,d,4,n+1,rfl,a6,by lia,by decide,by decide,λr4 o t a S O=>?_⟩;refine⟨_,_,rfl,rfl,1+r4,rfl,by lia,by lia,λD W=>?_⟩;have M:d≠D:=a.ne W;refine fL (λi I σ U=>(∃u,σ=[u,some (.str x),some (.ref d)])/\ae (wo d o) U/\Dk U d (n+2+i)/\∃l:WF,I=l.map V.str/\l.length=i/\∀y∈l,Y5 y=true/\y.length<=1/\∃c,y=⟨#[c]⟩/\sgn c=true) ab ⟨⟨_,rfl⟩,bA.trans (ae.new W),a.same (ae.new W),[],rfl,rfl,λy v=>by cases v⟩ (λi I σ U _ C q=>?_) (λI σ U C q=>?_)
     ·obtain⟨X,Z,J,l,rfl,hl,z⟩:=q;apply d5 X;clear X;intro u;refine cC ⟨_,rfl,_,rfl,_,rfl,x,rfl,TN B.2.1 (by decide),d,x.length,n+2+i,rfl,J,by lia,by lia,by lia,λr _ s4 a3 X q1=>?_⟩;obtain⟨c,j,hc,hj⟩:=IT X q1;have a0:sgn c=true:=T6.mp B.2.2.2 c (by simpa using Array.mem_of_getElem? hj);refine⟨x,r,c,rfl,rfl,TN B.2.1 (by decide),hc,_,dw s4 C M,small (by simp only[Tt];lia),_,ab,⟨_,rfl⟩,aA (Zp M.symm W) (bI Z s4),a3.upd M,l++[⟨#[c]⟩],by simp,by simp[hl],λy v=>?_⟩;rcases TV.mp v with v | v
      ·exact z y v
      ·simp only[Tz]at v;subst v;exact⟨Kx B.1 hj,Tw _,c,rfl,a0⟩
     ·obtain⟨_,Z,J,l,rfl,hl,z⟩:=q;have a4:l.length<=4:=by lia
      refine⟨"",D,l,rfl,rfl,.of C,mx (λy v=>(z y v).2.1) ?_,?_⟩
      ·have:(("" : Str)).length=0:=rfl;rw[this];lia
      ·exact k _ U (bI (bI (Y.trans (ae.new e)) t) Z) (J.mono (by lia)) (EY (by lia) a4 z)
theorem yt:aE ["deck","most"] ["deck","most"] (ag (top 63)):=by refine⟨rfl,rfl,rfl,?_,rfl,?_,?_⟩<;>decide +kernel
theorem pR (T:Tx K mg A):ay P w K mg base CX0 3 A.iQ A.iR ["deck","most"] (jG K):=by
 have X:ay P w K mg base CX0 2 _ _ _ _:=OF (jW T);have S:ay P w K mg base CX0 2 _ _ _ _:=OF (eW T);refine T.fO.fn.ok yt (λY H Q E h=>?_) (λ_ _ _ s H Y Q E J h=>?_)
 ·obtain⟨d,m,n,rfl,_⟩:=h;rfl
 ·obtain⟨d,m,n,rfl,B,_,C,_,k⟩:=h;refine⟨_,ak (aD (fu (r:=rJoin K) Yo PySem.F.slot_str_join PySem.F.type_str_join sj aW (aa (ba (N':=["k","deck"]) (n:=1) (fi:=[0]) (g:=aX 0) rfl (bj (ag (top 63)) ["deck","most"] (by decide +kernel)) (dW (by rfl) T.gP (aa (bN ib aq (ar S J (by rfl) T.ap.mg T.ap.fn.kp T.ap.bd .nil aB (aa (pv 0) (aa (pv 1) af)))) af)) (λs H N=>ax (i:=0) (show(["k","deck"]:WF).Nodup by decide +kernel) rfl (Or.inl rfl) (.inr rfl)) (λs H N=>aP) (λs H N=>ar X J (by rfl) T.cY.mg T.cY.fn.kp T.cY.bd .nil aB (aa (pv 1) af))) af))),?_⟩;refine⟨rfl,_,rfl,_,rfl,d,m,n,rfl,B,by lia,C,by lia,λR O U p _ _=>?_⟩;refine⟨_,_,rfl,rfl,1+R,rfl,by lia,by lia,λD t=>?_⟩;have j:d≠D:=p.ne t;refine fL (λi e G o=>(∃u,G=[u,some (.ref d)])/\ae (wo d O) o/\Dk o d (n+1+6 * i)/\∃l:WF,e=l.map V.str/\l.length=i/\∀y∈l,WOk y) ab ⟨⟨_,rfl⟩,bA.trans (ae.new t),p.same (ae.new t),[],rfl,rfl,λy a=>by cases a⟩ (λi e G o _ c q=>?_) (λe G o c q=>?_)
  ·obtain⟨L,v,f,l,rfl,I,b⟩:=q;apply d5 L;clear L;intro u;refine cC ⟨_,rfl,d,n+1+6 * i,rfl,f,by lia,λx _ M z W=>?_⟩;refine⟨_,dw M c j,small (by simp only[Tt];lia),_,ab,⟨_,rfl⟩,aA (Zp j.symm t) (bI v M),(z.upd j).mono (by lia),l++[x],by simp,by simp[I],λy a=>?_⟩;rcases TV.mp a with a | a
   ·exact b y a
   ·simp only[Tz]at a;subst a;exact W
  ·obtain⟨_,v,f,l,rfl,I,b⟩:=q;have Z:((" " : Str)).length=1:=rfl;refine⟨" ",D,l,rfl,rfl,.of c,mx (λy a=>(b y a).len) ?_,?_⟩
   ·rw[Z];lia
   ·exact k _ l o (bI U v) (f.mono (by lia)) ⟨rfl,by lia,by lia,b⟩
theorem c5:aE ["deck","most","shapes","found","k","words","turn"] ["deck","most"] (ag (top 64)):=by refine⟨rfl,rfl,rfl,?_,rfl,?_,?_⟩<;>decide +kernel
theorem uY (T:Tx K mg A):ay P w K mg base CX0 4 A.kc A.jM ["deck","most"] (nA K):=by
 have S:ay P w K mg base CX0 3 _ _ _ _:=OF (eW T);have fY:ay P w K mg base CX0 3 _ _ _ _:=OF (jW T);have lZ:ay P w K mg base CX0 3 _ _ _ _:=OF (pR T);refine T.jH.fn.ok c5 (λvs H Q E h=>?_) (λ_ _ _ s H vs Q E J h=>?_)
 ·obtain⟨d,m,n,rfl,_⟩:=h;rfl
 ·obtain⟨d,m,n,rfl,ba,_,b4,_,k⟩:=h;refine⟨_,aj (mD (i:=2) (N':=["k","deck"]) (n:=1) (fi:=[0]) (g:=aX 0) c5.nd rfl (Or.inl rfl) rfl (bj (ag (top 64)) ["deck","most","shapes","found","k","words","turn"] (by decide +kernel)) (dW (by rfl) T.gP (aa (bN ib aq (ar S J (by rfl) T.ap.mg T.ap.fn.kp T.ap.bd .nil aB (aa (pv 0) (aa aq af)))) af)) (λs H fp=>ax (i:=0) (show(["k","deck"]:WF).Nodup by decide +kernel) rfl (Or.inl rfl) (.inr rfl)) (λs H fp=>aP) (λs H fp=>A7 (K:=K) rfl Yo PySem.F.slot_str_split PySem.F.type_str_split uN (ar lZ J (by rfl) T.fO.mg T.fO.fn.kp T.fO.bd .nil aB (aa (pv 1) (aa (bc (r:=cO K) aS (bD (aa aq (aa aq (aa aq af)))) (ar S J (by rfl) T.ap.mg T.ap.fn.kp T.ap.bd .nil aB (aa (pv 1) (aa aq af))) (λ_ _=>rfl)) af))) (aa aW af)))
   (aj (bq (i:=3) c5.nd rfl (Or.inl rfl) (bD af))
   (aj (ji YD rfl (dW (by rfl) T.gP (aa (ar S J (by rfl) T.ap.mg T.ap.fn.kp T.ap.bd .nil aB (aa (pv 0) (aa (bN ib (pv 1) aq) af))) af)) (ax (i:=4) c5.nd rfl (Or.inl rfl)) (aj (bq (i:=5) c5.nd rfl (Or.inl rfl) (cH (r:=j8 K) fG (by rfl) T.li i0 (aa (bc (r:=cO K) aS (pv 2) (ar S J (by rfl) T.ap.mg T.ap.fn.kp T.ap.bd .nil aB (aa (pv 0) (aa (aK (r:=dC K) be (by rfl) T.cJ Yb (aa (pv 2) af)) af))) (λ_ _=>rfl)) af)))
   (aj (ji YD rfl (dW (by rfl) T.gP (aa (ar S J (by rfl) T.ap.mg T.ap.fn.kp T.ap.bd .nil aB (aa (pv 0) (aa aq af))) af)) (ax (i:=6) c5.nd rfl (Or.inl rfl)) (ak (lM (ar fY J (by rfl) T.cY.mg T.cY.fn.kp T.cY.bd .nil aB (aa (pv 0) af)) (xm (pv 5) (ar S J (by rfl) T.ap.mg T.ap.fn.kp T.ap.bd .nil aB (aa (pv 0) (aa (aK (r:=dC K) be (by rfl) T.cJ Yb (aa (pv 5) af)) af))) set_list))))
   (aj (cN (fu Yc YA YB fH (pv 3) (aa (fu (r:=rJoin K) Yo PySem.F.slot_str_join PySem.F.type_str_join sj aW (aa (pv 5) af)) af)))
   (ak (bF (bi nv (ar S J (by rfl) T.ap.mg T.ap.fn.kp T.ap.bd .nil aB (aa (pv 0) (aa aq af))) aq (bg _)) (ak (cN (fu Yc YA YB fH (pv 3) (aa (bc (r:=cO K) aS (pv 3) (ar S J (by rfl) T.ap.mg T.ap.fn.kp T.ap.bd .nil aB (aa (pv 0) (aa (aK (r:=dC K) be (by rfl) T.cJ Yb (aa (pv 3) af)) af))) (λ_ _=>rfl)) af)))) aT))))))
   (ak (aD (zH (r:=LC K) Cs (pv 3) Ki (w9 (pv 1))))))),?_⟩
  have h1:((" " : Str)).length=1:=rfl;refine⟨_,rfl,d,3,n,rfl,ba,by lia,by decide,by decide,λr H1 s1 ai _ _=>⟨_,_,rfl,rfl,1+r,rfl,by lia,by lia,λSH R=>?_⟩⟩;have IV:d≠SH:=ai.ne R;refine fL (λi acc C H3=>(∃u,C=[u,some (.ref d)])/\ae (wo d H1) H3/\Dk H3 d (n+1+81 * i)/\acc.length=i/\∀x∈acc,∃(s:Za) (ws:WF),x = .ref s/\s≠d/\s≠SH/\H3 s=some (.lst (ws.map V.str))/\yD ws) ab ⟨⟨_,rfl⟩,bA.trans (ae.new R),ai.same (ae.new R),rfl,λx c=>by cases c⟩ (λi acc C H3 hi a8 q=>?_) (λacc C H3 a8 q=>?_)
  ·obtain⟨t,s3,I,au,a0⟩:=q;apply d5 t;clear t;intro u;refine cC ?_;refine⟨_,rfl,(by show 3<=Zg;decide),λp hp=>⟨_,rfl,d,3,_,rfl,I.same (ae.new hp),by lia,by decide,by decide,λr3 H4 s4 U t q1=>?_⟩⟩;have bh:H4 p=some (.lst [.int 3,.int 6,.int 12]):=dw s4 ab (I.ne hp);obtain⟨v,hv,b1,br⟩:=Kj t q1;refine⟨p,_,r3,_,rfl,rfl,.of bh,hv,d,v,_,rfl,U,by lia,b1,br,λx ws H5 X B G=>?_⟩;have b2:=G.ok (by lia);have MV:ae (wo d H3) H5:=bI (bI (bA.trans (ae.new hp)) s4) X;have Ng:H5 SH=some (.lst acc):=dw MV a8 IV;refine⟨rfl,x," ",rfl,rfl,by rw[h1];decide,TN (Vi b2.2 2) (by decide),λl hl=>?_⟩;have sl:ae H5 (upd H5 l (.lst ((Y6 x " ").map V.str))):=ae.new hl;have OX:l≠SH:=(aw Ng hl).symm;have bl:l≠d:=(B.ne hl).symm;refine⟨acc,sl _ _ Ng,small (by lia),_,ab,⟨_,rfl⟩,aA (Zp IV.symm R) (bI s3 (MV.trans sl)),((B.same sl).upd IV).mono (by lia),by rw[TJ,au];rfl,λy z=>?_⟩;rcases TV.mp z with z | z
   ·obtain⟨s,bp,rfl,g1,g2,g3,g4⟩:=a0 y z;exact⟨s,bp,rfl,g1,g2,by rw[ao g2];exact sl _ _ (dw MV g3 g1.symm),g4⟩
   ·simp only[Tz]at z;subst z;refine⟨l,ws,rfl,bl,OX,by rw[ao OX,ab,G.split],G.pos,TN G.le (by lia),G.wd⟩
  ·obtain⟨_,s3,I,au,a0⟩:=q;have Jn:ae (wo d H) (wo d H3):=fU cu (bI s1 s3);have MC:(wo d H3) SH=some (.lst acc):=by rw[av IV.symm];exact a8
   have OT:M9 (wo d H3) acc:=λx c=>by
    obtain⟨s,ws,rfl,g1,g2,g3,g4⟩:=a0 x c;exact⟨s,ws,rfl,by rw[av g1];exact g3,g4⟩
   have a5:(wo d H3) d=none:=cu;have Lh:ae (wo d H3) H3:=bA;refine⟨T2 _,λF hF=>?_⟩;have a:d≠F:=I.ne hF;have N:(wo d H3) F=none:=Lh.free hF;have bw:H F=none:=by
    have:=Jn.free N
    rwa [av a.symm]at this
   generalize wo d H3=Hs at Jn MC OT a5 Lh N;have sF:ae H3 (upd H3 F (.lst [])):=ae.new hF;refine⟨_,rfl,_,rfl,_,_,rfl,rfl,d,_,_,rfl,I.same sF,by lia,by lia,by lia,λr2 H4 s4 U t q1=>⟨r2,rfl,by lia,by lia,?_⟩⟩;have Su:1<=acc.length:=by lia
   refine qa (λi C H5=>(∃u4 u5 u6,C=[some (.ref d),some (.int m),some (.ref SH),some (.ref F),u4,u5,u6])/\ae Hs H5/\Dk H5 d (n+400+20 * i)/\∃ls:WF,H5 F=some (.lst (ls.map V.str))/\ls.length<=2 * i/\∀x∈ls,∃ws,fP 12 x ws)
    ⟨⟨_,_,_,rfl⟩,λb o e=>s4 b o (Zp (aw e a5) (sF b o (Lh b o e))),U.mono (by lia),[],dw s4 ab a,Tw _,λx c=>by cases c⟩ (λi C H5 hi q=>?_) (λC H5 q=>?_)
   ·obtain⟨t,X,B,ls,a6,b8,Md⟩:=q;apply Oy t;clear t;intro u4 u5 u6;have vU:∀{Ha Hb:Hp},ae Hs Ha->ae (wo d Ha) Hb->ae Hs Hb:=λsa sb b o e=>sb b o (Zp (aw e a5) (sa b o e));refine⟨_,rfl,_,rfl,_,rfl,SH,_,rfl,.inl (.of (X _ _ MC)),d,_,_,rfl,B,by lia,by lia,by lia,λrk H6 s6 b0 k0 _=>?_⟩;have O:=vU X s6;have az:=dw s6 a6 a;obtain⟨jj,rfl⟩:=Va (k0:(0:Int)<=rk);have bt:jj<acc.length:=by lia
    have ah:acc[jj]? = some acc[jj]:=Tu bt;obtain⟨sA,ws,ex,bo,bb⟩:=OT acc[jj] (TB ah);refine⟨SH,acc,_,_,rfl,rfl,.of (O _ _ MC),cy ah,sA,_,by rw[ex],.inl (.of (O _ _ bo)),λW hW=>?_⟩;have sW:ae H6 (upd H6 W (.lst (ws.map V.str))):=ae.new hW;have M:d≠W:=b0.ne hW;have bu:F≠W:=aw az hW;have b5:Hs W=none:=O.free hW;refine⟨_,rfl,d,3,_,rfl,b0.same sW,by lia,by decide,by decide,λr3 _ s8 b3 _ g1=>⟨r3,rfl,by lia,by lia,?_⟩⟩;refine qa (λj C Z=>(∃u4 u6,C=[some (.ref d),some (.int m),some (.ref SH),some (.ref F),u4,some (.ref W),u6])/\ae Hs Z/\Dk Z d (n+400+20 * i+2+7 * j)/\Z F=some (.lst (ls.map V.str))/\∃l:WF,Z W=some (.lst (l.map V.str))/\yD l)
     ⟨⟨_,_,rfl⟩,vU (O.trans sW) s8,b3.mono (by lia),dw s8 (sW _ _ az) a,ws,dw s8 ab M,bb⟩ (λj C Z _ q=>?_) (λC Z q=>?_)
    ·obtain⟨t,s9,a4,L,l,Y,f⟩:=q;apply rO t;clear t;intro u4 u6;have bf:=f.pos;have b9:=f.le;refine⟨_,rfl,d,_,rfl,a4,by lia,λx _ a3 QM c=>?_⟩;have Nx:=dw a3 Y M;refine⟨_,rfl,_,rfl,_,rfl,W,_,rfl,.inl (.of Nx),d,_,_,rfl,QM,by lia,by rw[Tt];lia,by rw[Tt];lia,λrj _ a7 QQ j0 j1=>?_⟩;have Rj:=dw a7 Nx M;exact⟨W,_,rj,_,rfl,rfl,Rj,Gb j0 j1,⟨_,_,rfl⟩,aA b5 (vU (vU s9 a3) a7),(QQ.upd M).mono (by lia),by rw[ao bu];exact dw a7 (dw a3 L a) a,l.set rj.toNat x,by rw[ab,List.map_set],f.set c⟩
    ·obtain⟨t,s9,a4,L,l,Y,f⟩:=q;apply rO t;clear t;intro u4 u6;have bf:=f.pos;have b9:=f.le;refine⟨_,rfl,.inl ⟨rfl,_,.of L⟩,rfl,_,rfl," ",W,l,rfl,rfl,.of Y,mx (λy z=>(f.wd y z).len) (by rw[h1];lia),F,_,_,rfl,rfl,L,small (by rw[Tt];lia),?_⟩;have R9:(upd Z F (.lst (ls.map V.str++[.str (YH " " l)]))) F=some (.lst ((ls++[YH " " l]).map V.str)):=by rw[ab];simp
     have GX:∀x∈ls++[YH " " l],∃ws,fP 12 x ws:=λx c=>by
      rcases TV.mp c with c | c
      ·exact Md x c
      ·simp only[Tz]at c;subst c;exact⟨l,f.line⟩
     refine⟨_,rfl,d,6,_,rfl,a4.upd a,by lia,by decide,by decide,λ_ _ a9 Qb _ _=>⟨rfl,_,rfl,?_⟩⟩;have IP:=dw a9 R9 a;have Nh:=vU (aA (D:=F) (o:=.lst (ls.map V.str++[.str (YH " " l)])) N s9) a9;have MU:(ls++[YH " " l]).length=ls.length+1:=by simp
     refine EX (λ_=>?_) (λ_=>?_)
     ·refine⟨_,rfl,.inl ⟨rfl,_,.of IP⟩,_,rfl,_,rfl,_,rfl,F,_,rfl,.inl (.of IP),d,_,_,rfl,Qb,by lia,by rw[Tt];lia,by rw[Tt];lia,λ_ _ as DV z0 z1=>?_⟩;rw[Tt]at z1;obtain⟨x,c,b7⟩:=mh z0 z1;have NO:=dw as IP a;refine⟨F,_,_,_,rfl,rfl,.of NO,b7,F,_,_,rfl,rfl,NO,small (by rw[Tt];lia),⟨_,_,_,rfl⟩,aA N (vU Nh as),(DV.upd a).mono (by lia),(ls++[YH " " l])++[x],by rw[ab];simp,by rw[TJ,MU];simp;lia,λy z=>?_⟩;rcases TV.mp z with z | z
      ·exact GX y z
      ·simp only[Tz]at z;subst z;exact GX y c
     ·exact⟨⟨_,_,_,rfl⟩,Nh,Qb.mono (by lia),ls++[YH " " l],IP,by lia,GX⟩
   ·obtain⟨t,X,B,ls,a6,b8,Md⟩:=q;apply Oy t;clear t;intro u4 u5 u6;refine⟨_,rfl,_,rfl,m,rfl,F,_,rfl,.of a6,λD hD=>?_⟩;rw[Fx b4,<-List.map_take];have bk:d≠D:=B.ne hD;have b6:H D=none:=by
     have:=(Jn.trans X).free hD
     rwa [av bk.symm]at this
    exact k D (ls.take m.toNat) _ b6 ((Jn.trans X).trans (ae.new hD)) ((B.same (ae.new hD)).mono (by lia)) ab (λx c=>Md x (UT c)) (by rw[TZ];lia)
def ny (K:Wz):Sp:=λvs H Q _=>∃(d:Za) (n:Nat),vs=[.ref d]/\Dk H d n/\n<900000/\∀(t:Za) (s l:Int) H',H t=none->ae (wo d H) H'->Dk H' d (n+3)->H' t=some (.tup [.int s,.int l])->Q (.ref t) H'
theorem Ll {r:Int} (a:0<=r) (h1:r<3):∃v:Int,atI [V.int 3,V.int 3,V.int 9] r=some (.int v)/\0<v/\v<10:=by
 have:r=0\/r=1\/r=2:=by lia
 rcases this with rfl | rfl | rfl
 ·exact⟨3,rfl,by decide,by decide⟩
 ·exact⟨3,rfl,by decide,by decide⟩
 ·exact⟨9,rfl,by decide,by decide⟩
theorem vp:aE ["deck"] ["deck"] (ag (top 66)):=by refine⟨rfl,rfl,rfl,?_,rfl,?_,?_⟩<;>decide +kernel
theorem u3 (T:Tx K mg A):ay P w K mg base CX0 2 A.jX A.j7 ["deck"] (ny K):=by
 have g:ay P w K mg base CX0 1 _ _ _ _:=OF (eW T);refine T.jO.fn.ok vp (λJ H Q E h=>?_) (λ_ _ _ s H J Q E q h=>?_)
 ·obtain⟨d,n,rfl,_⟩:=h;rfl
 ·obtain⟨d,n,rfl,i,_,k⟩:=h;refine⟨_,ak (aD (dG (aa (bN ib aq (ar g q (by rfl) T.ap.mg T.ap.fn.kp T.ap.bd .nil aB (aa (pv 0) (aa aq af)))) (aa (bN ib aq (ar g q (by rfl) T.ap.mg T.ap.fn.kp T.ap.bd .nil aB (aa (pv 0) (aa (bc (r:=cO K) aS (bD (aa aq (aa aq (aa aq af)))) (ar g q (by rfl) T.ap.mg T.ap.fn.kp T.ap.bd .nil aB (aa (pv 0) (aa aq af))) (λ_ _=>rfl)) af)))) af)))),?_⟩;refine⟨_,rfl,d,8,n,rfl,i,by lia,by decide,by decide,λG _ L c _ _=>⟨_,_,rfl,rfl,?_⟩⟩;refine⟨_,rfl,(by show 3<=Zg;decide),λp u=>⟨_,rfl,d,3,_,rfl,c.same (ae.new u),by lia,by decide,by decide,λF z x m I D=>?_⟩⟩;obtain⟨v,M,e,_⟩:=Ll I D;have j:z p=some (.lst [.int 3,.int 3,.int 9]):=dw x ab (c.ne u);refine⟨p,_,F,_,rfl,rfl,.of j,M,d,v,_,rfl,m,by lia,e,by lia,λC H3 B a _ _=>⟨_,_,rfl,rfl,(by show 2<=Zg;decide),λt f=>?_⟩⟩;have b:ae (wo d H) H3:=bI (bI L (bA.trans (ae.new u))) (by exact bI (by exact x) B);have y:=ae.new (o:=.tup [.int (2+G),.int (1+C)]) f;have l:=a.ne f;refine k t _ _ _ ?_ (b.trans y) ((a.same y).mono (by lia)) ab;have:=b.free f
  rwa [av l.symm]at this
def rfD (x:(Int×Str)×Option WC):Zf:=.tuple [zf x.1,oP x.2]
def AH (v:StV) (lo hi:Int) (p:WC):Zf:=.tuple [aJ p,.int (cnt v lo hi p:Nat)]
theorem Dy {H:Hp}:∀{xs:WD}{ds:WI},xs.length=ds.length->(∀(i:Nat) x d,xs[i]? = some x->ds[i]? = some d->Den K H x d)->aC K H xs ds
 | [],[],_,_=>.nil
 | [],_::_,h,_=>by cases h
 | _::_,[],h,_=>by cases h
 | x::xs,d::ds,h,k=>.cons (k 0 x d rfl rfl) (Dy (Nat.succ.inj h) λi y e b a=>k (i+1) y e b a)
def fk (K:Wz) (A:Ad):Sp:=λvs H Q _=>∃(B:Hp) (g pa tb:Za) (v:gr),vs=[.ref g]/\br K A.aU A.aH B H g pa tb v/\∀(D:Za) (acc:WD) (H':Hp),H D=none->ae H H'->H' D=some (.lst acc)->aC K H' acc (v.cur.rf.map rfD)->Q (.ref D) H'
def nc (K:Wz) (A:Ad):Sp:=λvs H Q _=>∃(B:Hp) (g pa tb:Za) (v:gr) (lo hi:Int),vs=[.ref g,.int lo,.int hi]/\br K A.aU A.aH B H g pa tb v/\∀(D:Za) (acc:WD) (H':Hp),H D=none->ae H H'->H' D=some (.lst acc)->aC K (lim H H') acc ((v.cur.bs++v.cur.fs).map (AH v.cur lo hi))->Q (.ref D) H'
theorem kD:aE ["self"] ["self"] (ag (mIn 57 4)):=by refine⟨rfl,rfl,rfl,?_,rfl,?_,?_⟩<;>decide +kernel
theorem kz (T:Tx K mg A):ay P w K mg base CX0 1 A.b7 A.dg ["self"] (fk K A):=by
 refine T.gC.fn.ok kD (λZ H Q E h=>?_) (λ_ _ _ s H Z Q E hr h=>?_)
 ·obtain⟨B,g,pa,Y,v,rfl,_⟩:=h;rfl
 ·obtain⟨B,g,pa,Y,v,rfl,R,k⟩:=h;have c:=R.okc;obtain⟨I,t,l,_,_,_,U,_,_,e,_,_,_,_,_,q,_⟩:=R;obtain⟨f,N,_,_,j,b,_,_,a,L,q2,q3,_,_,_,_,X,F⟩:=q;have z:b.length=v.cur.rs.length:=by rw[q3.length,Tt]
  have n:a.length=v.cur.rs.length:=by rw[F.length,Tt,c.len]
  have a0:=c.rl;refine⟨_,ak (aD (B8 hr (by rfl) T.li (by rfl) T.v3 (aa (bE T.bL T.ee (bE T.aM T.bf (pv 0))) (aa (bE T.bL T.dD (bE T.aM T.bf (pv 0))) af)))),?_⟩;refine⟨_,rfl,g,I,_,.ref l,rfl,U,rfl,l,f,_,.ref N,rfl,e _ _ L,rfl,_,rfl,g,I,_,.ref l,rfl,U,rfl,l,f,_,.ref j,rfl,e _ _ L,rfl,N,j,b,a,rfl,.of (e _ _ q2),.of (e _ _ X),by lia,λD y H' hD s u hl BV=>k D y H' hD s u (Dy ?_ λi x d M W=>?_)⟩
  ·rw[hl,z,n,Vm,Tt];unfold StV.rf;rw[Ul,c.len,Vm]
  ·rw[TF]at W;obtain⟨⟨r,o⟩,m,rfl⟩:=Option.map_eq_some_iff.mp W;unfold StV.rf at m;rw[Uq]at m;have hi:=aI M;have J:b[i]? = some b[i]:=Tu (by lia);have V:a[i]? = some a[i]:=Tu (by lia);obtain⟨t,G,e3,_⟩:=BV i _ _ hi J V;rw[M]at G;cases G;obtain⟨d1,S,C⟩:=q3.get J;obtain⟨d2,O,p⟩:=F.get V;rw[TF,m.1]at S;rw[TF,m.2]at O;cases S;cases O;exact .tup (.of e3) (.cons ((C.same e).same s) (.cons ((p.same e).same s) .nil))
theorem nz:aE ["self","low","high","falls"] ["self","low","high"] (ag (mIn 57 16)):=by refine⟨rfl,rfl,rfl,?_,rfl,?_,?_⟩<;>decide +kernel
theorem vA (T:Tx K mg A):ay P w K mg base CX0 2 A.gO A.jN ["self","low","high"] (nc K A):=by
 have kT:ay P w K mg base CX0 1 _ _ _ _:=OF (kz T);have il:ay P w K mg base CX0 1 _ _ _ _:=OF (kR T);refine T.tS.fn.ok nz (λvs H Q E h=>?_) (λ_ _ _ s H vs Q E hr h=>?_)
 ·obtain⟨B,g,pa,tb,v,j,f,rfl,_⟩:=h;rfl
 ·obtain⟨B,g,pa,tb,v,j,f,rfl,cF,k⟩:=h;have t:=cF.okc;have as:=t.rl;have PP:v.cur.rf.length=v.cur.rs.length:=by unfold StV.rf;rw[Ul,t.len,Vm]
  obtain⟨dx,_,_,_,hg⟩:=cF.gg;refine⟨_,aj (bq (i:=3) nz.nd rfl (Or.inr rfl) (ba (N':=["fall","moment","line","low","high"]) (n:=3) (fi:=[1,2]) (g:=uP K 2 (dh (uP K 2 (dh (aX 1) (dh (aX 2) sY))) (dh (aX 0) sY))) rfl (bj (ag (mIn 57 16)) ["self","low","high","falls"] (by decide +kernel)) (aY (dO (pv 0) T.aM T.kF kT hr T.gC.bd .nil aB)) (λs H O=>eN rfl (aL (eN rfl (aL (ax (i:=1) (show(["fall","moment","line","low","high"]:WF).Nodup by decide +kernel) rfl (Or.inl rfl) (.inr rfl)) (aL (ax (i:=2) (show(["fall","moment","line","low","high"]:WF).Nodup by decide +kernel) rfl (Or.inl rfl) (.inr rfl)) cL))) (aL (ax (i:=0) (show(["fall","moment","line","low","high"]:WF).Nodup by decide +kernel) rfl (Or.inl rfl) (.inr rfl)) cL))) (λs H O=>jm (Iq Dw yO (pv 3) (pv 1) (pv 4))) (λs H O=>pv 0)))
   (ak (aD (ba (N':=["pattern","falls"]) (n:=1) (fi:=[3]) (g:=aX 0) rfl (bj (ag (mIn 57 16)) ["self","low","high","falls"] (by decide +kernel)) (aY (dO (pv 0) T.aM T.kQ il hr T.jI.bd .nil aB)) (λs H O=>ax (i:=0) (show(["pattern","falls"]:WF).Nodup by decide +kernel) rfl (Or.inl rfl) (.inr rfl)) (λs H O=>aP) (λs H O=>dG (aa (pv 0) (aa (A7 (K:=K) rfl (r:=CJ K) Yc Z1 PySem.F.type_list_count (DO hr) (pv 1) (aa (pv 0) af)) af)))))),?_⟩
  refine⟨_,rfl,g,dx,_,rfl,hg,rfl,B,g,pa,tb,v,rfl,cF,λRF R H1 _ Y U N=>?_⟩;refine⟨RF,rfl,⟨_,.of U⟩,λFL V=>?_⟩;have QV:R.length=v.cur.rs.length:=by rw[N.length,Tt,PP]
  refine aN (K:=K) (xs:=R) (λi a C H2=>(∃u w z,C=[u,w,z,some (.int j),some (.int f)])/\ae H1 H2/\aC K H1 a (((v.cur.rf.take i).filter (zD j f)).map λx=>oP x.2)) ab ⟨⟨_,_,_,rfl⟩,ae.new V,.nil⟩ (λi a C H2 _ _ q=>.of (q.2.1 _ _ U)) (λi x a C H2 L J q=>?_) (λ_ C H2 ar q=>?_)
  ·obtain⟨⟨u,w,z,rfl⟩,m,G⟩:=q;obtain⟨d,hd,c9⟩:=N.get L;rw[TF]at hd;obtain⟨⟨r,o⟩,e1,rfl⟩:=Option.map_eq_some_iff.mp hd;have a9:=aI L;have ap:a.length<=64:=by
    rw[G.length,Tt];have b:=UG (zD j f) (v.cur.rf.take i);rw[TZ]at b;lia
   cases c9 with
   | tup aq ds=>
    cases ds with
    | cons d1 ds=>
     cases ds with
     | cons d2 ds=>
      cases ds;cases d1 with
      | tup a8 y=>
       cases y with
       | cons a1 y=>
        cases y with
        | cons a2 y=>
         cases y;cases a1;cases a2;refine⟨_,_,rfl,m.cU aq,rfl,_,_,rfl,_,_,rfl,m.cU a8,rfl,_,_,rfl,_,_,rfl,rfl,_,_,rfl,rfl,?_⟩;have ht:v.cur.rf.take (i+1)=v.cur.rf.take i++[(r,o)]:=by rw[T4,e1];rfl
         rw[ht,UJ,TK];have a4:zD j f (r,o)=false->aC K H1 a (((v.cur.rf.take i).filter (zD j f)).map (λx=>oP x.2)++([(r,o)].filter (zD j f)).map λx=>oP x.2):=λe=>by
          rw[U8,e,Zo TQ,List.filter_nil,U0,Uu];exact G
         refine⟨_,rfl,_,rfl,_,_,rfl,rfl,_,rfl,?_⟩;by_cases b:j<=r.1
         ·rw[show decide (j<=(r,o).1.1)=true from Zk b];refine fc ⟨_,rfl,_,_,rfl,rfl,_,rfl,?_⟩;by_cases h2:r.1<f
          ·rw[show decide ((r,o).1.1<f)=true from Zk h2];refine fc ⟨_,rfl,a,J,small (by lia),_,ab,⟨_,_,_,rfl⟩,aA V m,?_⟩;have e:zD j f (r,o)=true:=Zk ⟨b,h2⟩;rw[U8,e,Zn rfl];exact G.append (.cons d2 .nil)
          ·rw[show decide ((r,o).1.1<f)=false from Zl h2];exact bU ⟨a,J,⟨_,_,_,rfl⟩,m,a4 (Zl λz=>h2 z.2)⟩
         ·rw[show decide (j<=(r,o).1.1)=false from Zl b];exact bU ⟨_,rfl,bU ⟨a,J,⟨_,_,_,rfl⟩,m,a4 (Zl λz=>b z.1)⟩⟩
  ·obtain⟨_,m,a5⟩:=q;rw[QV,<-PP,Uv]at a5;have qP:=cF.same (Y.trans m);refine⟨_,rfl,g,dx,_,rfl,m _ _ (Y _ _ hg),rfl,B,g,pa,tb,v,rfl,qP,λPS pv H3 _ S W I=>?_⟩;refine⟨PS,rfl,⟨_,.of W⟩,λD hD=>?_⟩;have LV:pv.length=(v.cur.bs++v.cur.fs).length:=by rw[I.length,Tt]
   have Sr:(v.cur.bs++v.cur.fs).length<128:=by
    have b:=t.bl;have h2:=t.gth.lt;rw[TJ];lia
   have Z:=S _ _ ar;have RB:=(a5.same m).same S;have Rv:=I.same cE;refine aN (K:=K) (xs:=pv) (λi a C H4=>(∃u,C=[u,some (.ref FL)])/\ae H3 (wo D H4)/\aC K (wo D (lim H H4)) a (((v.cur.bs++v.cur.fs).take i).map (AH v.cur j f))) ab ⟨⟨_,rfl⟩,?_,.nil⟩ (λi a C H4 _ _ q=>.of (bA _ _ (q.2.1 _ _ W))) (λi x a C H4 L a3 q=>?_) (λa C H4 ai q=>?_)
   ·intro c o e;rw[av (nn e hD),ao (nn e hD)];exact e
   ·obtain⟨q0,s4,G⟩:=q;apply d5 q0;clear q0;intro u;obtain⟨d,hd,c9⟩:=Rv.get L;have X:=hd;rw[TF]at X;obtain⟨p,e1,ed⟩:=Option.map_eq_some_iff.mp X;subst ed;have a9:=aI L;have l:ae H3 H4:=s4.trans bA;have ap:a.length<=i:=by
     rw[G.length,Tt,TZ];lia
    refine cC ⟨_,rfl,_,rfl,.inl ⟨rfl,_,.of (l _ _ Z)⟩,_,rfl,_,_,_,rfl,.lst (.of (l _ _ Z)) (RB.same l),c9.same l,TN (cs _) (by decide),(by show 2<=Zg;decide),λq hq=>?_⟩;rw[MN t (TB e1)];have hqD:D≠q:=λe=>by rw[<-e,a3]at hq;cases hq
    have sW:ae (wo D H4) (wo D (upd (upd H4 q (.tup [x,.int (cnt v.cur j f p:Nat)])) D (.lst (a++[.ref q])))):=λc o e=>by
     obtain⟨b,e⟩:=aZ e;rw[av b,ao b,ao λz=>by rw[z,hq]at e;cases e];exact e
    refine⟨a,by rw[ao hqD];exact a3,small (by lia),_,ab,⟨_,rfl⟩,s4.trans sW,?_⟩;rw[T4,e1,TK];have a0:=Y.trans m;have a7:H q=none:=((a0.trans S).trans l).free hq;have up:∀{c:Za}{o:HO},c≠D->H4 c=some o->(upd (upd H4 q (.tup [x,.int (cnt v.cur j f p:Nat)])) D (.lst (a++[.ref q]))) c=some o:=λ{c o} b e=>by
     rw[ao b,ao λz=>by rw[z,hq]at e;cases e];exact e
    have sL:ae (wo D (lim H H4)) (wo D (lim H (upd (upd H4 q (.tup [x,.int (cnt v.cur j f p:Nat)])) D (.lst (a++[.ref q]))))):=λc o e=>by
     obtain⟨b,e⟩:=aZ e;have hn:=fQ e;rw[bw hn]at e;rw[av b,bw hn];exact up b e
    have sN:ae (lim H2 H3) (wo D (lim H (upd (upd H4 q (.tup [x,.int (cnt v.cur j f p:Nat)])) D (.lst (a++[.ref q]))))):=λc o e=>by
     have hn:=fQ e;rw[bw hn]at e;have b:c≠D:=nn e hD
     rw[av b,bw λzs z=>hn zs (a0 _ _ z)];exact up b (l _ _ e)
    obtain⟨_,M,a6⟩:=I.get L;rw[hd]at M;cases M;refine(G.same sL).append (.cons ?_ .nil);exact .tup (.of (by rw[av hqD.symm,cf a7,ao hqD.symm];exact ab)) (.cons (a6.same sN) (.cons (.int _) .nil))
   ·obtain⟨_,s4,G⟩:=q;rw[LV,Uv]at G;have ah:=((Y.trans m).trans S).trans (s4.trans bA);exact k D a H4 (((Y.trans m).trans S).free hD) ah ai (G.same bA)
def Gr (K:Wz):WD->Hp->VK->Prop:=λxs H Q=>∃p ys,xs=[V.ref p]/\((SqL K H p ys/\∀l:Za,H l=none->Q (V.ref l) (upd H l (HO.tup ys)))\/SqT K H p ys/\Q (V.ref p) H)
def zd (K:Wz) (A:Ad):Sp:=λvs H Q _=>∃(B:Hp) (a b:Za) (va vb:StV) (oa ob:WB),vs=[.ref a,.ref b]/\wZ K A.aH B a va/\wZ K A.aH B b vb/\ae B H/\va.os=oa.map some/\vb.os=ob.map some/\(∀ps∈oa,POk ps)/\(∀ps∈ob,POk ps)/\oa.length<64 /\
 ∀(D:Za) (acc:WD) (H':Hp) (l:List (Kq×Nat)),H D=none->ae H H'->H' D=some (.lst acc)->aC K (lim H H') acc (l.map mvD)->nZ (oa.zip ob) l->Q (.ref D) H'
theorem wK {H:Hp}{xs:WD}{a:WB}{i:Nat}{x:V} (h:aC K H xs ((a.map some).map oP)) (hx:xs[i]? = some x):∃ps,a[i]? = some ps/\Den K H x (aJ ps):=by
 obtain⟨o,b,c⟩:=si h hx;rw[TF]at b;obtain⟨ps,e,rfl⟩:=Option.map_eq_some_iff.mp b;exact⟨ps,e,c⟩
theorem zj:aE ["ahead","behind","many"] ["ahead","behind"] (ag (top 55)):=by refine⟨rfl,rfl,rfl,?_,rfl,?_,?_⟩<;>decide +kernel
theorem Hr (T:Tx K mg A):ay P w K mg base CX0 7 A.xZ A.xH ["ahead","behind"] (zd K A):=by
 have Nw:ay P w K mg base CX0 6 _ _ _ _:=OF (uX T);have zK:ay P w K mg base CX0 4 _ _ _ _:=OF (zL T);refine T.moved.fn.ok zj (λvs H Q E h=>?_) (λ_ _ _ s H vs Q E hr h=>?_)
 ·obtain⟨B,a,b,va,vb,oa,ob,rfl,_⟩:=h;rfl
 ·obtain⟨B,a,b,va,vb,oa,ob,rfl,ck,c6,sB,bx,cc,c4,bk,_,k⟩:=h;refine⟨_,aj (bq (i:=2) zj.nd rfl (Or.inr rfl) (ar Nw hr (by rfl) T.mK.mg T.mK.fn.kp T.mK.bd .nil aB (aa (ba (N':=["old","new"]) (n:=2) (fi:=[]) (g:=uP K 2 (dh (aX 0) (dh (aX 1) sY))) rfl (bj (ag (top 55)) ["ahead","behind","many"] (by decide +kernel)) (tE (by rfl) T.v3 (aa (bE T.bL T.dD (pv 0)) (aa (bE T.bL T.dD (pv 1)) af))) (λs H fp=>eN rfl (aL (ax (i:=0) (show(["old","new"]:WF).Nodup by decide +kernel) rfl (Or.inl rfl) (.inr rfl)) (aL (ax (i:=1) (show(["old","new"]:WF).Nodup by decide +kernel) rfl (Or.inl rfl) (.inr rfl)) cL))) (λs H fp=>aP) (λs H fp=>dG (aa (cH (r:=Gr K) jd (by rfl) T.xn tQ (aa (pv 0) af)) (aa (cH (r:=Gr K) jd (by rfl) T.xn tQ (aa (pv 1) af)) af)))) af)))
   (ak (aD (ba (N':=["pair","many"]) (n:=1) (fi:=[2]) (g:=aX 0) rfl (bj (ag (top 55)) ["ahead","behind","many"] (by decide +kernel)) (aY (E9 (C:=rL) (a:=.b6 .int oW) (r:=M4) (.b6 _ _) zK hr T.uq.bd (by rfl) T.js (by rfl) T.uq.mg (aa (pv 2) af))) (λs H fp=>ax (i:=0) (show(["pair","many"]:WF).Nodup by decide +kernel) rfl (Or.inl rfl) (.inr rfl)) (λs H fp=>aP) (λs H fp=>dG (aa (cH (r:=j8 K) fG (by rfl) T.li i0 (aa (bc (r:=oz K) eX (pv 0) aq (λ_ _=>rfl)) af)) (aa (cH (r:=j8 K) fG (by rfl) T.li i0 (aa (bc (r:=oz K) eX (pv 0) aq (λ_ _=>rfl)) af)) (aa (HG (C:=rL) (w0:=w) (K0:=K) rfl rfl (LM hr) (pv 1) (pv 0) (λ_ _=>rfl)) af))))))),?_⟩
  obtain⟨c3,_,_,_,fa,_,_,_,la,a1,_,_,_,_,_,_,a8,a9⟩:=ck;obtain⟨bu,_,_,_,fb,_,_,_,lb,b1,_,_,_,_,_,_,b8,b9⟩:=c6;rw[bx]at a9;rw[cc]at b9;have cb:la.length=oa.length:=by rw[a9.length,Tt,Tt]
  have bt:lb.length=ob.length:=by rw[b9.length,Tt,Tt]
  refine⟨_,rfl,a,c3,_,.ref fa,rfl,sB _ _ a1,rfl,_,rfl,b,bu,_,.ref fb,rfl,sB _ _ b1,rfl,fa,fb,rfl,⟨_,.of (sB _ _ a8)⟩,⟨_,.of (sB _ _ b8)⟩,λL hL=>?_⟩;have sL:ae H (upd H L (.lst [])):=ae.new hL;refine ul (K:=K) (xs:=la) (ys:=lb) (λi f R J=>(∃u v,R=[u,v])/\ae H J/\aC K (wo L J) f (((oa.zip ob).take i).map prD)) ab ⟨⟨_,_,rfl⟩,sL,.nil⟩ (λi f R J _ q=>⟨.of (q.2.1 _ _ (sB _ _ a8)),.of (q.2.1 _ _ (sB _ _ b8))⟩) (λi x y f R J p I hy bl q hp=>?_) (λf R J cp q=>?_)
  ·obtain⟨q0,s2,dn⟩:=q;apply rO q0;clear q0;intro u v;obtain⟨ps,cw,cm⟩:=wK a9 I;obtain⟨qs,cq,bi⟩:=wK b9 hy;have ez:(oa.zip ob)[i]? = some (ps,qs):=by rw[Uq];exact⟨cw,cq⟩
   have hi:=aI ez;have bh:(oa.zip ob).length<=oa.length:=by rw[Ul];lia
   have sp:ae J (upd J p (.tup [x,y])):=ae.new hp;obtain⟨c1,M,rfl,q1,d1⟩:=fg cm;obtain⟨c2,F,rfl,q2,d2⟩:=fg bi;have b5:(upd J p (.tup [.ref c1,.ref c2])) p=some (.tup [.ref c1,.ref c2]):=ab;generalize upd J p (.tup [.ref c1,.ref c2])=H3 at sp b5 ⊢;have b2:=sB.trans (s2.trans sp);refine BO (.of b5) ⟨_,rfl,c1,M,rfl,.inl ⟨b2.seq q1,λt1 ct=>?_⟩⟩;have a0:ae H3 (upd H3 t1 (.tup M)):=ae.new ct;have OR:(upd H3 t1 (.tup M)) t1=some (.tup M):=ab;generalize upd H3 t1 (.tup M)=H4 at a0 OR ⊢;refine⟨_,rfl,c2,F,rfl,.inl ⟨(b2.trans a0).seq q2,λt2 cs=>?_⟩⟩;have ap:ae H4 (upd H4 t2 (.tup F)):=ae.new cs;have Nv:(upd H4 t2 (.tup F)) t2=some (.tup F):=ab;generalize upd H4 t2 (.tup F)=H5 at ap Nv ⊢;refine⟨(by show 2<=Zg;decide),λt3 br=>?_⟩;have Y:ae H5 (upd H5 t3 (.tup [.ref t1,.ref t2])):=ae.new br;have Oa:(upd H5 t3 (.tup [.ref t1,.ref t2])) t3=some (.tup [.ref t1,.ref t2]):=ab;generalize upd H5 t3 (.tup [.ref t1,.ref t2])=H6 at Y Oa ⊢;have O:ae J H6:=sp.trans (a0.trans (ap.trans Y));have au:ae B H6:=sB.trans (s2.trans O);have U:=O _ _ bl;have To:f.length<=i:=by rw[dn.length,Tt,TZ];lia
   have nl:∀{c:Za}{ys:WD},H6 c=some (.tup ys)->wo L H6 c=some (.tup ys):=λ{c ys} h=>by
    rw[av (nn h U)];exact h
   have wu:wo L (upd H6 L (.lst (f++[.ref t3])))=wo L H6:=by
    funext c
    by_cases e:c=L
    ·rw[e,cu,cu]
    ·rw[av e,av e,ao e]
   refine⟨f,U,small (by lia),_,ab,⟨_,_,rfl⟩,aA hL (s2.trans O),?_⟩;rw[wu,T4,ez,TK];exact(dn.same (iK O)).append (.cons (.tup (.of (nl Oa)) (.cons (.tup (.of (nl (Y _ _ (ap _ _ OR)))) (Gw U (d1.same au))) (.cons (.tup (.of (nl (Y _ _ Nv))) (Gw U (d2.same au))) .nil))) .nil)
  obtain⟨_,s2,dn⟩:=q;have bh:(oa.zip ob).length<=oa.length:=by rw[Ul];lia
  have bf:min la.length lb.length=(oa.zip ob).length:=by rw[Ul,cb,bt]
  rw[bf,Uv]at dn;have bz:aC K J f ((oa.zip ob).map prD):=dn.same bA;have ai:∀kp∈oa.zip ob,POk kp.1/\POk kp.2:=λkp h=>by
   have:=Vu (a:=kp.1) (b:=kp.2) h;exact⟨c4 _ this.1,bk _ this.2⟩
  refine⟨L,f,oa.zip ob,rfl,.of cp,bz,λkp h=>⟨(ai kp h).1.2,(ai kp h).2.2⟩,by lia,λd l H3 _ s3 b4 c8 ho _=>?_⟩;have cv:=s2.trans s3;have IJ:∀x∈l,JG x.1/\Den K H3 (.ref x.2.1) (prD x.1):=λx I=>by
   have:=c8 (x.1,x.2.1,.int (x.2.2:Int)) (Tv.mpr ⟨x,I,rfl⟩);exact⟨this.1,this.2.same s3⟩
  have as:∀x∈l,POk x.1.1/\POk x.1.2:=λx I=>ai _ ((ho.mem x.1).mp (Tv.mpr ⟨x,I,rfl⟩));have bb:((hoN l).map λkv=>V.ref kv.2.1)=l.map λx=>V.ref x.2.1:=by unfold hoN;rw[T7];rfl
  have ah:((hoN l).map λkv=>V.ref kv.2.1).length=l.length:=by rw[bb,Tt]
  refine⟨_,rfl,_,rfl,d,_,_,rfl,b4,rfl,by rw[ah];lia,?_⟩;refine p9 (K:=K) (H0:=H3) _ (l.map λx=>pkD x.1) [] [] H3 (by rw[ah,Tt]) (ae.refl H3) .nil (λi x d2 H4 _ I b7 s4 kk=>?_) (λks H4 s4 d1=>?_)
  ·rw[bb,TF]at I;obtain⟨y,e,rfl⟩:=Option.map_eq_some_iff.mp I;rw[TF,e]at b7;cases b7;have hy:=TB e;exact⟨_,y.1,rfl,(IJ y hy).2.same s4,(as y hy).1,(as y hy).2,λr H' sr dr=>kk r H' sr dr⟩
  have cn:aC K H4 ks (l.map λx=>pkD x.1):=by simpa using d1
  refine⟨_,cn,λdd a7=>?_,λdd a7=>?_,λD0 p cj hp c7=>?_⟩
  ·obtain⟨x,_,rfl⟩:=Tv.mp a7;exact KO _
  ·obtain⟨x,_,rfl⟩:=Tv.mp a7;exact Ml _
  rw[ah]at hp;rw[Ii hp];have X:=EK hp;have b0:=Hi hp c7;generalize DW l p=m at X b0 ⊢;have cy:m.length=l.length:=X.length_eq;refine⟨D0,rfl,⟨_,.of ab⟩,λD hD=>?_⟩;have sb:ae H3 (upd H4 D0 (.lst (m.map λx=>V.ref x.2.1))):=s4.trans (ae.new cj);have Jq:(upd H4 D0 (.lst (m.map λx=>V.ref x.2.1))) D0=some (.lst (m.map λx=>V.ref x.2.1)):=ab;generalize upd H4 D0 (HO.lst (m.map λx=>V.ref x.2.1))=Hb at sb Jq hD ⊢;have W:ae Hb (upd Hb D (.lst [])):=ae.new hD;refine aN (K:=K) (xs:=m.map λx=>V.ref x.2.1) (λi f R H5=>(∃u,R=[u,some (.ref d)])/\ae Hb H5/\aC K (lim (upd Hb D (.lst [])) H5) f ((m.take i).map λx=>mvD (x.1,x.2.2))) ab ⟨⟨_,rfl⟩,W,.nil⟩ (λi f R H5 _ _ q=>.of (q.2.1 _ _ Jq)) (λi x f R H5 I be q=>?_) (λf R H5 cx q=>?_)
  ·obtain⟨q0,s5,o⟩:=q;apply d5 q0;clear q0;intro u;rw[TF]at I;obtain⟨y,e,rfl⟩:=Option.map_eq_some_iff.mp I;have hi:=aI e;have hy:y∈l:=X.mem_iff.mp (TB e);obtain⟨c5,c9⟩:=IJ y hy;obtain⟨_,_,_,eb,b3,bw,bo⟩:=yq c9;cases eb;obtain⟨c1,M,rfl,q1,d1⟩:=uM bw;obtain⟨c2,F,rfl,q2,d2⟩:=uM bo;have j:=sb.trans s5;refine cC ⟨_,rfl,_,_,0,_,rfl,rfl,j.cU b3,rfl,c1,M,rfl,.inr (j.cU q1),λZ bg=>?_⟩;have G:ae H5 (upd H5 Z (.lst M)):=ae.new bg;have Og:(upd H5 Z (.lst M)) Z=some (.lst M):=ab;generalize upd H5 Z (.lst M)=H6 at G Og ⊢;refine⟨_,rfl,_,_,1,_,rfl,rfl,(j.trans G).cU b3,rfl,c2,F,rfl,.inr ((j.trans G).cU q2),λl2 aw=>?_⟩;have a6:ae H6 (upd H6 l2 (.lst F)):=ae.new aw;have Pf:(upd H6 l2 (.lst F)) l2=some (.lst F):=ab;generalize upd H6 l2 (.lst F)=H7 at a6 Pf ⊢;have a5:=G.trans a6;have a3:=j.trans a5;have c0:qY K rL H7 (hoN l):=λz hz=>by
    obtain⟨q,hq,rfl⟩:=Tv.mp hz;exact⟨(IJ q hq).1,(IJ q hq).2.same a3⟩
   refine⟨_,rfl,_,rfl,d,.int (y.2.2:Int),rfl,⟨hoN l,y.1,_,a3 _ _ b4,c0,rfl,c5,c9.same a3,?_⟩,(by show 3<=Zg;decide),λt ht=>?_⟩
   ·rw[xi,Cy ho.nd hy];rfl
   have S:ae H7 (upd H7 t (.tup [.ref Z,.ref l2,.int (y.2.2:Int)])):=ae.new ht;have az:(upd H7 t (.tup [.ref Z,.ref l2,.int (y.2.2:Int)])) t=some (.tup [.ref Z,.ref l2,.int (y.2.2:Int)]):=ab;generalize upd H7 t (.tup [.ref Z,.ref l2,.int (y.2.2:Int)])=H8 at S az ⊢;have N:=a5.trans S;have bp:=N _ _ be;have Rp:f.length=i:=by rw[o.length,Tt,TZ];lia
   have fr:∀{c:Za},H5 c=none->(upd Hb D (.lst [])) c=none:=λ{c} h=>by
    have cg:c≠D:=nn h be
    rw[ao cg];exact s5.free h
   refine⟨f,bp,small (by lia),_,ab,⟨_,rfl⟩,aA hD (s5.trans N),?_⟩;rw[mI (ys:=[]) ab,T4,e,TK];refine(o.same (bQ N)).append (.cons (.tup (.of ((cf (fr (a5.free ht))).trans az)) (.cons (.lst (.of ((cf (fr bg)).trans (S _ _ (a6 _ _ Og)))) ?_) (.cons (.lst (.of ((cf (fr (G.free aw))).trans (S _ _ Pf))) ?_) (.cons (.int _) .nil)))) .nil)
   ·exact j6 (sb.trans W) (j.trans N) d1
   ·exact j6 (sb.trans W) (j.trans N) d2
  ·obtain⟨_,s5,o⟩:=q;rw[Tt,Uv]at o;have e:(m.map λx=>mvD (x.1,x.2.2))=(m.map λx=>(x.1,x.2.2)).map mvD:=by rw[T7];rfl
   rw[e]at o;have a4:=cv.trans sb;exact k D f H5 _ (a4.free hD) (a4.trans s5) cx (o.same (cW (a4.trans W).ll)) (OI ho X b0)
def pC (K:Wz) (A:Ad):Sp:=λvs H Q _=>∃(B:Hp) (g pa tb:Za) (v:gr) (oa ob:WB),vs=[.ref g]/\br K A.aU A.aH B H g pa tb v/\v.ah.os=oa.map some/\v.cur.os=ob.map some/\(∀ps∈oa,POk ps)/\(∀ps∈ob,POk ps)/\oa.length<64 /\
 ∀(D:Za) (acc:WD) (H':Hp) (l:List (Kq×Nat)),H D=none->ae H H'->H' D=some (.lst acc)->aC K (lim H H') acc (l.map mvD)->nZ (oa.zip ob) l->Q (.ref D) H'
theorem xj:aE ["self"] ["self"] (ag (mIn 57 12)):=by refine⟨rfl,rfl,rfl,?_,rfl,?_,?_⟩<;>decide +kernel
theorem xF (T:Tx K mg A):ay P w K mg base CX0 8 A.i4 A.lN ["self"] (pC K A):=by
 have y:ay P w K mg base CX0 7 _ _ _ _:=OF (Hr T);refine T.mG.fn.ok xj (λu H Q E h=>?_) (λ_ _ _ s H u Q E o h=>?_)
 ·obtain⟨B,g,z,l,v,i,f,rfl,_⟩:=h;rfl
 ·obtain⟨B,g,z,l,v,i,f,rfl,q,n,m,C,r,p,k⟩:=h;obtain⟨j,t,e,c,_,_,d,_,_,x,_,_,_,_,_,a,b,_⟩:=q;refine⟨_,ak (aD (ar y o (by rfl) T.moved.mg T.moved.fn.kp T.moved.bd .nil aB (aa (bE T.aM T.km (pv 0)) (aa (bE T.aM T.bf (pv 0)) af)))),?_⟩;exact⟨_,rfl,g,j,_,.ref c,rfl,d,rfl,_,rfl,g,j,_,.ref e,rfl,d,rfl,B,c,e,v.ah,v.cur,i,f,rfl,b,a,x,n,m,C,r,p,k⟩
def Aj (v:StV) (ob:WB):Zf:=.list [.list ((v.bs++v.fs).map aJ),.list (ob.map aJ),.list ((v.bs++v.fs).map (AH v 0 1))]
def ph (K:Wz) (A:Ad):Sp:=λvs H Q _=>∃(B:Hp) (g pa tb:Za) (v:gr) (ob:WB),vs=[.ref g]/\br K A.aU A.aH B H g pa tb v/\v.cur.os=ob.map some /\
 ∀(X:Za) (H':Hp),H X=none->ae H H'->Den K (lim H H') (.ref X) (Aj v.cur ob)->Q (.ref X) H'
theorem xu:aE ["log"] ["log"] (ag (top 67)):=by refine⟨rfl,rfl,rfl,?_,rfl,?_,?_⟩<;>decide +kernel
theorem xc (T:Tx K mg A):ay P w K mg base CX0 3 A.lB A.md ["log"] (ph K A):=by
 have il:ay P w K mg base CX0 2 _ _ _ _:=OF (kR T);have xQ:ay P w K mg base CX0 2 _ _ _ _:=OF (vA T);have Ao:ay P w K mg base CX0 2 _ _ _ _:=OF (xY T);have BP:ay P w K mg base CX0 1 _ _ _ _:=OF (B0 T);refine T.bY.fn.ok xu (λvs H Q E h=>?_) (λ_ _ _ s H vs Q E V h=>?_)
 ·obtain⟨B,g,L,I,v,ob,rfl,_⟩:=h;rfl
 ·obtain⟨B,g,L,I,v,ob,rfl,C,O,k⟩:=h;obtain⟨d,_,_,_,j⟩:=C.gg;have J:=C.okc;have aj:=J.rl;have Y:ob.length=v.cur.rs.length:=by rw[<-J.len,O,Tt]
  refine⟨_,ak (aD (bD (aa (dO (pv 0) T.aM T.kQ il V T.jI.bd .nil aB) (aa (ba (N':=["number","log"]) (n:=1) (fi:=[0]) (g:=aX 0) rfl (bj (ag (top 67)) ["log"] (by decide +kernel)) (dW (by rfl) T.gP (aa (aK (r:=K6 A.aU (om K A)) (E8 T.AI BP V T.DA.bd) (by rfl) T.cJ Yb (aa (pv 0) af)) af)) (λs H fp=>ax (i:=0) (show(["number","log"]:WF).Nodup by decide +kernel) rfl (Or.inl rfl) (.inr rfl)) (λs H fp=>aP) (λs H fp=>iO (pv 1) T.aM T.xv Ao V T.wq.bd .nil aB (aa (pv 0) af))) (aa (iO (pv 0) T.aM T.uV xQ V T.tS.bd .nil aB (aa aq (aa aq af))) af))))),?_⟩;refine⟨_,rfl,g,d,_,rfl,j,rfl,B,g,L,I,v,rfl,C,λPS pv H1 a4 N Z a9=>?_⟩;refine⟨_,rfl,g,d,_,rfl,N _ _ j,B,g,L,I,v,rfl,C.same N,v.cur.rs.length,rfl,by lia,_,rfl,by lia,by lia,λD hD=>?_⟩;have a0:H D=none:=N.free hD;refine fL (λi b σ y=>(∃u,σ=[u,some (.ref g)])/\ae H1 y/\aC K (wo D (lim H y)) b ((ob.take i).map aJ)) ab ⟨⟨_,rfl⟩,ae.new hD,.nil⟩ (λi b σ y _ m q=>?_) (λb σ y W q=>?_)
  ·obtain⟨q0,G,x⟩:=q;apply d5 q0;clear q0;intro u;have a7:i<ob.length:=by lia
   have e:ob[i]? = some ob[i]:=Tu a7;have a:=N.trans G;have ap:b.length<=i:=by rw[x.length,Tt,TZ];lia
   refine cC ⟨_,rfl,g,d,_,rfl,a _ _ j,rfl,_,rfl,B,g,L,I,v,i,ob[i],(by rw[VZ];rfl),C.same a,by rw[O,TF,e];rfl,λE _ t hE f ai dE=>?_⟩;have S:E≠D:=(aw m hE).symm;have ah:=f _ _ m;have sL:ae (wo D (lim H y)) (wo D (lim H (upd t D (.lst (b++[.ref E]))))):=λc o h=>by
    obtain⟨M,h⟩:=aZ h;have F:=fQ h;rw[bw F]at h;rw[av M,bw F,ao M];exact f _ _ h
   refine⟨b,ah,small (by lia),_,ab,⟨_,rfl⟩,aA hD (G.trans f),?_⟩;rw[T4,e,TK];refine(x.same sL).append (.cons (.lst (.of (by rw[av S,cf (a.free hE),ao S];exact ai)) (dE.same λc o h=>?_)) .nil);have F:=fQ h;rw[bw F]at h;have M:c≠D:=λz=>F b (by rw[z];exact m);rw[av M,bw λzs z=>F zs (a _ _ z),ao M];exact h
  obtain⟨_,G,x⟩:=q;have a:=N.trans G;have a6:aC K (lim H y) b (ob.map aJ):=by
   have:(v.cur.rs.length:Int).toNat=ob.length:=by rw[Y];rfl
   rw[this]at x;rw[Uv]at x;exact x.same bA
  refine⟨_,rfl,g,d,_,rfl,a _ _ j,rfl,B,g,L,I,v,0,1,rfl,C.same a,λU _ t a5 f a3 a8=>⟨(by show 3<=Zg;decide),λX hX=>?_⟩⟩;have p:=a.trans f;have l:ae t (upd t X (.lst [.ref PS,.ref D,.ref U])):=ae.new hX;have R:(upd t X (.lst [.ref PS,.ref D,.ref U])) X=some (.lst [.ref PS,.ref D,.ref U]):=ab;generalize upd t X (.lst [.ref PS,.ref D,.ref U])=H4 at l R ⊢;refine k X H4 (p.free hX) (p.trans l) ?_;refine .lst (.of ((cf (p.free hX)).trans R)) (.cons (.lst (.of ((cf a4).trans (l _ _ (f _ _ (G _ _ Z))))) (a9.same (bQ (G.trans (f.trans l))))) (.cons (.lst (.of ((cf a0).trans (l _ _ (f _ _ W)))) (a6.same (bQ (f.trans l)))) (.cons (.lst (.of ((cf (a.free a5)).trans (l _ _ a3))) ((a8.same (bQ l)).same (cW a.ll))) .nil)))
def gZ (K:Wz) (A:Ad):Sp:=λvs H Q _=>∃(B W:Hp) (g pa tb a t:Za) (v:gr) (z:Str),vs=[.ref g,.ref a,.str z,.ref t]/\br K A.aU A.aH B H g pa tb v/\B A.au=none/\Kept W H g pa tb A.au/\W a=some (.lst (v.cur.zZ.map V.str))/\SqT K W t [.int v.s,.int v.l]/\v.cur.bs=[]/\(∃ws,fP 12 z ws)/\v.cur.rs.length<60/\(∀q∈v.cur.rs,q.1<=0)/\v.past.length<=1000/\bP A.au H /\
 ∀(H' B':Hp) (tb':Za) (cur ah:StV) (past:List (List (Int×Str)×WB)),bP A.au H'->Kept W H' g pa tb' A.au->B' A.au=none->br K A.aU A.aH B' H' g pa tb' ⟨v.s,v.l,cur,ah,past,[]⟩->cur.rs=v.cur.rs++[(0,z)]->cur.bs=[]->past.length=v.past.length+1->Q (.bl true) H'
theorem xb {K:Wz}{H:Hp}{x:V}{m:Kq×Nat} (h:Den K H x (mvD m)):∃(t:Za) (y1 y2:V),x = .ref t/\SqT K H t [y1,y2,.int (m.2:Int)]/\Den K H y1 (aJ m.1.1)/\Den K H y2 (aJ m.1.2):=by
 cases h with
 | tup a t=>
  cases t with
  | cons d t=>cases t with
   | cons c t=>cases t with
    | cons b t=>cases t;cases b;exact⟨_,_,_,rfl,a,d,c⟩
theorem Cp {K:Wz}{H:Hp}{X:Za}{a b c:Zf} (h:Den K H (.ref X) (.list [a,b,c])):∃(x y z:V),SqL K H X [x,y,z]/\Den K H x a/\Den K H y b/\Den K H z c:=by
 cases h with
 | lst d t=>
  cases t with
  | cons g t=>cases t with
   | cons f t=>cases t with
    | cons e t=>cases t;exact⟨_,_,_,d,g,f,e⟩
theorem xh {K:Wz}{H:Hp}{v:V}{ds:WI} (h:Den K H v (.list ds)):∃a xs,v = .ref a/\SqL K H a xs/\aC K H xs ds:=by
 cases h with
 | lst hq t=>exact⟨_,_,rfl,hq,t⟩
theorem gL {K:Wz}{H:Hp}{v:V}{d:Zf} (h:Den K H v d):Y9 d d=true:=PySem.SeqAt.eqv_refl d h.lay
theorem tT {K:Wz}{H:Hp}{xs:WD}{l:List (Kq×Nat)}{i:Nat}{x:V} (h:aC K H xs (l.map mvD)) (hx:xs[i]? = some x):∃m,l[i]? = some m/\Den K H x (mvD m):=by
 obtain⟨d,a,b⟩:=h.get hx;rw[TF]at a;obtain⟨m,e,rfl⟩:=Option.map_eq_some_iff.mp a;exact⟨m,e,b⟩
theorem Ht {κ:Type} [DecidableEq κ] {ks:List κ}{k:κ} (h:k∈ks):1<=MD ks k:=List.count_pos_iff.mpr h
theorem Kg {κ:Type} [DecidableEq κ] {ks:List κ}{k:κ}:MD ks k<=ks.length:=List.count_le_length
theorem CI {ks:List Kq}{l:List (Kq×Nat)} (h:nZ ks l) {m:Kq×Nat} (f:m∈l):m.2<=ks.length/\l.length<=ks.length:=by
 have e:∀x∈l,1<=x.2:=λx b=>by
  rw[h.cn x b];exact Ht ((h.mem x.1).mp (Tv.mpr ⟨x,b,rfl⟩))
 have g:=h.sum;have d:∀(l:List (Kq×Nat)),(∀x∈l,1<=x.2)->l.length<=(l.map (·.2)).sum:=λl=>by
  induction l with
  | nil=>intro _;exact Tw _
  | cons a r c=>
   intro q;have:=c λx b=>q x (TC _ b);have:=q a (TH ..);rw[TX,Uw,TR];lia
 have:=d l e;have i:m.2<=ks.length:=by rw[h.cn m f];exact Kg
 lia
theorem G9 {ks:List Kq}{l:List (Kq×Nat)} (h:nZ ks l):l.length<=ks.length:=by
 cases l with
 | nil=>exact T2 _
 | cons a r=>exact(CI h (TH ..)).2
theorem sum_nat {α:Type} (f:α->Nat):∀l:List α,(l.map λx=>((f x:Nat):Int)).sum=(((l.map f).sum:Nat):Int)
 | []=>rfl
 | a::l=>by rw[TX,Uw,sum_nat f l,TX,Uw];lia
theorem jt {α:Type}{f:α->Zf}{l:List α}{n:Nat} (h:∀x∈l,(f x).depth<=n):(PyData.list (l.map f)).depth<=n+1:=by
 have:Y3 (l.map f)<=n:=cK _ λd a=>by
  obtain⟨x,b,rfl⟩:=Tv.mp a;exact h x b
 simp only[Yj];lia
theorem Mn (m:Kq×Nat):(mvD m).depth<=92:=by
 have h1:=cs m.1.1;have h2:=cs m.1.2;simp only[mvD,Yj,Y3];lia
theorem Ky (v:StV) (p:WC):(AH v 0 1 p).depth<=92:=by
 have h1:=cs p;simp only[AH,Yj,Y3];lia
theorem y6 (v:StV) (d:WB):(Aj v d).depth<=100:=by
 have h:=jt (l:=v.bs++v.fs) (f:=aJ) (n:=90) λp _=>cs p;have g:=jt (l:=d) (f:=aJ) (n:=90) λp _=>cs p;have e:=jt (l:=v.bs++v.fs) (f:=AH v 0 1) (n:=92) λp _=>Ky v p;unfold Aj;generalize(PyData.list ((v.bs++v.fs).map aJ))=a at h ⊢;generalize(PyData.list (d.map aJ))=b at g ⊢;generalize(PyData.list ((v.bs++v.fs).map (AH v 0 1)))=c at e ⊢;simp only[Yj,Y3];lia
theorem MR {G:Prop}{H:Hp}{R:Hp->Prop} (h1:(∀H8,ae H H8->R H8)->G) (h2:∀H8,ae H H8->R H8):G:=h1 h2
theorem JA (x:Str) (l:WF):inV (.str x) (l.map V.str)=decide (x∈l):=by
 unfold inV;rw[List.any_map,Ue,UC,decide_eq_true_eq];constructor
 ·rintro⟨y,c,b⟩;have:y=x:=by
   have a:eqV (.str y) (.str x)=true:=b;simpa[eqV]using a
  rw[<-this];exact c
 ·intro h;refine⟨x,h,?_⟩;show eqV (.str x) (.str x)=true;simp[eqV]
theorem zp {z:Str}:∀{l:WF},z∈l->∃j:Nat,l[j]? = some z/\∀m:Nat,m<j->∀y,l[m]? = some y->y≠z
 | [],h=>by cases h
 | a::l,h=>by
  by_cases e:a=z
  ·exact⟨0,by rw[e];rfl,λm c=>absurd c (Nat.not_lt_zero _)⟩
  ·obtain⟨j,f,d⟩:=zp ((TM.mp h).resolve_left λq=>e q.symm);refine⟨j+1,f,λm c y b=>?_⟩;cases m with
   | zero=>simp at b;rw[<-b];exact e
   | succ m=>exact d m (by lia) y b
theorem Fg {x y:Str} (h:x≠y):Y9 (.str x) (.str y)=false:=by
 simp[Y9,h]
theorem bx:aE ["log","lines","line","sieve","ahead","behind","moves","number","leads","turned"] ["log","lines","line","sieve"] (ag (top 68)):=by refine⟨rfl,rfl,rfl,?_,rfl,?_,?_⟩<;>decide +kernel
theorem nN (T:Tx K mg A):ay P w K mg base CX0 26 A.fh A.fq ["log","lines","line","sieve"] (gZ K A):=by
 have iM:ay P w K mg base CX0 25 _ _ _ _:=OF (xc T);have lP:ay P w K mg base CX0 25 _ _ _ _:=OF (xF T);have AX:ay P w K mg base CX0 25 _ _ _ _:=OF (Az T);have zc:ay P w K mg base CX0 25 _ _ _ _:=OF (ya T);have ot:ay P w K mg base CX0 25 _ _ _ _:=OF (qC T);have nY:ay P w K mg base CX0 25 _ _ _ _:=OF (rA T);refine T.eE.fn.ok bx (λvs H Q E h=>?_) (λ_ _ _ s H vs Q E G h=>?_)
 ·obtain⟨B,W,g,pa,tb,a,t,v,z,rfl,_⟩:=h;rfl
 ·obtain⟨B,W,g,pa,tb,a,t,v,z,rfl,cF,cw,kp,O,b0,bl,hz,_,dw,_,cu,k⟩:=h;have a3:=cF.okc;obtain⟨oa,ea,bz⟩:=a3.obs;have c6:=a3.pws;have b6:v.cur.zZ.length=v.cur.rs.length:=by unfold StV.zZ;rw[Tt]
  have eg:oa.length=v.cur.rs.length:=by rw[<-a3.len,ea,Tt]
  refine⟨_,aj (bq (i:=4) bx.nd rfl (Or.inr rfl) (ar iM G (by rfl) T.bY.mg T.bY.fn.kp T.bY.bd .nil aB (aa (pv 0) af)))
   (aj (bF (bi yW (iO (pv 0) T.aM T.qI ot G T.um.bd .nil aB (aa aq (aa (pv 2) af))) (aK (r:=dC K) be (by rfl) T.cJ Yb (aa (pv 1) af)) (bg _)) (ak (aD kN)) aT)
   (aj (bq (i:=5) bx.nd rfl (Or.inl rfl) (ar iM G (by rfl) T.bY.mg T.bY.fn.kp T.bY.bd .nil aB (aa (pv 0) af)))
   (aj (bq (i:=6) bx.nd rfl (Or.inl rfl) (dO (pv 0) T.aM T.jQ lP G T.mG.bd .nil aB))
   (aj (bF (L2.PW.pt (pw_or (bi (r:=zT K) (nV G) (bc (r:=cO K) aS (pv 5) aq (λ_ _=>rfl)) (ar nY G (by rfl) T.gathered.mg T.gathered.fn.kp T.gathered.bd .nil aB (aa (bN (r:=rC K) kJ (pv 1) (bD (aa (pv 2) af))) (aa (pv 3) af))) (bg _)) (pw_or1 (bi yW (aK (r:=PC K) (Gu G.hd) (by rfl) T.Pl Lm (aa (ba (N':=["old","new","many"]) (n:=3) (fi:=[]) (g:=uP K 3 (dh (aX 0) (dh (aX 1) (dh (aX 2) sY)))) rfl (bj (ag (top 68)) ["log","lines","line","sieve","ahead","behind","moves","number","leads","turned"] (by decide +kernel)) (aY (pv 6)) (λs H fp=>eN rfl (aL (ax (i:=0) (show(["old","new","many"]:WF).Nodup by decide +kernel) rfl (Or.inl rfl) (.inr rfl)) (aL (ax (i:=1) (show(["old","new","many"]:WF).Nodup by decide +kernel) rfl (Or.inl rfl) (.inr rfl)) (aL (ax (i:=2) (show(["old","new","many"]:WF).Nodup by decide +kernel) rfl (Or.inl rfl) (.inr rfl)) cL)))) (λs H fp=>aP) (λs H fp=>pv 2)) af)) (aK (r:=dC K) be (by rfl) T.cJ Yb (aa (pv 1) af)) (bg _))))) (ak (aD kN)) aT)
   (aj (bF (bi (r:=rIn K false) vF (pv 2) (pv 1) (by rfl)) (aj (bF (L2.PW.pt (pw_or (bi (r:=zT K) (nV G) (bc (r:=cO K) aS (pv 5) aq (λ_ _=>rfl)) (bc (r:=cO K) aS (pv 4) aq (λ_ _=>rfl)) (bg _)) (pw_or1 (bi (r:=zT K) (nV G) (ba (N':=["row"]) (n:=1) (fi:=[]) (g:=aX 0) rfl (bj (ag (top 68)) ["log","lines","line","sieve","ahead","behind","moves","number","leads","turned"] (by decide +kernel)) (aY (pv 6)) (λs H fp=>ax (i:=0) (nT _) rfl (Or.inl rfl) (.inr rfl)) (λs H fp=>jm (bi (r:=zT K) (nV G) (bc (r:=oz K) eX (pv 0) aq (λ_ _=>rfl)) (bc (r:=oz K) eX (pv 0) aq (λ_ _=>rfl)) (bg _))) (λs H fp=>pv 0)) (bD af) (bg _))))) (ak (aD kN)) aT)
   (ak (bF (bi (r:=zT K) (nV G) (bc (r:=cO K) aS (pv 5) aq (λ_ _=>rfl)) (bN (r:=rC K) kJ (bc (r:=cO K) aS (pv 4) aq (λ_ _=>rfl)) (bD (aa (bc (r:=cO K) aS (bc (r:=cO K) aS (pv 4) aq (λ_ _=>rfl)) (fu (r:=CO K) Yc PySem.F.slot_list_index PySem.F.type_list_index (E1 G) (pv 1) (aa (pv 2) af)) (λ_ _=>rfl)) af))) (bg _)) (ak (aD kN)) aT))) aT)
   (aj (ji YD rfl (dW (by rfl) T.gP (aa (aK (r:=dC K) be (by rfl) T.cJ Yb (aa (pv 1) af)) af)) (ax (i:=7) bx.nd rfl (Or.inr rfl)) (aj (mD (i:=8) (N':=["old","new","many","number","ahead"]) (n:=3) (fi:=[7,4]) (g:=uP K 3 (dh (aX 0) (dh (aX 1) (dh (aX 2) sY)))) bx.nd rfl (Or.inl rfl) rfl (bj (ag (top 68)) ["log","lines","line","sieve","ahead","behind","moves","number","leads","turned"] (by decide +kernel)) (aY (pv 6)) (λs H fp=>eN rfl (aL (ax (i:=0) (show(["old","new","many","number","ahead"]:WF).Nodup by decide +kernel) rfl (Or.inl rfl) (.inr rfl)) (aL (ax (i:=1) (show(["old","new","many","number","ahead"]:WF).Nodup by decide +kernel) rfl (Or.inl rfl) (.inr rfl)) (aL (ax (i:=2) (show(["old","new","many","number","ahead"]:WF).Nodup by decide +kernel) rfl (Or.inl rfl) (.inr rfl)) cL)))) (λs H fp=>jm (bi (r:=Gd K) (yg G) (pv 0) (bc (r:=cO K) aS (bc (r:=cO K) aS (pv 4) aq (λ_ _=>rfl)) (pv 3) (λ_ _=>rfl)) (bg _))) (λs H fp=>pv 1))
   (ak (bF (bi (r:=ON K true) (Ec G) (bc (r:=cO K) aS (bc (r:=cO K) aS (pv 5) aq (λ_ _=>rfl)) (pv 7) (λ_ _=>rfl)) (pv 8) (by rfl)) (ak (aD kN)) aT))))
   (aj (cN (dO (pv 0) T.aM T.Ah AX G T.Aq.bd .nil aB))
   (aj (bq (i:=9) bx.nd rfl (Or.inl rfl) (aK (r:=HX K) (oE G) (by rfl) T.js mj (aa (ba (N':=["old","new","many"]) (n:=3) (fi:=[]) (g:=uP K 3 (dh (aX 0) (dh (aX 1) (dh (aX 2) sY)))) rfl (bj (ag (top 68)) ["log","lines","line","sieve","ahead","behind","moves","number","leads","turned"] (by decide +kernel)) (aY (pv 6)) (λs H fp=>eN rfl (aL (ax (i:=0) (show(["old","new","many"]:WF).Nodup by decide +kernel) rfl (Or.inl rfl) (.inr rfl)) (aL (ax (i:=1) (show(["old","new","many"]:WF).Nodup by decide +kernel) rfl (Or.inl rfl) (.inr rfl)) (aL (ax (i:=2) (show(["old","new","many"]:WF).Nodup by decide +kernel) rfl (Or.inl rfl) (.inr rfl)) cL)))) (λs H fp=>aP) (λs H fp=>cH (r:=MM K) (wc G) (by rfl) T.C8 Dj (aa (dG (aa (pv 1) (aa (pv 0) (aa (pv 2) af)))) af))) af)))
   (aj (bF (L2.PW.pt (pw_or (bi (r:=zT K) (nV G) (ar iM G (by rfl) T.bY.mg T.bY.fn.kp T.bY.bd .nil aB (aa (pv 0) af)) (pv 4) (bg _)) (pw_or1 (bi (r:=zT K) (nV G) (pv 9) (aK (r:=HX K) (oE G) (by rfl) T.js mj (aa (ba (N':=["row"]) (n:=1) (fi:=[]) (g:=aX 0) rfl (bj (ag (top 68)) ["log","lines","line","sieve","ahead","behind","moves","number","leads","turned"] (by decide +kernel)) (aY (dO (pv 0) T.aM T.jQ lP G T.mG.bd .nil aB)) (λs H fp=>ax (i:=0) (nT _) rfl (Or.inl rfl) (.inr rfl)) (λs H fp=>aP) (λs H fp=>cH (r:=MM K) (wc G) (by rfl) T.C8 Dj (aa (pv 0) af))) af)) (bg _))))) (ak (aD kN)) aT)
   (aj (cN (dO (pv 0) T.aM T.xg zc G T.wx.bd .nil aB))
   (ak (aD (tw (eF (r:=Gd K) (yg G) (ar iM G (by rfl) T.bY.mg T.bY.fn.kp T.bY.bd .nil aB (aa (pv 0) af)) (pv 5) (bg _)) (p7 (eF (r:=Gd K) (yg G) (dO (pv 0) T.aM T.jQ lP G T.mG.bd .nil aB) (pv 6) (bg _)))))))))))))))),?_⟩
  refine⟨_,rfl,B,g,pa,tb,v,oa,rfl,cF,ea,λX1 H1 hX1 s1 d1=>?_⟩;have b9:=aF cu s1;have Dq:=cF.same s1;obtain⟨W1,bb,ck,d1⟩:∃W1,ae W W1/\Kept W1 H1 g pa tb A.au/\Den K W1 (.ref X1) (Aj v.cur oa):=⟨_,(kp.same s1).on,mT,y0 cF s1 (aR b9) d1⟩;have O:=bb _ _ O;have b0:=bb.cU b0;clear hX1 cF s1 cu kp;obtain⟨ep,_,_,_,cz⟩:=Dq.gg;refine⟨_,rfl,g,ep,_,rfl,cz,rfl,_,rfl,B,g,pa,tb,v,0,z,rfl,Dq,cw,hz,by lia,(λq hq=>dw q (List.mem_of_getLast? hq)),by lia,b9,λ_ B2 N o8 s2 cp cg _ KH e1 e2 qP=>?_⟩;have c2:=ck.JJ s2 cg;have Me:B2 A.au=none:=by
   obtain⟨q,hq⟩:=aR b9;exact KH _ _ cw hq (.inr (.inr ⟨_,rfl⟩))
  clear s2 cg KH b9 cz;have AR:=qP.okc;obtain⟨ob,eb,bp⟩:=AR.obs;have L8:=AR.pws;have e2:o8.bs=[]:=e2.trans bl;have eo:ob.length=v.cur.rs.length+1:=by rw[<-Tt (f:=some),<-eb];exact AR.len.trans (by rw[show o8.rs=_ from e1,TJ,T1])
  have S6:o8.rs.length=v.cur.rs.length+1:=by rw[e1,TJ,T1]
  have RK:o8.zZ=v.cur.zZ++[z]:=by unfold StV.zZ;rw[e1,TK];rfl
  refine⟨_,rfl,a,_,rfl,.inl (.of (c2.s _ _ O)),rfl,_,rfl,?_⟩;rw[Tt,b6,Zk rfl];refine bU ?_;obtain⟨dv,_,_,_,d0⟩:=qP.gg;refine⟨_,rfl,B2,g,pa,N,_,ob,rfl,qP,eb,λX2 H3 hX2 s3 d2=>?_⟩;have bf:=aF cp s3;have Ay:=qP.same s3;obtain⟨W2,as,cf,d2⟩:∃W2,ae W1 W2/\Kept W2 H3 g pa N A.au/\Den K W2 (.ref X2) (Aj o8 ob):=⟨_,(c2.same s3).on,mT,y0 qP s3 (aR bf) d2⟩;have ao:∀ps∈oa,POk ps:=λps h=>c6.pok (bz ps h);have av:∀ps∈ob,POk ps:=λps h=>L8.pok (bp ps h);refine⟨_,rfl,g,dv,_,rfl,s3 _ _ d0,rfl,B2,g,pa,N,_,oa,ob,rfl,Ay,ea,eb,ao,av,by lia,λM xs H4 l hM s4 cb dM mv=>?_⟩;have b2:=aF bf s4;have Fh:=Ay.same s4;obtain⟨⟨_,_,rg⟩,⟨_,rp⟩,⟨_,rt⟩⟩:=Ay.refs;obtain⟨q3,du⟩:=aR bf;obtain⟨W3,a5,b4,dM,Y⟩:∃W3,ae W2 W3/\Kept W3 H4 g pa N A.au/\aC K W3 xs (l.map mvD)/\W3 M=some (.lst xs):=⟨_,(cf.same s4).on,mT,wF Ay s4 (aR b2) dM,by rw[rZ (nn hM rg) (nn hM rp) (nn hM rt) (nn hM du)];exact cb⟩;have d1:=d1.same (as.trans a5);have d2:=d2.same a5;have O:=(as.trans a5) _ _ O;have b0:=(as.trans a5).cU b0;have Gf:=bb.trans (as.trans a5);have c0:xs.length=l.length:=by rw[dM.length,Tt]
  have de:=G9 mv;rw[Ul]at de;have de:l.length<60:=by lia
  clear rg rp rt du hM cb s4 s3 bf cp c2 cf ck hX2 bb as a5 d0 qP Ay Dq;obtain⟨_,_,_,hX1,Sf,Nu,_⟩:=Cp d1;obtain⟨_,_,_,hX2,IS,M5,_⟩:=Cp d2;refine⟨_,rfl,X2,_,0,_,rfl,rfl,b4.s.seq hX2,rfl,_,rfl,_,rfl,(by show 1<=Zg;decide),λp hp=>⟨a,p,_,_,rfl,rfl,.of (ae.new hp _ _ (b4.s _ _ O)),.of ab,?_,λq hq=>?_⟩⟩
  ·exact UH (small (by rw[Tt,b6];show v.cur.rs.length+1<_;lia))
  have sq:ae H4 (upd (upd H4 p (.lst [.str z])) q (.lst (v.cur.zZ.map V.str++[V.str z]))):=(ae.new hp).trans (ae.new hq);have a7:(upd (upd H4 p (.lst [.str z])) q (.lst (v.cur.zZ.map V.str++[V.str z]))) q=some (.lst (v.cur.zZ.map V.str++[V.str z])):=ab;generalize upd (upd H4 p (.lst [.str z])) q (.lst (v.cur.zZ.map V.str++[V.str z]))=H5 at sq a7 ⊢;have c3:=b4.same sq;have NX:∀y∈v.cur.zZ++[z],∃ws,fP 12 y ws:=λy hy=>by
   rcases TV.mp hy with hy | hy
   ·obtain⟨r,G,rfl⟩:=Tv.mp hy;exact a3.lns r G
   ·rw[Tz.mp hy];exact hz
  refine⟨_,rfl,q,t,v.cur.zZ++[z],v.s,v.l,rfl,.inl (by rw[a7,TK];rfl),by rw[TJ,T1];lia,NX,c3.s.cU b0,aF b2 sq,λD ms b H6 ps bu df hD s6 d7 cc cx dg c8 cm _ _ dn=>?_⟩;have a6:=c3.lam s6;have yS:br K A.aU A.aH B2 H6 g pa N ⟨v.s,v.l,o8,v.cur,v.past++[(v.cur.rs,v.cur.bs)],[]⟩:=by
   obtain⟨_,dy⟩:=aR b2;obtain⟨n1,n2,n3⟩:=Fh.neT dy;exact(Fh.same sq).wo Me n1 n2 n3 s6
  have cq:o8.fs=ps:=(AR.Mg e2).unique (RK ▸ ⟨⟨ms,bu,df,cx⟩,dg,c8,cm⟩);have hE:Y9 (.list ((o8.bs++o8.fs).map aJ)) (.list (ps.map aJ))=true:=by
   have:=gL IS;rw[<-cq];rw[e2]at this ⊢;exact this
  refine⟨_,_,IS.same a6.s,.lst (.of cc) (dn.same cE),TN (jt λp _=>cs p) (by decide),_,rfl,?_⟩;rw[hE];refine bU ?_;clear hE cq dn cc hD bu df cx dg c8 cm s6 c3 sq a7 hp hq b2 Fh b4;refine⟨_,rfl,M,rfl,⟨_,.of (a6.s _ _ Y)⟩,λSL c=>?_⟩;refine aN (K:=K) (xs:=xs) (λi b I H7=>(∃u w y,I=[u,w,y])/\ae H6 H7/\b=((l.take i).map λx=>((x.2:Nat):Int)).map V.int) ab ⟨⟨_,_,_,rfl⟩,ae.new c,rfl⟩ (λi b I H7 _ _ q=>.of (q.2.1 _ _ (a6.s _ _ Y))) (λi x b I H7 hx S q=>?_) (λb I H7 c7 q=>?_)
  ·obtain⟨⟨u,w,y,rfl⟩,s7,rfl⟩:=q;have hi:=aI hx;obtain⟨m,em,U⟩:=tT dM hx;obtain⟨tp,y1,y2,rfl,a0,_,_⟩:=xb U;refine⟨tp,_,rfl,(a6.s.trans s7).cU a0,rfl,_,_,rfl,_,_,rfl,_,_,rfl,rfl,?_⟩;refine⟨_,rfl,_,S,small (by rw[Tt,Tt,TZ];lia),_,ab,⟨_,_,_,rfl⟩,aA c s7,?_⟩;rw[T4,em,TK,TK];rfl
  obtain⟨_,s7,rfl⟩:=q;rw[c0,Uv]at c7;have L:=a6.same s7;have De:=yS.same s7;have dc:=aF d7 s7;refine⟨SL,_,rfl,.of c7,(λi hi=>?_),by rw[Tt];lia,_,rfl,a,_,rfl,.inl (.of (L.s _ _ O)),rfl,_,rfl,?_⟩
  ·obtain⟨x,hx,rfl⟩:=Tv.mp hi;have:=(CI mv hx).1;rw[Ul]at this;lia
  rw[sum_nat λx:Kq×Nat=>x.2,mv.sum,Ul,Tt,b6,eg,eo,Nat.min_eq_left (UN _),Zk rfl];refine bU ?_;clear c7 c s7 d7 yS a6;apply MR (H:=H7)
  ·intro rest;refine⟨_,rfl,_,rfl,a,_,rfl,.inl (.of (L.s _ _ O)),rfl,vP _,_,rfl,?_⟩;rw[Zo TQ,JA];by_cases R:z∈v.cur.zZ
   case neg=>
    rw[Zl R];refine bU ?_;exact rest H7 (ae.refl _)
   rw[Zk R];refine fc ?_;obtain⟨j,hj,ej⟩:=zp R;obtain⟨ed,pj,ey,cn⟩:=Km a3 AR e1 bl e2 hj ea eb;refine⟨_,rfl,X2,_,0,_,rfl,rfl,L.s.seq hX2,rfl,_,rfl,X1,_,0,_,rfl,rfl,L.s.seq hX1,rfl,_,_,IS.same L.s,Sf.same L.s,zr _,_,rfl,?_⟩;have hE:Y9 (.list ((o8.bs++o8.fs).map aJ)) (.list ((v.cur.bs++v.cur.fs).map aJ))=true:=by
    have:=gL IS;rw[e2,ed,<-bl]at this ⊢;exact this
   rw[hE];refine bU ?_;clear hE;refine⟨_,rfl,M,rfl,⟨_,.of (L.s _ _ Y)⟩,λSL c=>?_⟩;refine aN (K:=K) (xs:=xs) (λi b I H8=>(∃u,I=[u])/\ae H7 H8/\b=[]) ab ⟨⟨_,rfl⟩,ae.new c,rfl⟩ (λi b I H8 _ _ q=>.of (q.2.1 _ _ (L.s _ _ Y))) (λi x b I H8 hx S q=>?_) (λb I H8 ec q=>?_)
   ·obtain⟨q0,s8,rfl⟩:=q;apply d5 q0;clear q0;intro u;obtain⟨m,em,U⟩:=tT dM hx;obtain⟨tp,y1,y2,rfl,a0,a4,a9⟩:=xb U;have Z:=L.s.trans s8;refine⟨_,rfl,tp,_,0,_,rfl,rfl,Z.cU a0,rfl,_,rfl,tp,_,1,_,rfl,rfl,Z.cU a0,rfl,_,_,a4.same Z,a9.same Z,TN (cs _) (by decide),_,rfl,?_⟩;have dk:=(mv.mem m.1).mp (Tv.mpr ⟨m,TB em,rfl⟩);have f3:m.1.1=m.1.2:=by
     rw[cn]at dk;obtain⟨n,hn,en⟩:=UU.mp dk;rw[List.getElem_zip]at en;rw[Ul]at hn;rw[<-en];exact(VU (by lia)).symm
    rw[<-f3,gL a4];exact bU ⟨_,S,⟨_,rfl⟩,s8,rfl⟩
   obtain⟨_,s8,rfl⟩:=q;refine⟨T2 _,λE hE=>⟨.list [],.list [],.lst (.of (ae.new hE _ _ ec)) .nil,.lst (.of ab) .nil,by decide,_,rfl,bU ?_⟩⟩;have s9:=s8.trans (ae.new (o:=.lst []) hE);generalize upd H8 E (.lst [])=H9 at s9 ⊢;have C:=L.same s9;obtain⟨O1,o1,rfl,bh,a8⟩:=xh Nu;have ct:j<v.cur.zZ.length:=aI hj;have ew:o1.length=oa.length:=by rw[a8.length,Tt]
   obtain⟨y,hy,c5⟩:∃y,o1[j]? = some y/\Den K W3 y (aJ pj):=by
    have X:j<o1.length:=by lia
    obtain⟨d,hd,hn⟩:=a8.get (Tu X);rw[TF,ey]at hd;cases hd;exact⟨_,Tu X,hn⟩
   have bo:∀y∈v.cur.zZ,Y5 y=true:=λy hy=>by
    obtain⟨ws,hw⟩:=NX y (TV.mpr (.inl hy));exact(hw.ok (by decide)).1
   have dr:∀n,n<v.cur.zZ.length->∃y,v.cur.zZ[n]? = some y/\(v.cur.zZ.map PyData.str).getD n .none = .str y:=λn hn=>⟨_,Tu hn,by rw[TU,TF,Tu hn];rfl⟩;refine⟨_,rfl,X2,_,1,_,rfl,rfl,C.s.seq hX2,rfl,_,rfl,X1,_,1,_,rfl,rfl,C.s.seq hX1,rfl,_,rfl,X1,_,1,_,rfl,rfl,C.s.seq hX1,rfl,_,rfl,.inl ⟨rfl,_,.of (C.s _ _ O)⟩,_,rfl,v.cur.zZ.map .str,.str z,.str z,j,rfl,.lst (.of (C.s _ _ O)) (jy bo),.str (bo z R),T2 _,by rw[Tt];exact ct,by lia,?_,λm ee=>?_,?_⟩
   ·obtain⟨y,X,h2⟩:=dr j ct;rw[hj]at X;cases X;rw[h2];exact gL (K:=K) (H:=W3) (.str (bo z R))
   ·obtain⟨y,X,h2⟩:=dr m (by lia);rw[h2];exact Fg (ej m ee y X)
   refine⟨O1,_,(j:Int),_,rfl,rfl,C.s.seq bh,cy hy,(by show 1<=Zg;decide),λp hp=>⟨O1,p,_,_,rfl,rfl,(C.same (ae.new hp)).s.seq bh,.of ab,?_,λq hq=>?_⟩⟩
   ·exact UH (small (by show o1.length+1<_;lia))
   have J:ae H9 (upd (upd H9 p (.lst [y])) q (.lst (o1++[y]))):=(ae.new hp).trans (ae.new hq);have a7:(upd (upd H9 p (.lst [y])) q (.lst (o1++[y]))) q=some (.lst (o1++[y])):=ab;generalize upd (upd H9 p (.lst [y])) q (.lst (o1++[y]))=H10 at J a7 ⊢;have xC:=C.same J;have dq:Den K H10 (.ref q) (.list (ob.map aJ)):=by
    rw[cn,TK];exact .lst (.of a7) ((a8.same xC.s).append (.cons (c5.same xC.s) .nil))
   refine⟨_,_,M5.same xC.s,dq,zr _,_,rfl,?_⟩;rw[gL M5];refine bU ?_;exact rest H10 (s9.trans J)
  intro H8 s8;have b5:=L.same s8;have Lc:=De.same s8;have d6:=aF dc s8;clear s8 L De dc;obtain⟨O1,o1,rfl,bh,a8⟩:=xh Nu;obtain⟨O2,o2,rfl,dx,cv⟩:=xh M5;have ew:o1.length=oa.length:=by rw[a8.length,Tt]
  have R1:o2.length=ob.length:=by rw[cv.length,Tt]
  have b7:∀m∈l,m.1.1∈oa/\m.1.2∈ob:=λm R=>Dh ((mv.mem m.1).mp (Tv.mpr ⟨m,R,rfl⟩));refine⟨_,rfl,a,_,rfl,.inl (.of (b5.s _ _ O)),(v.cur.rs.length:Int),(by rw[Tt,b6]),by lia,by lia,?_⟩;refine qa (λi I H9=>(∃u7 u8,I=[some (.ref g),some (.ref a),some (.str z),some (.ref t),some (.ref X1),some (.ref X2),some (.ref M),u7,u8,none])/\ae H8 H9) ⟨⟨_,_,rfl⟩,ae.refl _⟩ (λi I H9 hi q=>?_) (λI H9 q=>?_)
  ·obtain⟨q0,s9⟩:=q;apply rO q0;clear q0;intro u7 u8;have hi:i<v.cur.rs.length:=by simpa using hi
   have dj:i<oa.length:=by lia
   have dt:i<ob.length:=by lia
   have C:=b5.same s9;obtain⟨y,hy,c5⟩:∃y,o1[i]? = some y/\Den K W3 y (aJ oa[i]):=by
    have X:i<o1.length:=by lia
    obtain⟨d,hd,hn⟩:=a8.get (Tu X);rw[TF,Tu dj]at hd;cases hd;exact⟨_,Tu X,hn⟩
   obtain⟨_,e8,Rh⟩:∃y,o2[i]? = some y/\Den K W3 y (aJ ob[i]):=by
    have X:i<o2.length:=by lia
    obtain⟨d,hd,hn⟩:=cv.get (Tu X);rw[TF,Tu dt]at hd;cases hd;exact⟨_,Tu X,hn⟩
   refine⟨_,rfl,M,rfl,⟨_,.of (C.s _ _ Y)⟩,λSL c=>?_⟩;refine aN (K:=K) (xs:=xs) (λn b I H10=>(∃u w y,I=[u,w,y,some (.int (0+(i:Int))),some (.ref X1)])/\ae H9 H10/\aC K W3 b ((((l.take n).filter λx=>decide (x.1.1=oa[i])).map (·.1.2)).map aJ)) ab ⟨⟨_,_,_,rfl⟩,ae.new c,.nil⟩ (λn b I H10 _ _ q=>.of (q.2.1 _ _ (C.s _ _ Y))) (λn x b I H10 hx S q=>?_) (λb I H10 QZ q=>?_)
   ·obtain⟨⟨u,w,_,rfl⟩,J,dn⟩:=q;have hn:=aI hx;obtain⟨m,em,U⟩:=tT dM hx;have e9:=TB em;obtain⟨tp,y1,y2,rfl,a0,a4,a9⟩:=xb U;have Z:=C.s.trans J;refine⟨tp,_,rfl,Z.cU a0,rfl,_,_,rfl,_,_,rfl,_,_,rfl,rfl,?_⟩;refine⟨_,rfl,_,rfl,X1,_,1,_,rfl,rfl,Z.seq hX1,rfl,_,rfl,O1,_,_,_,rfl,rfl,Z.seq bh,(by rw[VZ];exact cy hy),_,_,a4.same Z,c5.same Z,TN (cs _) (by decide),_,rfl,?_⟩;rw[rY (ao _ (b7 m e9).1).2 (ao _ (Uj dj)).2];have SX:b.length<=n:=by
     rw[dn.length,Tt,Tt];exact TN (UG _ _) (by rw[TZ];lia)
    by_cases he:m.1.1=oa[i]
    ·rw[Zk he];refine fc ⟨_,rfl,_,S,small (by lia),_,ab,⟨_,_,_,rfl⟩,aA c J,?_⟩;rw[T4,em,UJ,TK,TK];refine dn.append ?_;show aC K W3 [y2] ((((m::[]).filter λx=>decide (x.1.1=oa[i])).map (·.1.2)).map aJ)
     rw[Vw (by exact Zk he)];exact .cons a9 .nil
    ·rw[Zl he];refine bU ⟨_,S,⟨_,_,_,rfl⟩,J,?_⟩;rw[T4,em,UJ,TK,TK];show aC K W3 b (_++(((m::[]).filter λx=>decide (x.1.1=oa[i])).map (·.1.2)).map aJ)
     rw[Vx (by simpa using he)];simpa using dn
   ·obtain⟨_,J,dn⟩:=q;rw[c0,Uv]at dn;have Z:=C.s.trans J;refine⟨_,rfl,X2,_,1,_,rfl,rfl,Z.seq hX2,rfl,_,rfl,O2,_,_,_,rfl,rfl,Z.seq dx,(by rw[VZ];exact cy e8),_,rfl,_,_,.lst (.of QZ) (dn.same Z),Rh.same Z,TN (cs _) (by decide),_,rfl,?_⟩;have ek:ob[i]∈(l.filter λx=>decide (x.1.1=oa[i])).map (·.1.2):=by
     have hz:(oa[i],ob[i])∈oa.zip ob:=by
      refine UU.mpr ⟨i,by rw[Ul];lia,?_⟩;rw[List.getElem_zip]
     obtain⟨m,R,e⟩:=Tv.mp ((mv.mem _).mpr hz);exact Tv.mpr ⟨m,Ud.mpr ⟨R,Zk (by rw[e])⟩,by rw[e]⟩
    rw[Zn rfl,Ji (λq hq p hp=>by
     obtain⟨m,R,rfl⟩:=Tv.mp hq;exact(av _ (b7 m (Ud.mp R).1).2).2 p hp) (av _ (Uj dt)).2,Zk ek]
    exact bU ⟨⟨_,_,rfl⟩,s9.trans J⟩
  obtain⟨q0,s9⟩:=q;apply rO q0;clear q0;intro u7 u8;have C:=b5.same s9;have HV:=Lc.same s9;have bk:=aF d6 s9;clear s9 b5 Lc d6;obtain⟨es,_,_,_,d8⟩:=HV.gg;refine⟨_,rfl,g,es,_,rfl,d8,rfl,B2,g,pa,N,_,v.past,v.cur.rs,v.cur.bs,rfl,HV,Me,rfl,a3.held,T2 _,bk,λH10 B3 RV J JI RO Le e3 e4 Bt=>?_⟩;have xC:=C.back J;have P4:B3 A.au=none:=by
   obtain⟨q,hq⟩:=aR bk;exact Le _ _ Me hq (.inr (.inr ⟨_,rfl⟩))
  have dz:RV=v.cur:=Bt.okc.unique a3 e3 e4;subst dz;clear e3 e4 Le RO J bk HV C d8;refine⟨_,rfl,M,rfl,⟨_,.of (xC.s _ _ Y)⟩,λSL c=>?_⟩;have Qd:∀m∈l,(PW m.1.1/\m.1.1.length<=12)/\(PW m.1.2/\m.1.2.length<=12)/\m.2<64:=λm R=>by
   have X:=c6 _ (bz _ (b7 m R).1);have h2:=L8 _ (bp _ (b7 m R).2);have h3:=(CI mv R).1;rw[Ul]at h3;exact⟨⟨X.1,X.2.2⟩,⟨h2.1,h2.2.2⟩,by lia⟩
  refine aN (K:=K) (xs:=xs) (λi b I b8=>(∃u w y,I=[u,w,y])/\ae H10 b8/\b=((l.take i).map λx=>tR (.tuple [aJ x.1.2,aJ x.1.1,.int (x.2:Int)])).map V.str) ab ⟨⟨_,_,_,rfl⟩,ae.new c,rfl⟩ (λi b I b8 _ _ q=>.of (q.2.1 _ _ (xC.s _ _ Y))) (λi x b I b8 hx S q=>?_) (λb I b8 LO q=>?_)
  ·obtain⟨⟨u,w,y,rfl⟩,aw,rfl⟩:=q;have hi:=aI hx;obtain⟨m,em,U⟩:=tT dM hx;obtain⟨tp,y1,y2,rfl,a0,a4,a9⟩:=xb U;obtain⟨⟨p1,p2⟩,⟨p3,p4⟩,p5⟩:=Qd m (TB em);have Z:=xC.s.trans aw;refine⟨tp,_,rfl,Z.cU a0,rfl,_,_,rfl,_,_,rfl,_,_,rfl,rfl,?_⟩;refine⟨_,rfl,_,rfl,_,rfl,(by show 3<=Zg;decide),λ_ hq=>?_⟩;have sT:=ae.new (o:=.tup [y2,y1,.int (m.2:Int)]) hq;have dm:=Z.trans sT;refine⟨_,_,rfl,.tup (.of ab) (.cons (a9.same dm) (.cons (a4.same dm) (.cons (.int _) .nil))),zt p3 p4 p1 p2 p5,_,sT _ _ S,small (by rw[Tt,Tt,TZ];lia),_,ab,⟨_,_,_,rfl⟩,aA c (aw.trans sT),?_⟩;rw[T4,em,TK,TK];rfl
  obtain⟨_,aw,rfl⟩:=q;rw[c0,Uv]at LO;refine⟨SL,_,rfl,.of LO,by rw[Tt];lia,λTS ah dp NF di=>?_⟩;obtain⟨_,N8,c9,O4⟩:=eH (.lst (ah.map V.str)) dp;rw[N8];have JS:=aw.trans c9;have PY:=xC.same JS;have A8:=Bt.same JS;have P8:=aF JI JS;clear N8 JS c9 aw dp LO c xC Bt JI;refine⟨_,rfl,B3,g,pa,N,_,oa,rfl,A8,ea,λ_ _ e7 az d3=>?_⟩;have Kc:=PY.same az;have xA:=A8.same az;have N5:=aF P8 az;have OV:=az _ _ O4;refine⟨_,rfl,_,_,d3.same cE,d1.same Kc.s,y6 _ _,_,rfl,?_⟩;rw[gL d1];refine bU ?_;clear d3 az e7 O4 PY A8 P8;obtain⟨Qp,_,_,_,Nz⟩:=xA.gg;refine⟨_,rfl,_,rfl,g,Qp,_,rfl,Nz,rfl,B3,g,pa,N,_,ob,oa,rfl,xA,eb,ea,av,ao,by lia,λM2 da eu l2 f5 bt Lu ap b1=>⟨M2,rfl,⟨_,.of Lu⟩,λSL c=>?_⟩⟩;have ap:=ap.same cE;have NR:da.length=l2.length:=by rw[ap.length,Tt]
  have N4:=G9 b1;rw[Ul]at N4;have QH:=Kc.same bt;have My:∀m∈l2,m.1.1∈ob/\m.1.2∈oa:=λm R=>Dh ((b1.mem m.1).mp (Tv.mpr ⟨m,R,rfl⟩));have Gp:∀m∈l2,(PW m.1.1/\m.1.1.length<=12)/\(PW m.1.2/\m.1.2.length<=12)/\m.2<64:=λm R=>by
   have X:=c6 _ (bz _ (My m R).2);have h2:=L8 _ (bp _ (My m R).1);have h3:=(CI b1 R).1;rw[Ul]at h3;exact⟨⟨h2.1,h2.2.2⟩,⟨X.1,X.2.2⟩,by lia⟩
  refine aN (K:=K) (xs:=da) (λi b I b3=>(∃u,I=[u])/\ae eu b3/\b=((l2.take i).map λx=>tR (mvD x)).map V.str) ab ⟨⟨_,rfl⟩,ae.new c,rfl⟩ (λi b I b3 _ _ q=>.of (q.2.1 _ _ Lu)) (λi x b I b3 hx S q=>?_) (λb I b3 LN q=>?_)
  ·obtain⟨q0,ai,rfl⟩:=q;apply d5 q0;clear q0;intro u;have hi:=aI hx;obtain⟨m,em,U⟩:=tT ap hx;obtain⟨⟨p1,p2⟩,⟨p3,p4⟩,p5⟩:=Gp m (TB em);refine cC ⟨_,rfl,_,_,rfl,U.same ai,zt p1 p2 p3 p4 p5,_,S,small (by rw[Tt,Tt,TZ];lia),_,ab,⟨_,rfl⟩,aA c ai,?_⟩;rw[T4,em,TK,TK];rfl
  obtain⟨_,ai,rfl⟩:=q;rw[NR,Uv]at LN;refine⟨SL,_,rfl,.of LN,by rw[Tt];lia,λeh ts2 OO Mb d9=>?_⟩;obtain⟨ez,Ih,dd,Ow⟩:=eH (.lst (ts2.map V.str)) OO;rw[Ih];have et:ah=ts2:=kA (NF.trans ((Fd mv b1).trans Mb.symm)) di d9;have Ms:∀x∈ts2,Y5 x=true:=λx hx=>by
   obtain⟨m,R,rfl⟩:=Tv.mp (Mb.mem_iff.mp hx);obtain⟨⟨p1,p2⟩,⟨p3,p4⟩,p5⟩:=Gp m R;exact GV p1 p3 p5
  subst et;have zS:=bt.trans (ai.trans dd);have c4:Den K ez (.ref eh) (.list (ah.map .str)):=.lst (.of Ow) (jy Ms);refine⟨.list (ah.map .str),.list (ah.map .str),.lst (.of (zS _ _ OV)) (jy Ms),c4,?_,_,rfl,?_⟩
  ·refine TN (jt (n:=0) λx _=>T2 _) (by decide)
  rw[gL c4];refine bU ?_;have PK:=Kc.same zS;have A2:=xA.same zS;have MG:=aF N5 zS;clear c4 zS Ms NF Mb di d9 Ow dd Ih OO LN ai Gp My QH N4 NR ap Lu bt f5 c Nz Kc xA N5 OV;obtain⟨Q1,_,_,_,PU⟩:=A2.gg;refine⟨_,rfl,g,Q1,_,rfl,PU,rfl,B3,g,pa,N,_,[],o8.rs,o8.bs,rfl,A2,P4,rfl,AR.held,by show v.past.length<=_;lia,MG,λ_ B4 Rb cj R8 QO K3 e5 e6 A4=>?_⟩;have R3:=PK.back cj;have Ra:B4 A.au=none:=by
   obtain⟨q,hq⟩:=aR MG;exact K3 _ _ P4 hq (.inr (.inr ⟨_,rfl⟩))
  have e0:Rb=o8:=A4.okc.unique AR e5 e6;subst e0;clear e5 e6 K3 QO cj MG A2 PK PU;refine⟨_,rfl,B4,g,pa,N,_,ob,rfl,A4,eb,λ_ _ _ bw d4=>?_⟩;have NV:=R3.same bw;have Bg:=A4.same bw;have Se:=aF R8 bw;refine⟨_,rfl,_,_,d4.same cE,d2.same NV.s,y6 _ _,_,rfl,?_⟩;rw[gL d2];refine fc ?_;obtain⟨Rc,_,_,_,Rf⟩:=Bg.gg;refine⟨_,rfl,g,Rc,_,rfl,Rf,rfl,B4,g,pa,N,_,oa,ob,rfl,Bg,ea,eb,ao,av,by lia,λ_ _ er l3 _ c1 Si ef ei=>?_⟩;have el:l3=l:=ei.unique mv;subst el;have DX:=NV.same c1;have K4:Den K W3 (.ref M) (.list (l3.map mvD)):=.lst (.of Y) dM;refine⟨_,rfl,_,_,.lst (.of Si) (ef.same cE),K4.same DX.s,TN (jt λm _=>Mn m) (by decide),?_⟩;rw[gL K4];exact k er B4 N _ _ _ (aF Se c1) ⟨Gf.trans DX.s,Gf.free DX.hg,Gf.free DX.hpa,Gf.free DX.htb,Gf.free DX.hP⟩ Ra (Bg.same c1) e1 e2 (by rw[TJ,T1])
def xa (K:Wz) (P:Za):Sp:=λvs H Q _=>∃(a:Za) (ns:List Int),vs=[.ref a]/\SqL K H a (ns.map V.int)/\ns.length<=63/\bP P H/\∀H',Q (.bl true) H'
theorem Ka {xs:WD}{lo hi:Option Int}{x:V} (h:x∈rR xs lo hi):x∈xs:=by
 unfold rR at h
 first
  | exact List.mem_of_mem_drop (UT h)
  | exact UT (List.mem_of_mem_drop h)
theorem Kh {xs:WD}:(rR xs (some 1) (some 9)).length<=8:=by
 unfold rR;have b:HT.sIx xs.length 0 (some 1)=min 1 xs.length:=HT.xP xs.length 0 1;have a:HT.sIx xs.length xs.length (some 9)=min 9 xs.length:=HT.xP xs.length xs.length 9;rw[b,a,TZ,VA];lia
theorem Bs {d c:Za}{H:Hp} (h:H c=none):wo d H c=none:=by
 by_cases e:c=d
 ·rw[e];exact cu
 ·rw[av e];exact h
structure I37 (K:Wz) (A:Ad) (W B H:Hp) (g pa tb:Za) (v:gr):Prop where
 kp:Kept W H g pa tb A.au
 lg:br K A.aU A.aH B H g pa tb v
 bp:B A.au=none
 la:bP A.au H
section
variable {W B B' H H':Hp}{g pa tb tb' d x:Za}{v v':gr}{o:HO}
theorem I37.same (h:I37 K A W B H g pa tb v) (s:ae H H'):I37 K A W B H' g pa tb v:=⟨h.kp.same s,h.lg.same s,h.bp,aF h.la s⟩
theorem I37.free (h:I37 K A W B H g pa tb v) (a:H d=none):W d=none/\B d=none/\d≠g/\d≠pa/\d≠tb:=by
 obtain⟨⟨_,_,i⟩,⟨_,f⟩,⟨_,c⟩⟩:=h.lg.refs;obtain⟨_,_,_,_,_,_,_,_,_,b,_⟩:=id h.lg;exact⟨h.kp.s.free a,b.free a,(nn a i),(nn a f),nn a c⟩
theorem I37.pick {n:Nat} (h:I37 K A W B H g pa tb v) (f:W d=none/\B d=none/\d≠g/\d≠pa/\d≠tb) (a:Dk H d n) (s:ae (wo d H) H'):I37 K A W B H' g pa tb v:=by
 obtain⟨_,b⟩:=a.lst;exact⟨{ h.kp with s:=(fU f.1 h.kp.s).trans s },h.lg.wo f.2.1 f.2.2.1 f.2.2.2.1 f.2.2.2.2 s,h.bp,mU h.la b s⟩
theorem I37.put {ys zs:WD} (h:I37 K A W B H g pa tb v) (f:W d=none/\B d=none/\d≠g/\d≠pa/\d≠tb) (a:H d=some (.lst ys)):I37 K A W B (upd H d (.lst zs)) g pa tb v:=by
 have s:ae (wo d H) (upd H d (.lst zs)):=λc o e=>by
  obtain⟨b,e⟩:=aZ e;rw[ao b];exact e
 exact⟨{ h.kp with s:=(fU f.1 h.kp.s).trans s },h.lg.wo f.2.1 f.2.2.1 f.2.2.2.1 f.2.2.2.2 s,h.bp,mU h.la a s⟩
theorem I37.JJ (h:I37 K A W B H g pa tb v) (s:ae (wo g (wo pa (wo A.au H))) H') (d:bP A.au H') (a:H tb' = none) (f:∀c o,B c=none->H c=some o->xJ o->B' c=none) (e:br K A.aU A.aH B' H' g pa tb' v'):I37 K A W B' H' g pa tb' v':=by
 obtain⟨q,b⟩:=aR h.la;exact⟨h.kp.JJ s a,e,f _ _ h.bp b (.inr (.inr ⟨_,rfl⟩)),d⟩
theorem I37.new (h:I37 K A W B H g pa tb v) (s:ae H H') (hx:H x=none) (b:H' x=some o):I37 K A (gv H' g pa tb A.au) B H' g pa tb v/\ae W (gv H' g pa tb A.au)/\(gv H' g pa tb A.au) x=some o:=by
 have a:=h.same s;obtain⟨q,c⟩:=aR h.la;have f:=h.free hx;refine⟨⟨mT,a.lg,a.bp,a.la⟩,a.kp.on,?_⟩;rw[rZ f.2.2.1 f.2.2.2.1 f.2.2.2.2 λe=>by rw[e,c]at hx;cases hx];exact b
end
theorem Kt {c:Bool}{A:Prop}{B:St->Hp->Prop}{σ:St}{H:Hp} (a:St->Hp->Prop) (d:a σ H) (hA:(∀σ H,a σ H->B σ H)->A) (b:∀σ H,a σ H->B σ H):if c=true then A else B σ H:=by
 cases c with
 | false=>rw[Zo TQ];exact b σ H d
 | true=>rw[Zn rfl];exact hA b
theorem gu:aE ["script","deck","sieve","lines","log","line","cell","words"] ["script"] (ag (top 69)):=by refine⟨rfl,rfl,rfl,?_,rfl,?_,?_⟩<;>decide +kernel
theorem MA (F:Fun K "law" "law" (top 69) A.KJ A.KY) (T:Tx K mg A):ay P w K mg base CX0 27 A.KJ A.KY ["script"] (xa K A.au):=by
 have qD:ay P w K mg base CX0 26 _ _ _ _:=OF (xE T);have xB:ay P w K mg base CX0 26 _ _ _ _:=OF (u3 T);have yn:ay P w K mg base CX0 26 _ _ _ _:=OF (uY T);have zO:ay P w K mg base CX0 25 _ _ _ _:=OF (zZ T);have ot:ay P w K mg base CX0 26 _ _ _ _:=OF (qC T);have aG:ay P w K mg base CX0 26 _ _ _ _:=OF (eW T);have fY:ay P w K mg base CX0 26 _ _ _ _:=OF (jW T);have pq:ay P w K mg base CX0 26 _ _ _ _:=OF (nN T);have lZ:ay P w K mg base CX0 26 _ _ _ _:=OF (pR T);refine F.ok gu (λvs H Q E h=>?_) (λ_ _ _ s H vs Q E M h=>?_)
 ·obtain⟨a,D,rfl,_⟩:=h;rfl
 ·obtain⟨a,D,rfl,LS,hn,cc,k⟩:=h;refine⟨_,aj (bq (i:=1) gu.nd rfl (Or.inl rfl) (ar qD M (by rfl) T.fM.mg T.fM.fn.kp T.fM.bd .nil aB (aa (bc (r:=cO K) aS (bN (r:=rC K) kJ (pv 0) (bD (aa aq af))) aq (λ_ _=>rfl)) (aa aq af))))
   (aj (bq (i:=2) gu.nd rfl (Or.inl rfl) (ar xB M (by rfl) T.jO.mg T.jO.fn.kp T.jO.bd .nil aB (aa (pv 1) af)))
   (aj (bq (i:=3) gu.nd rfl (Or.inl rfl) (ar yn M (by rfl) T.jH.mg T.jH.fn.kp T.jH.bd .nil aB (aa (pv 1) (aa aq af))))
   (aj (bq (i:=4) gu.nd rfl (Or.inl rfl) (w6 T.M0 zO M (by rfl) T.ND T.zh.bd .nil aB (aa (pv 2) af)))
   (aj (ji YD rfl (aY (pv 3)) (ax (i:=5) gu.nd rfl (Or.inl rfl)) (ak (cN (iO (pv 4) T.aM T.qI ot M T.um.bd .nil aB (aa aq (aa (pv 5) af))))))
   (aj (ji YD rfl (aY (Lk (zH (r:=LC K) Cs (pv 0) (w9 aq) (w9 aq)) (p7 (bD (aa aq af))))) (ax (i:=6) gu.nd rfl (Or.inl rfl)) (aj (bq (i:=1) gu.nd rfl (Or.inl rfl) (ar qD M (by rfl) T.fM.mg T.fM.fn.kp T.fM.bd .nil aB (aa (pv 6) (aa aq af))))
   (aj (bq (i:=5) gu.nd rfl (Or.inl rfl) (bc (r:=cO K) aS (bN (r:=rC K) kJ (pv 3) (bD (aa (ar lZ M (by rfl) T.fO.mg T.fO.fn.kp T.fO.bd .nil aB (aa (pv 1) (aa aq af))) af))) (ar aG M (by rfl) T.ap.mg T.ap.fn.kp T.ap.bd .nil aB (aa (pv 1) (aa (bN ib (aK (r:=dC K) be (by rfl) T.cJ Yb (aa (pv 3) af)) aq) af))) (λ_ _=>rfl)))
   (aj (bF (bi nv (ar aG M (by rfl) T.ap.mg T.ap.fn.kp T.ap.bd .nil aB (aa (pv 1) (aa aq af))) aq (bg _)) (aj (bq (i:=7) gu.nd rfl (Or.inl rfl) (fu Yo PySem.F.slot_str_split PySem.F.type_str_split uN (pv 5) (aa aW af)))
   (aj (lM (ar fY M (by rfl) T.cY.mg T.cY.fn.kp T.cY.bd .nil aB (aa (pv 1) af)) (xm (pv 7) (ar aG M (by rfl) T.ap.mg T.ap.fn.kp T.ap.bd .nil aB (aa (pv 1) (aa (aK (r:=dC K) be (by rfl) T.cJ Yb (aa (pv 7) af)) af))) set_list))
   (ak (bq (i:=5) gu.nd rfl (Or.inl rfl) (fu (r:=rJoin K) Yo PySem.F.slot_str_join PySem.F.type_str_join sj aW (aa (pv 7) af)))))) aT)
   (aj (bF (lu (eM (ar pq M (by rfl) T.eE.mg T.eE.fn.kp T.eE.bd .nil aB (aa (pv 4) (aa (pv 3) (aa (pv 5) (aa (pv 2) af))))))) (ak (aD kN)) aT)
   (ak (bq (i:=3) gu.nd rfl (Or.inl rfl) (bN (r:=rC K) kJ (pv 3) (bD (aa (pv 5) af))))))))))
   (ak (aD kN))))))),?_⟩
  refine⟨_,rfl,(by show 1<=Zg;decide),λp hp=>⟨a,p,_,_,rfl,rfl,(ae.new hp).seq LS,.of ab,?_,λq hq=>?_⟩⟩
  ·rw[Tt];exact TN (Vi hn 1) (by decide)
  have sq:ae H (upd (upd H p (.lst [.int 0])) q (.lst (D.map V.int++[V.int 0]))):=(ae.new hp).trans (ae.new hq);have b4:(upd (upd H p (.lst [.int 0])) q (.lst (D.map V.int++[V.int 0]))) q=some (.lst (D.map V.int++[V.int 0])):=ab;generalize upd (upd H p (.lst [.int 0])) q (.lst (D.map V.int++[V.int 0]))=H1 at sq b4 ⊢;obtain⟨c0,d0⟩:∃c0:Int,atI (D.map V.int++[V.int 0]) 0=some (.int c0):=by
   cases D with
   | nil=>exact⟨0,rfl⟩
   | cons c r=>exact⟨c,cy (j:=0) rfl⟩
  refine⟨q,_,0,_,rfl,rfl,.of b4,d0,c0,0,rfl,by decide,λd H2 hd s2 a9=>?_⟩;have bz:=sq.trans s2;have c6:=aF cc bz;have K2:SqL K (wo d H2) a (D.map V.int):=(fU hd s2).seq (sq.seq LS);clear b4 hq hp sq hd cc LS s2 bz;obtain⟨_,c2⟩:=a9.lst;refine⟨_,rfl,d,_,rfl,a9,by decide,λSV sv lv H3 bj s3 b6 c9=>?_⟩;have br:=mU c6 c2 s3;have KW:SqL K (wo d H3) a (D.map V.int):=(fU cu s3).seq K2;have b9:d≠SV:=a9.ne bj;obtain⟨_,bw⟩:=b6.lst;refine⟨_,rfl,d,25,_,rfl,b6,by decide,by decide,by decide,λZ zs H4 hZ s4 cj a6 t bh=>?_⟩;have aw:=mU br bw s4;have KG:SqL K H4 a (D.map V.int):=s4.seq KW;have a0:H4 SV=_:=dw s4 c9 b9;have ag:zs.length<=25:=bh;clear bh s4 s3 br c6 KW K2 a9 b6 cj c2 bw c9 bj hZ b9;refine⟨_,rfl,λg dx hg bx ba=>?_⟩;obtain⟨_,eq,sg,c4⟩:=AN A.aU hg bx ba;rw[eq];refine⟨g,SV,dx,sv,lv,rfl,c4,.of (sg _ _ a0),aF aw sg,λH5 B5 pa B cur s5 bu bf c3 El e1 e2 cF=>⟨rfl,?_⟩⟩;obtain⟨_,zY⟩:=aR aw;have b:I37 K A (wo A.au H4) B5 H5 g pa B ⟨sv,lv,cur,cur,[],[]⟩:=by
   refine⟨⟨λc o e=>?_,Bs hg,Bs (sg.free bf),Bs (sg.free c3),cu⟩,cF,El _ _ (sg _ _ zY) (.inr (.inr ⟨_,rfl⟩)),bu⟩;obtain⟨h1,e⟩:=aZ e;exact s5 _ _ (Zq (nn e hg) h1 (sg _ _ e))
  have f:(wo A.au H4) Z=some (.lst (zs.map V.str)):=by rw[av λe=>by rw[e,zY]at a6;cases a6];exact a6
  have n:(wo A.au H4) SV=some (.tup [.int sv,.int lv]):=by rw[av λe=>by rw[e,zY]at a0;cases a0];exact a0
  have b0:SqL K (wo A.au H4) a (D.map V.int):=yd zY KG;generalize wo A.au H4=W at b f n b0;clear cF El c3 bf bu s5 sg c4 eq ba bx hg zY KG a0 a6 aw;refine⟨_,rfl,Z,rfl,⟨_,.of (b.kp.s _ _ f)⟩,?_⟩;refine k8 (K:=K) (xs:=zs.map V.str) (λi J H6=>(∃u5,J=[some (.ref a),some (.ref d),some (.ref SV),some (.ref Z),some (.ref g),u5,none,none])/\∃(Bi:Hp) (B:Za) (v:gr),I37 K A W Bi H6 g pa B v/\v.s=sv/\v.l=lv/\v.cur.bs=[]/\v.cur.rs=(zs.take i).map (λz=>((0:Int),z))/\v.past.length=i) ⟨⟨_,rfl⟩,B5,B,_,b,rfl,rfl,e2,e1,rfl⟩ (λi J H6 _ q=>.of (by obtain⟨_,_,_,_,h,_⟩:=q;exact h.kp.s _ _ f)) (λi x J H6 R q=>?_) (λJ H6 q=>?_)
  ·clear b;obtain⟨q0,Bi,B,v,b,rfl,rfl,G,m,u⟩:=q;apply d5 q0;clear q0;intro u5;obtain⟨y,L,rfl⟩:=gG R;have hi:=aI L;obtain⟨cq,_,_,_,cx⟩:=b.lg.gg;have a7:v.cur.rs.length=i:=by rw[m,Tt,TZ];lia
   refine⟨_,rfl,g,cq,_,rfl,cx,rfl,_,rfl,Bi,g,pa,B,v,0,y,rfl,b.lg,b.bp,t y (TB L),by lia,(λq hq=>?_),by lia,b.la,λ_ B7 cp QU s7 cs cn _ El e1 e2 De=>?_⟩
   ·have hq:=List.mem_of_getLast? hq;rw[m]at hq;obtain⟨z,_,rfl⟩:=Tv.mp hq;exact VR _
   refine⟨⟨_,rfl⟩,B7,cp,_,b.JJ s7 cs cn El De,rfl,rfl,e2.trans G,?_,by rw[TJ,T1,u]⟩;rw[show QU.rs=_ from e1,m,T4,L,TK];rfl
  clear b;obtain⟨q0,Bi,B,v,b,rfl,rfl,G,m,u⟩:=q;apply d5 q0;clear q0;intro u5;rw[Tt,Uv]at m;rw[Tt]at u;have az:v.cur.zZ=zs:=by unfold StV.zZ;rw[m,T7];exact List.map_id _
  have a7:v.cur.rs.length<=25:=by rw[m,Tt];exact ag
  have N:∀q∈v.cur.rs,q.1<=0:=λq hq=>by
   rw[m]at hq;obtain⟨z,_,rfl⟩:=Tv.mp hq;exact VR _
  rw[<-az]at f;have u:v.past.length<=25:=by lia
  have t:∀q∈v.cur.zZ,∃ws,fP 12 q ws:=λq hq=>t q (az ▸ hq);clear az m ag;refine⟨λx a5=>∃(C:Za) (cells:WD),x = .ref C/\a5 C=some (.lst cells)/\(∀x∈cells,∃c:Int,x = .int c)/\cells.length<=8/\H6 C=none/\ae H6 a5,λx a5 ⟨C,cells,ex,hC,X,ao,c7,sC⟩=>?_,?_⟩
  case refine_2=>
   refine⟨_,rfl,(1:Int),rfl,(9:Int),rfl,a,_,rfl,b.kp.s.seq b0,λC hC=>?_⟩;have X:∀x∈rR (D.map V.int) (some 1) (some 9),∃c:Int,x = .int c:=λx R=>by
    obtain⟨c,_,rfl⟩:=Tv.mp (Ka R);exact⟨c,rfl⟩
   have ao:=Kh (xs:=D.map V.int);generalize rR (D.map V.int) (some 1) (some 9)=MI at X ao;refine⟨_,.inl ⟨_,.of ab,rfl⟩,?_⟩;by_cases bt:MI.isEmpty=true
   ·rw[bt];exact bU ⟨(by show 1<=Zg;decide),λC2 c1=>⟨C2,_,rfl,ab,λx R=>⟨0,Tz.mp R⟩,by show 1<=8;decide,(ae.new hC).free c1,(ae.new hC).trans (ae.new c1)⟩⟩
   ·rw[Uh.mpr bt];exact fc ⟨C,_,rfl,ab,X,ao,hC,ae.new hC⟩
  refine⟨C,ex,⟨_,.of hC⟩,?_⟩;obtain⟨b,sW,U⟩:=b.new sC c7 hC;have f:=sW _ _ f;have n:=sW _ _ n;clear sW c7 sC hC b0 ex;generalize gv a5 g pa B A.au=W2 at b f n U;refine k8 (K:=K) (xs:=cells) (λi J H6=>∃(W Bi:Hp) (B Z:Za) (v2:gr) (u1 u5 u6 u7:Option V),J=[some (.ref a),u1,some (.ref SV),some (.ref Z),some (.ref g),u5,u6,u7]/\I37 K A W Bi H6 g pa B v2/\W Z=some (.lst (v2.cur.zZ.map V.str))/\W SV=some (.tup [.int v2.s,.int v2.l])/\W C=some (.lst cells)/\v2.cur.bs=[]/\v2.cur.rs.length<=25+i/\(∀q∈v2.cur.rs,q.1<=0)/\v2.past.length<=25+i/\∀q∈v2.cur.zZ,∃ws,fP 12 q ws) ⟨W2,Bi,B,Z,v,_,_,_,_,rfl,b,f,n,U,G,a7,N,u,t⟩ (λi J H6 _ q=>.of (by obtain⟨_,_,_,_,_,_,_,_,_,_,h,_,_,h2,_⟩:=q;exact h.kp.s _ _ h2)) (λi x J cg R q=>?_) (λJ cg q=>?_)
  ·have hi:=aI R;obtain⟨c,rfl⟩:=X x (TB R);clear b f n U G a7 N u t R X;obtain⟨W,Bi,B,Z,v,u1,u5,u6,u7,rfl,b,f,n,U,G,a7,N,u,t⟩:=q;have ag:v.cur.zZ.length=v.cur.rs.length:=by unfold StV.zZ;rw[Tt]
   refine⟨_,rfl,c,1130,rfl,by decide,λe _ he bl DV=>?_⟩;have fe:=b.free he;have b:=b.same bl;clear he bl;refine⟨_,rfl,_,rfl,e,4,_,rfl,DV,by decide,by decide,by decide,λz ws _ b7 LU S=>⟨(by show 1<=Zg;decide),λp hp=>⟨Z,p,_,_,rfl,rfl,.of (ae.new hp _ _ ((b.pick fe DV b7).kp.s _ _ f)),.of ab,?_,λq hq=>?_⟩⟩⟩
   ·exact UH (small (by rw[Tt];show _+1<_;lia))
   have b:=b.pick fe DV b7;clear b7 DV;obtain⟨_,Ih,a3,Ql⟩:=eH (.lst [.str z]) hp;rw[Ih]at hq ⊢;obtain⟨_,Oo,ai,Om⟩:=eH (.lst (v.cur.zZ.map V.str++[V.str z])) hq;rw[Oo];have bk:e≠q:=(LU.same a3).ne hq;have b:=(b.same a3).same ai;have Ls:=(LU.same a3).same ai;clear Ih Oo Ql hp hq LU a3 ai;refine⟨_,rfl,_,rfl,Z,_,rfl,.inl (.of (b.kp.s _ _ f)),_,_,rfl,rfl,e,_,_,rfl,Ls,by lia,by lia,by rw[Tt];lia,λr cz b1 O3 r0 r1=>?_⟩;have O8:cz q=_:=dw b1 Om bk;have b:=b.pick fe Ls b1;rw[Tt]at r1;have b8:r<((v.cur.zZ++[z]).length:Int):=by rw[TJ,T1];lia
   obtain⟨y,L,as⟩:=mh r0 b8;have I:∃ws,fP 12 y ws:=by
    rcases TV.mp L with L | L
    ·exact t y L
    ·rw[Tz.mp L];exact⟨ws,S.eq,S.pos,TN S.le (by decide),S.wd⟩
   refine⟨q,_,r,_,rfl,rfl,.of O8,(by rw[TK]at as;exact as),?_⟩;clear as L b8 r0 r1 O8 b1 Ls Om bk S;refine⟨_,rfl,e,2,_,rfl,O3,by lia,by decide,by decide,λ_ _ c5 Lw _ _=>⟨rfl,_,rfl,?_⟩⟩;have b:=b.pick fe O3 c5;refine Kt (λJ H=>∃y u7,J=[some (.ref a),some (.ref e),some (.ref SV),some (.ref Z),some (.ref g),some (.str y),some (.int c),u7]/\(∃ws,fP 12 y ws)/\I37 K A W Bi H g pa B v) ⟨y,u7,rfl,I,b⟩ (λrest=>?_) (λJ cw ct=>?_)
   ·obtain⟨wy,O⟩:=I;have ck:=O.ok (by decide);have d1:=O.split;have b5:yD wy:=⟨O.pos,O.le,O.wd⟩;refine⟨_,rfl,rfl,y," ",rfl,rfl,by decide +kernel,TN (Vi ck.2 2) (by decide),λWL a8=>?_⟩;rw[d1];have c8:e≠WL:=Lw.ne a8;obtain⟨cw,Pr,b3,Rr⟩:=eH (.lst (wy.map V.str)) a8;rw[Pr];have Ni:=Lw.same b3;have fW:=b.free a8;have b:=b.same b3;clear Pr b3 a8 c5 Lw;refine⟨_,rfl,e,_,rfl,Ni,by lia,λx b2 bb OL R=>?_⟩;have b:=b.pick fe Ni bb;have Pj:b2 WL=_:=dw bb Rr c8;have d3:=b5.pos;have d2:=b5.le;refine⟨_,rfl,_,rfl,_,rfl,WL,_,rfl,.inl (.of Pj),e,_,_,rfl,OL,by lia,by rw[Tt];lia,by rw[Tt];lia,λrj a4 Y _ j0 j1=>?_⟩;have b:=b.pick fe OL Y;have Ob:a4 WL=_:=dw Y Pj c8;refine⟨WL,_,rj,_,rfl,rfl,Ob,Gb j0 j1,?_⟩;have MS:=b5.set (i:=rj.toNat) R;have h1:((" " : Str)).length=1:=rfl;have b:=b.put (zs:=(wy.map V.str).set rj.toNat (.str x)) fW Ob;have Tr:=MS.le;have Ot:(upd a4 WL (.lst ((wy.map V.str).set rj.toNat (.str x)))) WL=some (.lst ((wy.set rj.toNat x).map V.str)):=by rw[ab,List.map_set]
    generalize upd a4 WL (.lst ((wy.map V.str).set rj.toNat (.str x)))=H23 at b Ot ⊢;refine⟨rfl,_,rfl," ",WL,wy.set rj.toNat x,rfl,rfl,.of Ot,mx (λy L=>(MS.wd y L).len) (by rw[h1];lia),?_⟩;exact rest _ _ ⟨_,_,rfl,⟨_,MS.line⟩,b⟩
   clear I b;obtain⟨y,u7,rfl,I,b⟩:=ct;refine⟨_,rfl,_,rfl,_,rfl,_,rfl,Bi,W,g,pa,B,Z,SV,v,y,rfl,b.lg,b.bp,b.kp,f,.of n,G,I,by lia,N,by lia,b.la,λb2 bo Px cur _ cb OG NI NG OH e1 e2 _=>⟨_,rfl,bU ?_⟩⟩;have b:I37 K A W bo b2 g pa Px _:=⟨NI,OH,NG,OG⟩;clear OG NI NG OH;refine⟨_,rfl,_,rfl,(by show 1<=Zg;decide),λp hp=>?_⟩;obtain⟨a4,RY,Y,RL⟩:=eH (.lst [.str y]) hp;rw[RY];refine⟨Z,p,_,_,rfl,rfl,.of ((b.same Y).kp.s _ _ f),.of RL,?_,λq hq=>?_⟩
   ·exact UH (small (by rw[Tt];show _+1<_;lia))
   obtain⟨H23,RA,cm,RS⟩:=eH (.lst (v.cur.zZ.map V.str++[V.str y])) hq;rw[RA];obtain⟨b,sW,cv⟩:=(b.same Y).new cm hq RS;have cf:cur.zZ=v.cur.zZ++[y]:=by unfold StV.zZ;rw[e1,TK];rfl
   refine⟨_,bo,Px,q,_,_,_,_,_,rfl,b,?_,sW _ _ n,sW _ _ U,e2,?_,λq hq=>?_,?_,λq hq=>?_⟩
   ·rw[cv];show _=some (HO.lst (cur.zZ.map V.str));rw[cf,TK];rfl
   ·show cur.rs.length<=_;rw[e1,TJ,T1];lia
   ·replace hq:q∈cur.rs:=hq;rw[e1]at hq;rcases TV.mp hq with h | h
    ·exact N q h
    ·rw[Tz.mp h];exact VR _
   ·show cb.length<=_;lia
   ·replace hq:q∈cur.zZ:=hq;rw[cf]at hq;rcases TV.mp hq with h | h
    ·exact t q h
    ·rw[Tz.mp h];exact I
  exact k _
end
theorem hX1 {s:Wx} (e:hX s=true):PySem.W.xlAt hV [] s=true:=by unfold hX at e;exact(U5.mp e).1
theorem hX2 {s:Wx} (e:hX s=true):PySem.W.recOk (PySem.W.RowW.records (PySem.W.OpenRow.toRowW (PySem.W.OpenLaw.row Yl))) s=true:=by unfold hX at e;exact(U5.mp e).2
theorem hS:Yl.wellSaid=true:=by kernel_rfl
abbrev hFo (i:Nat) (x:Str) (m:Wy) (c:Nat):Zb:=YC x x (cA (top i)) (bS (top i)) (ag (top i)) .none .none .none m none (.ref c) .none
theorem hDf {P:Params}{h:Heap}{mg:Str->Option Wy}{i f c:Nat}{x:Str}{m:Wy} (X:(hK P).In h) (G:h.Ns mainGlobals mg) (ps:WF) (l:(hK P).lookup f=some (hFn i x m c)) (d:YN (hK P) (.ref c) x=true) (k:YG (hK P) (.ref f)=true) (a:PySem.W.nsIn (hK P) mainGlobals x=some (some (.ref f)))
  (b:∀(kV doc pm:Wy) (an:Option Za) (cdv ct:Wy) (us:WJ),us.length=ps.length->bindArgs (YC x x (cA (top i)) (bS (top i)) (ag (top i)) .none kV doc pm an cdv ct) ⟨us,[]⟩=pure (ps.zip us)):bC (hK P) mg x (top i) ps f (hFo i x m c):=
 have F:Fun (hK P) x x (top i) f (hFo i x m c):=FE l d k
 ⟨F,F.binds b,Ys X G a⟩
abbrev Fu (i:Nat) (x:Str) (m:Wy) (c D:Nat):Zb:=YC x x (cA (top i)) (bS (top i)) (ag (top i)) (.ref D) .none .none m none (.ref c) .none
theorem QR {P:Params}{h:Heap}{mg:Str->Option Wy}{i f c D:Nat}{x:Str}{m:Wy} (X:(hK P).In h) (G:h.Ns mainGlobals mg) (ps:WF) (l:(hK P).lookup f=some (hFd i x m c D)) (d:YN (hK P) (.ref c) x=true) (k:YG (hK P) (.ref f)=true) (a:PySem.W.nsIn (hK P) mainGlobals x=some (some (.ref f)))
  (b:Binds (hK P) (Fu i x m c D) ps []):F6 (hK P) mg x (top i) ps f (Fu i x m c D):=
 ⟨⟨⟨_,_,_,_,_,_,_,_,_,_,rfl,l,d⟩,k⟩,b,Ys X G a⟩
abbrev mFo (i j:Nat) (x q:Str) (m:Wy) (c:Nat):Zb:=YC x q (cA (mIn i j)) (bS (mIn i j)) (ag (mIn i j)) .none .none .none m none (.ref c) .none
abbrev Iw (i j:Nat) (x q:Str) (m:Wy) (c D:Nat):Zb:=YC x q (cA (mIn i j)) (bS (mIn i j)) (ag (mIn i j)) (.ref D) .none .none m none (.ref c) .none
theorem mDf {P:Params}{i j f c:Nat}{x q:Str}{m:Wy} (ps:WF) (l:(hK P).lookup f=some ⟨.type "function",none,.func (mFd i j x q 3 m (.ref c)),#[]⟩) (d:YN (hK P) (.ref c) q=true) (k:YG (hK P) (.ref f)=true)
  (b:∀(kV doc pm:Wy) (an:Option Za) (cdv ct:Wy) (us:WJ),us.length=ps.length->bindArgs (YC x q (cA (mIn i j)) (bS (mIn i j)) (ag (mIn i j)) .none kV doc pm an cdv ct) ⟨us,[]⟩=pure (ps.zip us)):iX (hK P) x q (mIn i j) ps f (mFo i j x q m c):=
 ⟨⟨⟨_,_,_,_,_,_,_,_,_,rfl,l,d⟩,k⟩,Binds.all λus a=>b _ _ _ _ _ _ us a⟩
theorem RZ {P:Params}{i j f c D:Nat}{x q:Str}{m:Wy} (ps:WF) (l:(hK P).lookup f=some ⟨.type "function",none,.func (L3 i j x q 3 m (.ref c) D),#[]⟩) (d:YN (hK P) (.ref c) q=true) (k:YG (hK P) (.ref f)=true) (b:Binds (hK P) (Iw i j x q m c D) ps []):IF (hK P) x q (mIn i j) ps f (Iw i j x q m c D):=
 ⟨⟨⟨_,_,_,_,_,_,_,_,_,_,rfl,l,d⟩,k⟩,b⟩
theorem on1 {C:WJ->Prop} (h:∀a0,C [a0]):∀us:WJ,us.length=1->C us
 | [a0],_=>h a0
theorem on2 {C:WJ->Prop} (h:∀a0 a1,C [a0,a1]):∀us:WJ,us.length=2->C us
 | [a0,a1],_=>h a0 a1
theorem on3 {C:WJ->Prop} (h:∀a0 a1 a2,C [a0,a1,a2]):∀us:WJ,us.length=3->C us
 | [a0,a1,a2],_=>h a0 a1 a2
theorem on4 {C:WJ->Prop} (h:∀a0 a1 a2 a3,C [a0,a1,a2,a3]):∀us:WJ,us.length=4->C us
 | [a0,a1,a2,a3],_=>h a0 a1 a2 a3
theorem vh {P:Params}{s:Wx} (X:(hK P).In s.heap) (us:WJ) (a:us.length=2):BindsTo s (Fu 44 "gathered" (.str "loggather.gathering" 466) 275 271) ⟨us,[]⟩ ((["lines","sieve"]:WF).zip (us++[])):=by
 rw[Uu];exact on2 (C:=λus=>BindsTo s (Fu 44 "gathered" (.str "loggather.gathering" 466) 275 271) ⟨us,[]⟩ ((["lines","sieve"]:WF).zip us)) (λ_ _=>BindsTo.of_defaults rfl (X 271 _ rfl) rfl rfl rfl) us a
theorem uW {P:Params}{s:Wx} (X:(hK P).In s.heap) (us:WJ) (a:us.length=2):BindsTo s (Iw 57 0 "__init__" "Log.__init__" (.str "loggather.logs" 552) 357 351) ⟨us,[]⟩ ((["self","sieve"]:WF).zip (us++[])):=by
 rw[Uu];exact on2 (C:=λus=>BindsTo s (Iw 57 0 "__init__" "Log.__init__" (.str "loggather.logs" 552) 357 351) ⟨us,[]⟩ ((["self","sieve"]:WF).zip us)) (λ_ _=>BindsTo.of_defaults rfl (X 351 _ rfl) rfl rfl rfl) us a
def hA:Ad:=⟨120,hFo 14 "has_only" (.str "loggather.words" 319) 119,127,hFo 15 "is_word" (.str "loggather.words" 319) 126,134,hFo 16 "kind_of" (.str "loggather.words" 319) 133,141,hFo 17 "words_of" (.str "loggather.words" 319) 140,146,hFo 18 "is_line" (.str "loggather.words" 319) 145,153,hFo 19 "word_key" (.str "loggather.words" 319) 152,173,hFo 25 "is_hole" (.str "loggather.patterns" 371) 172,180,hFo 26 "part_takes" (.str "loggather.patterns" 371) 179,187,hFo 27 "all_taken" (.str "loggather.patterns" 371) 186,194,hFo 28 "fits" (.str "loggather.patterns" 371) 193,201,hFo 29 "kind_of_hole_around" (.str "loggather.patterns" 371) 200,206,hFo 30 "joined_part" (.str "loggather.patterns" 371) 205,211,hFo 31 "joined" (.str "loggather.patterns" 371) 210,218,hFo 32 "part_key" (.str "loggather.patterns" 371) 217,223,hFo 33 "pattern_key" (.str "loggather.patterns" 371) 222,228,hFo 34 "ordered" (.str "loggather.patterns" 371) 227,236,hFo 37 "grouped" (.str "loggather.gathering" 466) 235,241,hFo 38 "words_at" (.str "loggather.gathering" 466) 240,248,hFo 39 "many_unlike_at" (.str "loggather.gathering" 466) 247,253,hFo 40 "is_fit_to_part_at" (.str "loggather.gathering" 466) 252,258,hFo 41 "place_to_part_at" (.str "loggather.gathering" 466) 257,265,hFo 42 "parted" (.str "loggather.gathering" 466) 264,270,hFo 43 "pattern_of_group" (.str "loggather.gathering" 466) 269,276,Fu 44 "gathered" (.str "loggather.gathering" 466) 275 271,283,hFo 46 "looseness_of_part" (.str "loggather.falling" 531) 282,288,hFo 47 "looseness" (.str "loggather.falling" 531) 287,293,hFo 48 "falls_under" (.str "loggather.falling" 531) 292,300,hFo 52 "how_often" (.str "loggather.logs" 552) 299,312,hFo 54 "pair_key" (.str "loggather.logs" 552) 311,317,hFo 55 "moved" (.str "loggather.logs" 552) 316,483,hFo 59 "_law_deck" (.str "law_loggather_k37_whole_one_line_more" 788) 482,490,hFo 60 "_law_pick" (.str "law_loggather_k37_whole_one_line_more" 788) 489,500,hFo 62 "_law_word" (.str "law_loggather_k37_whole_one_line_more" 788) 499,505,hFo 63 "_law_line" (.str "law_loggather_k37_whole_one_line_more" 788) 504,510,hFo 64 "_law_lines" (.str "law_loggather_k37_whole_one_line_more" 788) 509,524,hFo 66 "_law_sieve" (.str "law_loggather_k37_whole_one_line_more" 788) 523,529,hFo 67 "_law_told" (.str "law_loggather_k37_whole_one_line_more" 788) 528,534,hFo 68 "_law_more_right" (.str "law_loggather_k37_whole_one_line_more" 788) 533,541,hFo 69 "law" (.str "law_loggather_k37_whole_one_line_more" 788) 540,329,mFo 56 0 "__init__" "State.__init__" (.str "loggather.logs" 552) 328,358,Iw 57 0 "__init__" "Log.__init__" (.str "loggather.logs" 552) 357 351,365,mFo 57 1 "__len__" "Log.__len__" (.str "loggather.logs" 552) 364,379,mFo 57 3 "held" "Log.held" (.str "loggather.logs" 552) 378,386,mFo 57 4 "rows_with_falls" "Log.rows_with_falls" (.str "loggather.logs" 552) 385,393,mFo 57 5 "turn_to" "Log.turn_to" (.str "loggather.logs" 552) 392,400,mFo 57 6 "do_deed" "Log.do_deed" (.str "loggather.logs" 552) 399,407,mFo 57 7 "come" "Log.come" (.str "loggather.logs" 552) 406,426,mFo 57 10 "back" "Log.back" (.str "loggather.logs" 552) 425,433,mFo 57 11 "again" "Log.again" (.str "loggather.logs" 552) 432,440,mFo 57 12 "moves" "Log.moves" (.str "loggather.logs" 552) 439,445,mFo 57 13 "patterns" "Log.patterns" (.str "loggather.logs" 552) 444,452,mFo 57 14 "under" "Log.under" (.str "loggather.logs" 552) 451,464,mFo 57 16 "counts" "Log.counts" (.str "loggather.logs" 552) 463,154,229,339,472,257,255⟩
theorem hT {P:Params}{h:Heap}{mg:Str->Option Wy} (X:(hK P).In h) (G:h.Ns mainGlobals mg):Tx (hK P) mg hA:=by
 refine⟨Yd X G ?_,Yd X G ?_,Yd X G ?_,Yd X G ?_,Yd X G ?_,Yd X G ?_,Yd X G ?_,Yd X G ?_,Yd X G ?_,Yd X G ?_,Yd X G ?_,Yd X G ?_,Yd X G ?_,Yd X G ?_,Yd X G ?_,⟨321,Ys X G ?_⟩,(by rw[Kv];exact⟨323,Ys X G (by kernel_rfl)⟩),(by rw[Je];exact⟨325,Ys X G (by kernel_rfl)⟩),(by rw[FU];exact⟨327,Ys X G (by kernel_rfl)⟩),⟨373,Ys X G ?_⟩,Ys X G ?_,(λH=>.inr ⟨_,_,_,rfl,rfl,rfl,(by show 3<=Zg;decide),.cons ⟨_,rfl⟩ (.cons ⟨_,rfl⟩ (.cons ⟨_,rfl⟩ (.nil)))⟩),⟨_,rfl,rfl,rfl⟩,Ys X G ?_,(λH=>.inr ⟨_,_,_,rfl,rfl,rfl,(by show 2<=Zg;decide),.cons ⟨_,rfl⟩ (.cons ⟨_,rfl⟩ (.nil))⟩),⟨_,rfl,rfl,rfl⟩,⟨554,Ys X G ?_⟩,⟨556,Ys X G ?_⟩,hDf X G ["text","signs"] rfl ?_ ?_ ?_ ?_,hDf X G ["thing"] rfl ?_ ?_ ?_ ?_,hDf X G ["word"] rfl ?_ ?_ ?_ ?_,hDf X G ["line"] rfl ?_ ?_ ?_ ?_,hDf X G ["thing"] rfl ?_ ?_ ?_ ?_,hDf X G ["word"] rfl ?_ ?_ ?_ ?_,hDf X G ["part"] rfl ?_ ?_ ?_ ?_,hDf X G ["part","word"] rfl ?_ ?_ ?_ ?_,hDf X G ["parts","words"] rfl ?_ ?_ ?_ ?_,hDf X G ["pattern","line"] rfl ?_ ?_ ?_ ?_,hDf X G ["part"] rfl ?_ ?_ ?_ ?_,hDf X G ["parts"] rfl ?_ ?_ ?_ ?_,hDf X G ["patterns"] rfl ?_ ?_ ?_ ?_,hDf X G ["part"] rfl ?_ ?_ ?_ ?_,hDf X G ["pattern"] rfl ?_ ?_ ?_ ?_,hDf X G ["patterns"] rfl ?_ ?_ ?_ ?_,hDf X G ["rows","keys"] rfl ?_ ?_ ?_ ?_,hDf X G ["group","place"] rfl ?_ ?_ ?_ ?_,hDf X G ["group","place"] rfl ?_ ?_ ?_ ?_,hDf X G ["group","place","sieve"] rfl ?_ ?_ ?_ ?_,hDf X G ["group","sieve"] rfl ?_ ?_ ?_ ?_,hDf X G ["group","sieve"] rfl ?_ ?_ ?_ ?_,hDf X G ["group"] rfl ?_ ?_ ?_ ?_,QR X G ["lines","sieve"] rfl ?_ ?_ ?_ λs c a b=>vh a c (by rw[Uu]at b;exact b),hDf X G ["part"] rfl ?_ ?_ ?_ ?_,hDf X G ["pattern"] rfl ?_ ?_ ?_ ?_,hDf X G ["line","patterns"] rfl ?_ ?_ ?_ ?_,hDf X G ["things"] rfl ?_ ?_ ?_ ?_,hDf X G ["pair"] rfl ?_ ?_ ?_ ?_,hDf X G ["ahead","behind"] rfl ?_ ?_ ?_ ?_,hDf X G ["cell","turn"] rfl ?_ ?_ ?_ ?_,hDf X G ["deck","many"] rfl ?_ ?_ ?_ ?_,hDf X G ["deck"] rfl ?_ ?_ ?_ ?_,hDf X G ["deck","most"] rfl ?_ ?_ ?_ ?_,hDf X G ["deck","most"] rfl ?_ ?_ ?_ ?_,hDf X G ["deck"] rfl ?_ ?_ ?_ ?_,hDf X G ["log"] rfl ?_ ?_ ?_ ?_,hDf X G ["log","lines","line","sieve"] rfl ?_ ?_ ?_ ?_,mDf ["self","sieve","rows","by_hand"] rfl ?_ ?_ ?_,RZ ["self","sieve"] rfl ?_ ?_ λs c a b=>uW a c (by rw[Uu]at b;exact b),mDf ["self"] rfl ?_ ?_ ?_,mDf ["self"] rfl ?_ ?_ ?_,mDf ["self"] rfl ?_ ?_ ?_,mDf ["self","held"] rfl ?_ ?_ ?_,mDf ["self","rows","by_hand"] rfl ?_ ?_ ?_,mDf ["self","moment","line"] rfl ?_ ?_ ?_,mDf ["self"] rfl ?_ ?_ ?_,mDf ["self"] rfl ?_ ?_ ?_,mDf ["self"] rfl ?_ ?_ ?_,mDf ["self"] rfl ?_ ?_ ?_,mDf ["self","number"] rfl ?_ ?_ ?_,mDf ["self","low","high"] rfl ?_ ?_ ?_,Ys X G ?_,⟨?_,?_,?_,?_⟩,⟨?_,?_,?_,?_,?_⟩,⟨?_,?_,?_,?_⟩,(by unfold bT;kernel_rfl),(by unfold bT;kernel_rfl),(by unfold bT;kernel_rfl),(by unfold bT;kernel_rfl),Ys X G ?_,⟨?_,?_,?_,?_⟩,⟨?_,?_,?_,?_,?_⟩,⟨?_,?_,?_,?_⟩,⟨?_,?_,?_⟩,⟨?_,?_,?_⟩,⟨?_,?_,?_⟩,⟨?_,?_,?_⟩,⟨?_,?_,?_⟩,⟨?_,?_,?_⟩,⟨?_,?_,?_⟩,⟨?_,?_,?_⟩,⟨?_,?_,?_⟩,⟨?_,?_,?_⟩,⟨?_,?_,?_⟩,⟨?_,?_,?_⟩,(by unfold bT;kernel_rfl),(by unfold bT;kernel_rfl),(by unfold bT;kernel_rfl),(by unfold bT;kernel_rfl),(by unfold bT;kernel_rfl),⟨rfl,λh a=>PySem.W.codeHd_of_K a ?_,4,_,Ys X G ?_,by decide,by decide,rfl,rfl,rfl,rfl⟩⟩<;>first|exact λ_ _ _ _ _ _=>on1 λ_=>rfl|exact λ_ _ _ _ _ _=>on2 λ_ _=>rfl|exact λ_ _ _ _ _ _=>on3 λ_ _ _=>rfl|exact λ_ _ _ _ _ _=>on4 λ_ _ _ _=>rfl|kernel_rfl
theorem hF (w:Ze) (mg:Str->Option Wy) (a:Za) (h:Heap) (X:(hK w.params).In h) (G:h.Ns mainGlobals mg) (e:mg "law" = some (.ref a)) :
  ∃fd:Zb,(∀(s:Wx) (u:Wy),BindsTo s fd ⟨[u],[]⟩ [("script",u)])/\∀base:Heap,ay Yl.prog w (hK w.params) mg base CX0 27 a fd ["script"] (xa (hK w.params) 255):=by
 have q:=e.symm.trans (Ys X G (show PySem.W.nsIn (hK w.params) mainGlobals "law" = some (some (.ref 541))by kernel_rfl));cases q;exact⟨hFo 69 "law" (.str "law_loggather_k37_whole_one_line_more" 788) 540,λs v=>.of_eq rfl,λbase=>MA (A:=hA) (FE rfl (by kernel_rfl) (by kernel_rfl)) (hT X G)⟩
abbrev hSp:=xa
end K37
open PySem PySem.W PyProof.Rows
theorem PySem.Challenge.cw_loggather_k37_whole_one_line_more_holds : PySem.Challenge.rw_loggather_k37_whole_one_line_more.Holds := by
 refine holds_law K37.hS λj=>@PySem.W.holds_open (OpenLaw.row Yl) K37.hV K37.hLo K37.hX (XL K37.hV []) _ K37.hH.obs K37.hH.val K37.hH.says ?dr ?kw 8022 K37.hL K37.hH.of K37.hH.keeps
  (λs e=>xl_of s (K37.hX1 e)) XL.keeps ?x1 ?x2 ?x3 (λs e=>recFacts_of (K37.hX2 e)) ?x4 j ?x5 ?x6 ?hw ?hc
 case x1=>exact rfl
 case x2=>exact rfl
 case x3=>exact rfl
 case x4=>rfl
 case x5=>decide +kernel
 case x6=>exact⟨rfl,rfl,rfl,rfl,rfl,by decide +kernel⟩
 case hw=>w_witness2
 exact L2.HB (l:=Yl) (n:=63) (k:=27) (x:= "script") (K:=K37.hK) (c:=257) (T:=255) (sp:=λw=>K37.hSp (K37.hK w.params) 255) rfl (by decide) rfl ⟨rfl,by decide,by decide,rfl⟩ (λw h Y=>⟨PySem.W.km_in_of Y,PySem.W.km_tabs_of Y _ (List.Mem.head _)⟩) (λw h X=>PySem.W.codeHd_of_K X (by kernel_rfl)) (λw=>by kernel_rfl)
  (λw f g h X G e=>let ⟨fd,b,k⟩:=K37.hF w f g h X G e;⟨fd,b,λd=>k d⟩) (λ_ _ a i m hT hS=>⟨a,i,rfl,hS,m,⟨_,hT,trivial,.inl rfl⟩,λ_=>rfl⟩)
