import PyProof.Rows.All
import Wide.All
import OpenK.AllK
import Wide.FinOn
import Lean
import PyProof.EqAt
import PyProof.EqKinds
import PyProof.TupleCall
import PyProof.NeData
import PyProof.StrLawsChain
import KE.KSortTup
import KE.KRevSl
import KE.KMinKey
import PyProof.P3In
import KE.KRevIter
import KE.KLam
import KE.KDictSum
import PyProof.StrCalls6
import PyProof.ToksMono
import PyProof.ReprRoads
import PyProof.StrOps2
import KE.KDictLaws
import KE.KDictList
import PyProof.DictValues
import PyProof.TupleKey
import PyProof.IsRules
import PyProof.Rows.SetFrom
import PyProof.DictWalks
import PyProof.FactsAll.set_1
import PyProof.ReprText
import PyProof.WalkInts
import PyProof.ZipIter
import PyProof.CollectWalk
import PyProof.ListNew
import PyProof.ListStr
import PyProof.Rows.Range3
import Wide.Seal
import PyProof.P3Eq
import PyProof.AttrMissHeap
import KE.KDictOf
import PySem.Challenge.RW_loggather_k22_whole_by_hand_and_off
set_option maxHeartbeats 8000000
abbrev Vzz:=PySem.W.Frag
abbrev Vzy:=PySem.Value
abbrev Vzx:=PySem.Shared
abbrev Qqv:=List PySem.Str
abbrev Qqu:=List Qqv
abbrev Qqw:=Array Vzy
abbrev Qqx:=List PySem.Addr
abbrev Qqy:=List PySem.PyData
abbrev Qqz:=List Vzy
def Vzw:=@PySem.wpAny_bind
def Vzv:=@PySem.wpAny_pure
def Vzu:=@PySem.Heap.get?_push_of_some
def Vzt:=@PySem.wpAny_mono
def Vzs:=@PySem.wpAny_holding
open PySem.Challenge renaming pw_loggather_k22_whole_by_hand_and_off→YP,rw_loggather_k22_whole_by_hand_and_off→ZZ
open PySem.Heap renaming get?_push_size→Z0,lt_size→Z1,get?_update_other→W9,SameBut→UV
open PySem.PyData renaming strOk→Z2,depthAll→Z3,canLayAll0→Z4,eqv→Z7,depth→ZT,shownAll_cons→Yaj,eqvAll→Yak,showableAll→Yar
open PySem.Txt renaming split→Z5,join→Ya6,slice→Yac,stripChars→Yao
open List renaming range→Z6,replicate→UF,toArray→Ya8,lookup→Yah
open PySem renaming boot_len→Z8,mem_of_lookup→WH,Addr→Yau,FuncData→Yav,Around→Yaw,Program→Yax,World→Yay,PyData→Yaz,sizeLine→Yb0,wpAny→Yb1,starEach→Yb2,SetTable→Yb3
open PySem.Obj renaming mapSeq→Z9
open PySem.Around renaming under_plainId→ZB
open PySem.F renaming plainAttrs_list→ZU,slot_list_append→Ws,type_list_append→WF,plain_min_loop→WV,plainAttrs_str→WY,slot_list_count→Yap
open PySem.W renaming mg_none_of→ZV,boot_heap→ZX,findIn→W1,kia_one→WK,mg_of→WP,emptyDict→Ya0,fnOf→Ya1,topFrame→Ya3,keepIn→Ya5,instObj→Yaa,notFirst→Yad,codeIn→Yae,segRun→Yam,piecesOf→Yan
open PySem.Heap.SameBut renaming update→ZW
open PySem.Str renaming empty→ZY,ofString→WU,join→Ya9
open PyProof.Rows renaming callWith_type1→W0
open Option.some renaming inj→Uf
open PySem.PassesOwn renaming never→UO
open PySem.Calls renaming spliced_cons→Ya2,spliced_nil→Yai
open Ne renaming symm→Ya4
open Exists renaming choose_spec→Ya7
open PyProof.Rows.F renaming plain_set_update_loop→Yab
open PySem.SetTable renaming grown→Yaf
open List.cons renaming injEq→Yag
open PySem.Builtin.List renaming listSameRef→Yal
open PySem.W.KasT renaming kasWp→Yaq
open List.Perm renaming refl→Yas
open PySem.W.Looks renaming ld→Yat
def Yb4:=@decide_eq_true
def Yb5:=@decide_eq_false
def Yb6:=@of_decide_eq_true
def Yb7:=@if_pos
def Yb8:=@if_neg
open List renaming length_map→XA,mem_of_getElem?→XB,mem_cons_self→XC,mem_map→XE,mem_cons_of_mem→XF,map_append→XH,length_append→XI,getElem?_eq_getElem→XJ,getElem?_map→XM,size_toArray→XO,mem_cons→XQ,mem_singleton→XR,map_cons→XS,mem_append→XU,take_add_one→XW,length_cons→XX,take_of_length_le→XY,length_singleton→XZ,length_take→X4,mem_filter→X7,map_congr_left→X8,mem_append_right→Yb,all_eq_true→Ye,map_map→Yg,not_mem_nil→Yi,drop_eq_getElem_cons→Yj,take_length→Yk,getD_eq_getElem?_getD→Yl,append_nil→Ym,append_assoc→Yn,eq_nil_of_length_eq_zero→Yo,getElem?_append_left→Yp,filter_append→Yq,flatMap_cons→Yr,mem_append_left→Ys,length_filter_le→Yt,pairwise_map→Yu,getElem?_append_right→Yw,any_cons→Yy,find?_cons→Yz,mem_flatMap→YA,cons_append→YB,sum_cons→YC,length_zip→YD,length_nil→YE,getElem?_zip_eq_some→YF,getElem?_eq_some_iff→YG,getElem_mem→YH,map_eq_nil_iff→YI,filter_cons→YM,zip_cons_cons→YN,exists_mem_of_ne_nil→YQ,nodup_cons→YS,mem_of_mem_take→YT,map_nil→YU,length_range→YV,getElem?_of_mem→YW,nodup_nil→YZ,mem_range→Y0,length_drop→Y1,filter_cons_of_neg→Y2,countP_cons→Y3,filter_eq_nil_iff→Y7,drop_of_length_le→Y8,nil_append→Za,replicate_succ'→Zd,mem_iff_getElem→Ze,drop_eq_nil_iff→Zf,any_eq_true→Zg,count_singleton_self→Zh,filterMap_cons→Zi,range_succ→Zk,of_mem_zip→Zl,forIn_cons→Zm,length_eq_zero_iff→Zo,filter_cons_of_pos→Zp,nodup_append→Zr,count_append→Zs,length_replicate→Zt,getElem?_eq_none→Zu,isEmpty_iff→Zw,dropLast_concat_getLast→Zy,length_pos_iff→ZA,perm_ext_iff_of_nodup→ZD,mem_filterMap→ZE,pairwise_iff_getElem→ZH,getElem?_eq_none_iff→ZI,all_cons→ZK,lookup_cons→ZL,getElem?_replicate→ZM,ext_getElem→ZN,getElem?_set_self→ZR
open Nat renaming le_refl→XD,le_trans→XG,zero_le→XT,ne_of_lt→X3,lt_of_lt_of_le→X9,le_of_lt→YJ,le_succ→YL,ne_of_gt→Y5,lt_of_le_of_lt→Y6,add_le_add_right→Zc,lt_irrefl→Zj,min_self→Zq,lt_succ_self→Zv,lt_or_ge→ZC,sub_self→ZP,le_of_eq→ZQ
open Bool renaming false_ne_true→XN,eq_false_iff→X5,eq_iff_iff→Yc,and_eq_true→Yd,false_eq_true→Yh,and_false→YO,and_eq_true_iff→YX,true_and→YY,or_false→Zx
open Array renaming length_toList→X6,toList_append→Yx,getD_eq_getD_getElem?→YK,getElem?_eq_getElem→YR,forIn_toList→Y9,getElem?_toList→Zb,perm_iff_toList_perm→ZG,toList_push→ZJ,toList_inj→ZO,getElem?_eq_none→ZS
open Int renaming toNat_natCast→Yv,eq_ofNat_of_zero_le→Y4,emod_lt_of_pos→Zn,emod_nonneg→Zz,natCast_nonneg→ZF
set_option compiler.extract_closed false
set_option Elab.async false
set_option linter.all false
set_option autoImplicit false
set_option maxRecDepth 100000
open PySem
variable {byT:Bool}{env:Env}{elt iter tg value:Expr}{base h h' h1 h2:Heap}{hi l lo:Int}{pins:List (Yau×Obj)}{outer:List Env}{BX ifs:List Expr}{fi:List Nat}{M:Model}{ep i j m n n' n2 q slot t' tk:Nat}{oT oe ox:Obj}{K1 apos dR p2 pos pos' yA:Pos}{scope:Scope}{name qual x y z:Str}{α β κ:Type}{C CL CS D I L T a a0 a1 b d dx ea f it pa tb tb':Yau}{kf:Yau->Int×Str}{fd:Yav}{A:Yaw}{prog:Yax}{w:Yay}{S:Yaz->Prop}
namespace L2
open PySem PySem.W
section
variable {p:Yax}{q:Yax}{loose:Qqv}{Xt:Vzx->Bool}{Yf:Vzx->α}{Ya:Yay->α}{N:Nat}{H₀:Params->Heap}{d₀:Drawn}{k₀ m₀:Nat}{ann:Option Vzy}{c:Code}{qp:Pos}
def pQ (p q:Yax) (loose:Qqv) (Xt:Vzx->Bool) {α:Type} (Yf:Vzx->α) (Ya:Yay->α) (H₀:Params->Heap) (m₀:Nat) (ann:Option Vzy) (env:Env) (c:Code) (qp:Pos) (n:Nat) (l:List Stmt) (pos:Pos) (w:Yay) (s:Vzx):Prop:=
 ∃r,topRun treeTable p w m₀ ann n s (restOf l env c pos [topFrame qp])=some r/\(staticsOk (importedModules p.main.body) (H₀ w.params) r.heap && namesBound p r.heap && gensDone r && laidKept (H₀ w.params) r.heap)=true/\openSeen q loose (importedModules p.main.body) Xt true r=openGood q loose/\Yf r=Ya w
theorem HP {b:Nat}{l:List Stmt}{s:Vzx}
  (h:(segRun treeTable p w m₀ ann 1 n s (piecesOf l env c pos [topFrame qp])).bind (λz=>(topRun treeTable p w m₀ ann b z.2.1 ⟨doneF .next,c,z.2.2.2,[topFrame qp]⟩).map λr=>(z.1,z.2.2.1,(staticsOk (importedModules p.main.body) (H₀ w.params) r.heap && namesBound p r.heap && gensDone r && laidKept (H₀ w.params) r.heap),openSeen q loose (importedModules p.main.body) Xt true r,Yf r))=some (.next,c,true,openGood q loose,Ya w)) :
  pQ p q loose Xt Yf Ya H₀ m₀ ann env c qp (n+b) l pos w s:=by
 obtain⟨⟨f,_,_,_⟩,g,j⟩:=Option.bind_eq_some_iff.mp h;obtain⟨r,o,a⟩:=Option.map_eq_some_iff.mp j;simp only[Prod.mk.injEq]at a;obtain⟨k,m,d,e,i⟩:=a;subst k m;have:=piece_app (rest:=[]) g (piece_nil o);rw[Ym]at this;exact⟨r,this,d,e,i⟩
theorem nU {l a b:List Stmt}{s s':Vzx} (h:segRun treeTable p w m₀ ann 1 n s (piecesOf l env c pos [topFrame qp])=some (.next,s',c,pos')) (d:l++a = b) (t:pQ p q loose Xt Yf Ya H₀ m₀ ann env c qp n' a pos' w s'):pQ p q loose Xt Yf Ya H₀ m₀ ann env c qp (n+n') b pos w s:=by
 obtain⟨r,e,f⟩:=t;rw[<-d];exact⟨r,piece_app h e,f⟩
theorem yc (b:List Stmt) (a d:Nat):(b.drop a).take d++b.drop (a+d)=b.drop a:=by
 grind [List.drop_drop,List.take_append_drop]
theorem Lg {a g:Nat}{b o u:List Stmt}{l:Pos}{A:Params->Heap}{v:Drawn} (K:c = .body b env) (S:o++u=b)
  (E:∀w:Yay,(fencedOpening treeTable p w N).map (λs=>(s.heap,s.gens,s.drawn,s.toks))=some (H₀ w.params,Array.mk [],d₀,k₀))
  (f:∀w:Yay,((H₀ w.params).isNs mainGlobals,(H₀ w.params).objs.size,(H₀ w.params).nsMap mainGlobals "__annotations__")=(true,m₀,ann))
  (h1:∀(w:Yay) (os:OsState),(topGo treeTable p w m₀ ann a ⟨H₀ w.params,Array.mk [],d₀,k₀,os⟩ (topStub p)).bind (λx=>(segRun treeTable p w m₀ ann 1 g x.1 (blockOf b env c l [topFrame qp])).bind λy=>(segRun treeTable p w m₀ ann 1 i y.2.1 (piecesOf o env c y.2.2.2 [topFrame qp])).map λz=>(x.2,y.1,y.2.2.1,z))=some (⟨denote treeTable c,c,l,[topFrame qp]⟩,.next,c,(.next,⟨A w.params,Array.mk [],v,n,os⟩,c,pos)))
  (h2:∀(w:Yay) (os:OsState),pQ p q loose Xt Yf Ya H₀ m₀ ann env c qp n2 u pos w ⟨A w.params,Array.mk [],v,n,os⟩) (le:Nat.ble (a+(g+(i+n2))) N=true):LeftO p q loose Xt Yf Ya N true:=λw=>by
 obtain⟨⟨h,J,d,k,os⟩,e,L⟩:=Option.map_eq_some_iff.mp (E w);obtain⟨rfl,rfl,rfl,rfl⟩:h=H₀ w.params/\J=Array.mk []/\d=d₀/\k=k₀:=by simpa using L
 obtain⟨_,_,_⟩:_/\_/\_:=by simpa only[Prod.mk.injEq]using f w
 obtain⟨⟨_,_⟩,O,Q⟩:=Option.bind_eq_some_iff.mp (h1 w os);obtain⟨⟨_,_,_,_⟩,T,P⟩:=Option.bind_eq_some_iff.mp Q;obtain⟨⟨_,_,_,_⟩,B,j⟩:=Option.map_eq_some_iff.mp P;simp only[Prod.mk.injEq]at j;obtain⟨M,H,D,I,G,U,R⟩:=j;subst M H D I G U R;obtain⟨r,F,_,_,_⟩:=h2 w os;have m:=piece_app B F;rw[S]at m;subst K;have C:=topRun_mono (N - (a+(g+(i+n2)))) _ _ _ _ (go_top O (piece_block T m));rw[show a+(g+(i+n2))+(N - (a+(g+(i+n2))))=N by have:=Nat.le_of_ble_eq_true le;lia]at C;have t:topFrom treeTable p w N ⟨H₀ w.params,Array.mk [],d,k,os⟩=some r:=by
  unfold topFrom
  simp_all
 unfold openEnds
 simp_all
end
end L2
variable {es:Array (Int×Vzy)}{g g' rss wss:Qqu}{N N' ms ns ps ws zs:Qqv}{items its:Qqw}{ch fp:Qqx}{ds kds:Qqy}{jG us vs:Qqz}{R:Result->Vzx->Prop}{mA mg:Str->Option Vzy}{s':Vzx}{cd cls first u:Vzy}{E Q:Vzy->Vzx->Prop}{K:Vzz}
namespace L2
open PySem
def cR (s:Stmt):Arguments:=match s with
 | .FunctionDef _ a _ _ _ _ _ _ _ _=>a
 | _=>{ posonlyargs:=[],args:=[],vararg:=none,kwonlyargs:=[],kw_defaults:=[],kwarg:=none,defaults:=[] }
def b6 (s:Stmt):List Stmt:=match s with
 | .FunctionDef _ _ b _ _ _ _ _ _ _=>b
 | _=>[]
def ae (s:Stmt):Scope:=match s with
 | .FunctionDef _ _ _ _ _ _ sc _ _ _=>sc
 | _=>{ kind:=.function,names:=[],isGenerator:=false,isCoroutine:=false }
end L2
namespace K22
open PySem L2
def top (i:Nat):Stmt:=YP.main.body.getD i (.Pass ⟨0,0,0,0⟩)
def mIn (i j:Nat):Stmt:=match top i with
 | .ClassDef _ _ _ b _ _ _ _ _ _ _=>b.getD j (.Pass ⟨0,0,0,0⟩)
 | x=>x
def hqC (x:Str) (a:Nat) (L n:Int) (r:Nat) (d:Nat):Obj:=⟨.type "code",none,.fields #[.str x a,.str x (a+1),.str "/claim/cut.py" (a+2),.int L 0,.int n 0,.int 0 0,.int 0 0,.int 3 0,.ref r,.bool true,.int 181 0,.ref (r+1),.none,.ref (r+2),.ref (r+3),.ref (r+4),.int (Int.ofNat d) 0,.int L 0,.str "/claim/cut.py" (d+1)],#[]⟩
def hqD (x:Str) (a:Nat) (L n:Int) (r:Nat):Obj:=⟨.type "code",none,.fields #[.str x a,.str x (a+1),.str "/claim/cut.py" (a+2),.int L 0,.int n 0,.int 0 0,.int 0 0,.int 3 0,.ref r,.bool true,.int 181 0,.ref (r+1),.none,.none,.none,.ref (r+2),.int (Int.ofNat (a+3)) 0,.int L 0,.str "/claim/cut.py" (a+4)],#[]⟩
def hqU (l:Qqz):Obj:=⟨.type "tuple",none,.seq l.toArray 0,#[]⟩
def hqN:Obj:=⟨.none,none,.fields #[],#[]⟩
def hFz (i:Nat) (x:Str):Obj:=⟨.none,none,.func { name:=x,qualname:=x,params:=cR (top i),body:=.stmts (b6 (top i)),scope:=ae (top i),globals:=0,closure:=[],defaults:=.none,kwdefaults:=.none },#[]⟩
def hFd (i:Nat) (x:Str) (m:Vzy) (c D:Nat):Obj:=⟨.type "function",none,.func { name:=x,qualname:=x,params:=cR (top i),body:=.stmts (b6 (top i)),scope:=ae (top i),globals:=3,closure:=[],defaults:=.ref D,kwdefaults:=.none,pyModule:=m,code:=.ref c },#[]⟩
def mFd (i j:Nat) (x q:Str) (g:Yau) (m c:Vzy):Yav:={ name:=x,qualname:=q,params:=cR (mIn i j),body:=.stmts (b6 (mIn i j)),scope:=ae (mIn i j),globals:=g,closure:=[],defaults:=.none,kwdefaults:=.none,pyModule:=m,code:=c }
def Py (i j:Nat) (x q:Str) (g:Yau) (m c:Vzy) (D:Nat):Yav:={ name:=x,qualname:=q,params:=cR (mIn i j),body:=.stmts (b6 (mIn i j)),scope:=ae (mIn i j),globals:=g,closure:=[],defaults:=.ref D,kwdefaults:=.none,pyModule:=m,code:=c }
def hEn (P:Params) (x:Str) (t:Nat) (v:Vzy):DictEntry:=⟨PyData.keyHash P x,.str x t,v⟩
def hqR (P:Params) (x:Str) (n k:Nat):=hEn P x n (.ref k)
def hqM (x y:Str) (a:Nat) (L n:Int) (r d:Nat):Obj:=⟨.type "code",none,.fields #[.str x a,.str y (a+1),.str "/claim/cut.py" (a+2),.int L 0,.int n 0,.int 0 0,.int 0 0,.int 3 0,.ref r,.bool true,.int 181 0,.ref (r+1),.none,.ref (r+2),.ref (r+3),.ref (r+4),.int (Int.ofNat d) 0,.int L 0,.str "/claim/cut.py" (d+1)],#[]⟩
def hqO (x y:Str) (a:Nat) (L n:Int) (r:Nat):Obj:=⟨.type "code",none,.fields #[.str x a,.str y (a+1),.str "/claim/cut.py" (a+2),.int L 0,.int n 0,.int 0 0,.int 0 0,.int 3 0,.ref r,.bool true,.int 181 0,.ref (r+1),.none,.none,.none,.ref (r+2),.int (Int.ofNat (a+3)) 0,.int L 0,.str "/claim/cut.py" (a+4)],#[]⟩
def hqB (x:Str) (a:Nat) (L:Int) (r:Nat):Obj:=⟨.type "code",none,.fields #[.str x a,.str x (a+1),.str "/claim/cut.py" (a+2),.int L 0,.int 0 0,.int 0 0,.int 0 0,.int 0 0,.ref r,.bool false,.int 181 0,.ref (r+1),.none,.none,.none,.none,.int (Int.ofNat (a+3)) 0,.int L 0,.str "/claim/cut.py" (a+4)],#[]⟩
def dQ:Vzy:=.str "loggather.logs" 536
def o4:Vzy:=.str "loggather.patterns" 355
def iL:Vzy:=.str "loggather.errors" 194
def yr:Vzy:=.str "loggather.gathering" 450
def Fz:Vzy:=.str "loggather.words" 303
def qg:Vzy:=.str "law_loggather_k22_whole_by_hand_and_off" 772
def Px:Vzy:=.str "loggather.falling" 515
def hqF (i j:Nat) (x q:Str) (m:Vzy) (c:Nat):Obj:=⟨.type "function",none,.func (mFd i j x q 3 m (.ref c)),#[]⟩
def hqG (i j:Nat) (x q:Str):Obj:=⟨.none,none,.func (mFd i j x q 0 .none .none),#[]⟩
def hqW (a b:Nat) (m:Vzy):Obj:=⟨.type "frame",none,.plain,#[some (.ref a),some (.ref 3),some (.ref b),none,some m,none,some (.ref 0)]⟩
def hqI (x:String) (a:Nat):Obj:=⟨.type "builtin_function_or_method",none,.fields #[.builtin x,.ref a],#[]⟩
def hqS (a:Nat):Obj:=⟨.type "super",none,.fields #[.ref a,.ref a,.ref a],#[]⟩
def hqE (x:Str) (b s n a c d:Nat):Obj:=⟨.type "type",none,.cls { name:=x,bases:=[.ref b],mro:=[.ref s,.ref b,.type "ValueError",.type "Exception",.type "BaseException",.type "object"],ns:=n,qualname:=x,hasDict:=true,slotNames:=[],subclasses:=[],abstract:=false,collection:=none,hasDel:=false },#[some (.ref a),none,some (.str x c),some (.str x d),some (.builtin "ValueError.__new__"),some (.bool true)]⟩
def hFn (i:Nat) (x:Str) (m:Vzy) (c:Nat):Obj:=⟨.type "function",none,.func { name:=x,qualname:=x,params:=cR (top i),body:=.stmts (b6 (top i)),scope:=ae (top i),globals:=3,closure:=[],defaults:=.none,kwdefaults:=.none,pyModule:=m,code:=.ref c },#[]⟩
def hqs (v:Qqv) (a:Nat):Qqz:=(v.zipIdx a).map λy=>.str y.1 y.2
structure hDR where
 (i:Nat) (x:Str) (a:Nat) (L n:Int) (r:Nat) (v:Qqv) (m:Vzy)
def hDR.c (t:hDR):Nat:=if t.v.isEmpty then t.r+3 else t.r+5
def hDR.co (t:hDR):Obj:=if t.v.isEmpty then hqD t.x t.a t.L t.n t.r else hqC t.x t.a t.L t.n t.r (t.a+3+t.v.length)
def hDR.o (t:hDR):List Obj:=hqU []::hqN::((if t.v.isEmpty then[]else[hqU (hqs t.v (t.a+3)),hqU []])++[hFz t.i t.x,t.co,hFn t.i t.x t.m t.c])
def hDR.e (P:Params) (t:hDR):DictEntry:=hqR P t.x (t.a+5+t.v.length) (t.c+1)
def hDR.p (t:hDR):Qqz:=[.int t.L 0,.int 0 0,.ref t.c]
def hDR.k (t:hDR):List (Yau×Obj):=[(t.c,t.co),(t.c+1,hFn t.i t.x t.m t.c)]
def hDR.ad (t:hDR):Qqx:=[t.c,t.c+1]
structure hMR where
 (i j:Nat) (x q:Str) (a:Nat) (L n:Int) (r:Nat) (v:Qqv) (m:Vzy)
def hMR.c (t:hMR):Nat:=if t.v.isEmpty then t.r+3 else t.r+5
def hMR.co (t:hMR):Obj:=if t.v.isEmpty then hqO t.x t.q t.a t.L t.n t.r else hqM t.x t.q t.a t.L t.n t.r (t.a+3+t.v.length)
def hMR.o (t:hMR):List Obj:=hqU []::hqN::((if t.v.isEmpty then[]else[hqU (hqs t.v (t.a+3)),hqU []])++[hqG t.i t.j t.x t.q,t.co,hqF t.i t.j t.x t.q t.m t.c])
def hMR.e (P:Params) (t:hMR):DictEntry:=hqR P t.x (t.a+5+t.v.length) (t.c+1)
def hMR.p (t:hMR):Qqz:=[.int t.L 0,.int 4 0,.ref t.c]
def hMR.k (t:hMR):List (Yau×Obj):=[(t.c,t.co),(t.c+1,hqF t.i t.j t.x t.q t.m t.c)]
def hMR.ad (t:hMR):Qqx:=[t.c,t.c+1]
def JZ:List hDR:=[⟨0,"_wall",187,1,1,15,["k"],(.str "__main__" 164)⟩]
def Nu:List hMR:=[⟨5,0,"__init__","NoMoment.__init__",258,13,2,66,["self","last"],iL⟩]
def Ik:List hDR:=[⟨13,"has_only",313,25,2,102,["text","signs"],Fz⟩,⟨14,"is_word",321,27,1,109,["thing"],Fz⟩,⟨15,"kind_of",328,29,1,116,["word"],Fz⟩,⟨16,"words_of",335,35,1,123,["line"],Fz⟩,⟨17,"is_line",342,37,1,130,[],Fz⟩,⟨18,"word_key",348,42,1,135,["word"],Fz⟩]
def KY:List hDR:=[⟨22,"is_part",363,47,1,143,["thing"],o4⟩,⟨23,"is_pattern",370,53,1,150,[],o4⟩,⟨24,"is_hole",376,57,1,155,["part"],o4⟩,⟨25,"part_takes",383,59,2,162,["part","word"],o4⟩,⟨26,"all_taken",391,65,2,169,["parts","words","part","word"],o4⟩,⟨27,"fits",401,72,2,176,["pattern","line"],o4⟩,⟨28,"kind_of_hole_around",409,74,1,183,["part","kind"],o4⟩,⟨29,"joined_part",417,79,1,190,[],o4⟩]
def Lu:List hDR:=[⟨30,"joined",423,86,1,195,[],o4⟩,⟨31,"part_key",429,93,1,200,["part","length","text"],o4⟩,⟨32,"pattern_key",438,98,1,207,[],o4⟩,⟨33,"ordered",444,100,1,212,[],o4⟩]
def Kt:List hDR:=[⟨36,"grouped",455,104,2,218,["rows","keys","groups","row","key"],yr⟩,⟨37,"words_at",466,109,2,225,[],yr⟩,⟨38,"many_unlike_at",472,111,2,230,["group","place"],yr⟩,⟨39,"is_fit_to_part_at",480,113,3,237,[],yr⟩,⟨40,"place_to_part_at",486,118,2,242,[],yr⟩,⟨41,"parted",492,121,2,247,["group","sieve","place","groups","smaller"],yr⟩,⟨42,"pattern_of_group",503,129,1,254,[],yr⟩]
def Lf:List hDR:=[⟨45,"looseness_of_part",517,138,1,265,["part"],Px⟩,⟨46,"looseness",524,142,1,272,[],Px⟩,⟨47,"falls_under",530,144,2,277,[],Px⟩]
def Lr:List hDR:=[⟨51,"how_often",542,150,1,282,["things","many","thing"],dQ⟩,⟨52,"words_in_order",551,155,1,289,[],dQ⟩,⟨53,"pair_key",557,158,1,294,["pair","old","new"],dQ⟩,⟨54,"moved",566,161,2,301,[],dQ⟩]
def PM:List hMR:=[⟨55,0,"__init__","State.__init__",584,166,4,313,[],dQ⟩]
def UY:List hMR:=[⟨55,1,"fall_of","State.fall_of",590,174,2,318,["self","line"],dQ⟩]
def KN:List hMR:=[⟨56,1,"__len__","Log.__len__",630,185,1,347,["self"],dQ⟩,⟨56,2,"__eq__","Log.__eq__",637,188,2,354,["self","other"],dQ⟩,⟨56,3,"held","Log.held",645,193,1,361,["self"],dQ⟩,⟨56,4,"rows_with_falls","Log.rows_with_falls",652,196,1,368,["self"],dQ⟩,⟨56,5,"turn_to","Log.turn_to",659,199,2,375,["self","held","rows","by_hand"],dQ⟩,⟨56,6,"do_deed","Log.do_deed",669,204,3,382,["self","rows","by_hand"],dQ⟩,⟨56,7,"come","Log.come",678,209,3,389,["self","moment","line","rows"],dQ⟩,⟨56,8,"put","Log.put",688,220,2,396,["self","pattern","by_hand"],dQ⟩,⟨56,9,"take","Log.take",697,228,2,403,[],dQ⟩,⟨56,10,"back","Log.back",703,234,1,408,["self"],dQ⟩,⟨56,11,"again","Log.again",710,237,1,415,["self"],dQ⟩,⟨56,12,"moves","Log.moves",717,240,1,422,["self"],dQ⟩,⟨56,13,"patterns","Log.patterns",724,243,1,429,[],dQ⟩,⟨56,14,"under","Log.under",730,246,2,434,["self","number"],dQ⟩]
def T8:List hMR:=[⟨56,15,"would_fall","Log.would_fall",738,249,2,441,["self","line"],dQ⟩]
def J6:List hMR:=[⟨56,16,"counts","Log.counts",746,252,3,448,[],dQ⟩,⟨56,17,"holes","Log.holes",752,256,2,453,[],dQ⟩]
def Jt:List hDR:=[⟨58,"_law_deck",774,263,2,465,(.replicate 2 ""),qg⟩,⟨59,"_law_pick",782,267,2,472,(.replicate 4 ""),qg⟩,⟨60,"_law_kind",792,278,1,479,[],qg⟩,⟨61,"_law_word",798,283,1,484,[],qg⟩,⟨62,"_law_line",804,293,2,489,[],qg⟩,⟨63,"_law_lines",810,295,2,494,[],qg⟩,⟨64,"_law_pattern",816,306,2,499,(.replicate 6 ""),qg⟩,⟨65,"_law_sieve",828,318,1,506,(.replicate 1 ""),qg⟩,⟨66,"_law_told",835,320,2,513,[],qg⟩,⟨67,"_law_put_right",841,323,5,518,[],qg⟩,⟨68,"law",847,341,1,523,[],qg⟩]
def z5:List hMR:=PM++UY
def zh:List hMR:=KN++T8++J6
def Ul (P:Params):List DictEntry:=([hEn P "__doc__" 166 (.none),hEn P "__package__" 167 (.none),hEn P "__loader__" 168 (.builtin "__main__.__loader__#opaque"),hEn P "__spec__" 169 (.none),hqR P "__annotations__" 170 6,hqR P "__builtins__" 171 4,hEn P "__file__" 173 (.str "/claim/cut.py" 172),hEn P "__cached__" 174 (.none)]++JZ.map (hDR.e P)++[hqR P "GatherError" 213 31,hqR P "NoJoin" 229 44,hqR P "NoLine" 245 56,hqR P "NoMoment" 270 75])
def RL (P:Params):List DictEntry:=Ul P++([hqR P "NoPattern" 286 87,hqR P "TooMany" 302 99,hEn P "MOST_WORDS" 306 (.int 12 305),hEn P "FIGURES" 308 (.str "0123456789" 307),hEn P "SMALL_LETTERS" 310 (.str "abcdefghijklmnopqrstuvwxyz" 309),hEn P "WORD_SIGNS" 312 (.str "!\"#$&'()*+,-./0123456789:;<=>?@ABCDEFGHIJKLMNOPQRSTUVWXYZ[\\]^_`abcdefghijklmnopqrstuvwxyz{|}~" 311)]++Ik.map (hDR.e P)++[hEn P "MOST_PARTS" 358 (.int 12 357),hqR P "HOLE_KINDS" 362 142]++KY.map (hDR.e P))
def SK (P:Params):List DictEntry:=RL P++(Lu.map (hDR.e P)++[hqR P "PLAIN_SIEVE" 454 217]++Kt.map (hDR.e P)++[hqR P "gathered" 514 264]++Lf.map (hDR.e P)++[hEn P "MOST_LINES" 539 (.int 120 538),hEn P "MOST_BY_HAND" 541 (.int 12 540)]++Lr.map (hDR.e P))
def Ux (P:Params):List DictEntry:=SK P++[hqR P "State" 609 327]
def Tz (P:Params):List DictEntry:=Ux P++[hqR P "Log" 771 460]
def Wu (P:Params):List DictEntry:=Tz P++Jt.map (hDR.e P)
def RY:Qqz:=(JZ.flatMap hDR.p++[.int 5 0,.int 0 0,.ref 27,.int 7 0,.int 0 0,.ref 40,.int 9 0,.int 0 0,.ref 52,.int 11 0,.int 0 0,.ref 64])
def UC:Qqz:=RY++([.int 16 0,.int 0 0,.ref 83,.int 18 0,.int 0 0,.ref 95]++Ik.flatMap hDR.p++KY.flatMap hDR.p)
def Ti:Qqz:=UC++(Lu.flatMap hDR.p++Kt.flatMap hDR.p++[.int 131 0,.int 0 0,.ref 263]++Lf.flatMap hDR.p++Lr.flatMap hDR.p)
def R1:Qqz:=Ti++[.int 164 0,.int 0 0,.ref 311]
def Wp:Qqz:=R1++[.int 176 0,.int 0 0,.ref 337]
def hV:Yax:={ YP with main:={ YP.main with body:=[0,2,3,4,5,6,7,9,10,11,12,13,14,15,16,17,18,20,21,22,23,24,25,26,27,28,29,30,31,32,33,35,36,37,38,39,40,41,42,45,46,47,49,50,51,52,53,54,55,56,58,59,60,61,62,63,64,65,66,67,68].map top } }
def hK (P:Params):Vzz:=([(4,⟨.type "module",some 0,.plain,#[]⟩),(3,⟨.type "dict",none,.dict (hEn P "__name__" 165 qg::Wu P).toArray 71,#[]⟩)]++JZ.flatMap hDR.k++Ik.flatMap hDR.k++[(142,hqU [.str "number" 359,.str "name" 360,.str "any" 361])]++KY.flatMap hDR.k++Lu.flatMap hDR.k++[(217,hqU [.int 3 452,.int 2 453])]++Kt.flatMap hDR.k++[(259,hqU [.ref 217]),(263,hqD "gathered" 509 131 2 260),(264,hFd 43 "gathered" yr 263 259)]++Lf.flatMap hDR.k++Lr.flatMap hDR.k++PM.flatMap hMR.k++[(326,⟨.type "dict",none,.dict ([hEn P "__module__" 579 dQ,hEn P "__firstlineno__" 583 (.int 164 582)]++(z5.map (hMR.e P)++[hqR P "__static_attributes__" 602 325,hqR P "__dict__" 604 328,hqR P "__weakref__" 606 329,hEn P "__doc__" 607 (.none)])).toArray 4,#[]⟩),(327,⟨.type "type",none,.cls { name:= "State",bases:=[.type "object"],mro:=[.ref 327,.type "object"],ns:=326,qualname:= "State",hasDict:=true,slotNames:=[],subclasses:=[],abstract:=false,collection:=none,hasDel:=false },#[none,none,some (.str "State" 572),some (.str "State" 580),some (.builtin "object.__new__"),some (.bool true)]⟩),(339,hqU [.ref 217]),(345,hqM "__init__" "Log.__init__" 622 178 2 340 627),(346,⟨.type "function",none,.func (Py 56 0 "__init__" "Log.__init__" 3 dQ (.ref 345) 339),#[]⟩)]++KN.flatMap hMR.k++J6.flatMap hMR.k++[(459,⟨.type "dict",none,.dict ([hEn P "__module__" 617 dQ,hEn P "__firstlineno__" 621 (.int 176 620),hqR P "__init__" 629 346]++(zh.map (hMR.e P)++[hqR P "__static_attributes__" 763 458,hqR P "__dict__" 765 461,hqR P "__weakref__" 767 462,hEn P "__doc__" 768 (.none),hEn P "__hash__" 769 (.none)])).toArray 5,#[]⟩),(460,⟨.type "type",none,.cls { name:= "Log",bases:=[.type "object"],mro:=[.ref 460,.type "object"],ns:=459,qualname:= "Log",hasDict:=true,slotNames:=[],subclasses:=[],abstract:=false,collection:=none,hasDel:=false },#[none,none,some (.str "Log" 610),some (.str "Log" 618),some (.builtin "object.__new__"),some (.bool true)]⟩)]++Jt.flatMap hDR.k)
def hLo:Qqv:=[("gathered" : Str),("Log" : Str)]
def hH:W.Hook:=W.kmHook hK ([4,3]++JZ.flatMap hDR.ad++Ik.flatMap hDR.ad++[142]++KY.flatMap hDR.ad++Lu.flatMap hDR.ad++[217]++Kt.flatMap hDR.ad++[259,263,264]++Lf.flatMap hDR.ad++Lr.flatMap hDR.ad++PM.flatMap hMR.ad++[326,327,339,345,346]++KN.flatMap hMR.ad++J6.flatMap hMR.ad++[459,460]++Jt.flatMap hDR.ad) (λ_=>by kernel_rfl) [243]
def hX (s:Vzx):Bool:=W.xlAt hV [] s && W.recOk (W.RowW.records (W.OpenRow.toRowW (W.OpenLaw.row ZZ))) s
noncomputable def mS0 (P:Params):List Obj:=[W.boot_o_0 P,W.boot_o_1 P,W.boot_o_2 P]
noncomputable def mS4 (P:Params):List Obj:=[W.boot_o_4 P,W.boot_o_5 P,W.boot_o_6 P,W.boot_o_7 P,W.boot_o_8 P,W.boot_o_9 P,W.boot_o_10 P,hqU []]
noncomputable def IW (P:Params):List Obj:=([hqB "<module>" 182 1 11,⟨.type "frame",none,.plain,#[some (.ref 13),some (.ref 3),some (.ref 3),none,some (.str "__main__" 164),none,some (.ref 0)]⟩]++JZ.flatMap hDR.o++[hqU [.type "ValueError"],⟨.type "builtin_function_or_method",none,.fields #[.builtin "type.__prepare__",.type "type"],#[]⟩,⟨.type "dict",none,.dict #[hEn P "__module__" 203 iL,hEn P "__qualname__" 205 (.str "GatherError" 204),hEn P "__firstlineno__" 207 (.int 5 206),hqR P "__static_attributes__" 208 29] 4,#[]⟩,hqU [],hqN,hqB "GatherError" 198 5 25,hqW 27 24 iL,hqU [],⟨.type "dict",none,.dict #[hEn P "__module__" 203 iL,hEn P "__firstlineno__" 207 (.int 5 206),hqR P "__static_attributes__" 208 29,hqR P "__weakref__" 210 32,hEn P "__doc__" 211 (.none)] 3,#[]⟩])
noncomputable def Iw (P:Params):List Obj:=([⟨.type "getset_descriptor",none,.fields #[.str "__weakref__" 209,.ref 31,.builtin "ExceptionGroup.__weakref__",.none],#[]⟩,hqS 31,hqI "object.__init_subclass__" 31,hqU [.ref 31],⟨.type "builtin_function_or_method",none,.fields #[.builtin "type.__prepare__",.type "type"],#[]⟩,⟨.type "dict",none,.dict #[hEn P "__module__" 221 iL,hEn P "__qualname__" 223 (.str "NoJoin" 222),hEn P "__firstlineno__" 225 (.int 7 224),hqR P "__static_attributes__" 226 42] 4,#[]⟩,hqU [],hqN,hqB "NoJoin" 216 7 38,hqW 40 37 iL,hqU [],⟨.type "dict",none,.dict #[hEn P "__module__" 221 iL,hEn P "__firstlineno__" 225 (.int 7 224),hqR P "__static_attributes__" 226 42,hEn P "__doc__" 227 (.none)] 2,#[]⟩,hqE "NoJoin" 31 44 43 35 214 222,hqS 44,hqI "object.__init_subclass__" 44,hqU [.ref 31],⟨.type "builtin_function_or_method",none,.fields #[.builtin "type.__prepare__",.type "type"],#[]⟩,⟨.type "dict",none,.dict #[hEn P "__module__" 237 iL,hEn P "__qualname__" 239 (.str "NoLine" 238),hEn P "__firstlineno__" 241 (.int 9 240),hqR P "__static_attributes__" 242 54] 4,#[]⟩,hqU [],hqN,hqB "NoLine" 232 9 50,hqW 52 49 iL,hqU [],⟨.type "dict",none,.dict #[hEn P "__module__" 237 iL,hEn P "__firstlineno__" 241 (.int 9 240),hqR P "__static_attributes__" 242 54,hEn P "__doc__" 243 (.none)] 2,#[]⟩,hqE "NoLine" 31 56 55 47 230 238,hqS 56,hqI "object.__init_subclass__" 56,hqU [.ref 31],⟨.type "builtin_function_or_method",none,.fields #[.builtin "type.__prepare__",.type "type"],#[]⟩,⟨.type "dict",none,.dict ([hEn P "__module__" 253 iL,hEn P "__qualname__" 255 (.str "NoMoment" 254),hEn P "__firstlineno__" 257 (.int 11 256)]++(Nu.map (hMR.e P)++[hqR P "__static_attributes__" 267 73])).toArray 5,#[]⟩,hqU [],⟨.none,none,.fields (Nu.flatMap hMR.p).toArray,#[]⟩,hqB "NoMoment" 248 11 62,hqW 64 61 iL]++Nu.flatMap hMR.o++[hqU [.str "last" 266],⟨.type "dict",none,.dict ([hEn P "__module__" 253 iL,hEn P "__firstlineno__" 257 (.int 11 256)]++(Nu.map (hMR.e P)++[hqR P "__static_attributes__" 267 73,hEn P "__doc__" 268 (.none)])).toArray 2,#[]⟩,hqE "NoMoment" 31 75 74 59 246 254,hqS 75,hqI "object.__init_subclass__" 75])
noncomputable def NQ (P:Params):List Obj:=([hqU [.ref 31],⟨.type "builtin_function_or_method",none,.fields #[.builtin "type.__prepare__",.type "type"],#[]⟩,⟨.type "dict",none,.dict #[hEn P "__module__" 278 iL,hEn P "__qualname__" 280 (.str "NoPattern" 279),hEn P "__firstlineno__" 282 (.int 16 281),hqR P "__static_attributes__" 283 85] 4,#[]⟩,hqU [],hqN,hqB "NoPattern" 273 16 81,hqW 83 80 iL,hqU [],⟨.type "dict",none,.dict #[hEn P "__module__" 278 iL,hEn P "__firstlineno__" 282 (.int 16 281),hqR P "__static_attributes__" 283 85,hEn P "__doc__" 284 (.none)] 2,#[]⟩,hqE "NoPattern" 31 87 86 78 271 279,hqS 87,hqI "object.__init_subclass__" 87,hqU [.ref 31],⟨.type "builtin_function_or_method",none,.fields #[.builtin "type.__prepare__",.type "type"],#[]⟩,⟨.type "dict",none,.dict #[hEn P "__module__" 294 iL,hEn P "__qualname__" 296 (.str "TooMany" 295),hEn P "__firstlineno__" 298 (.int 18 297),hqR P "__static_attributes__" 299 97] 4,#[]⟩,hqU [],hqN,hqB "TooMany" 289 18 93,hqW 95 92 iL,hqU [],⟨.type "dict",none,.dict #[hEn P "__module__" 294 iL,hEn P "__firstlineno__" 298 (.int 18 297),hqR P "__static_attributes__" 299 97,hEn P "__doc__" 300 (.none)] 2,#[]⟩,hqE "TooMany" 31 99 98 90 287 295,hqS 99,hqI "object.__init_subclass__" 99]++Ik.flatMap hDR.o++[hqU [.str "number" 359,.str "name" 360,.str "any" 361]]++KY.flatMap hDR.o)
noncomputable def J9 (P:Params):List Obj:=(Lu.flatMap hDR.o++[hqU [.int 3 452,.int 2 453]]++Kt.flatMap hDR.o++[hqU [.ref 217],hqU [],hqN,hFz 43 "gathered",hqD "gathered" 509 131 2 260,hFd 43 "gathered" yr 263 259]++Lf.flatMap hDR.o++Lr.flatMap hDR.o)
noncomputable def Oh (P:Params):List Obj:=([hqU [],⟨.type "builtin_function_or_method",none,.fields #[.builtin "type.__prepare__",.type "type"],#[]⟩,⟨.type "dict",none,.dict ([hEn P "__module__" 579 dQ,hEn P "__qualname__" 581 (.str "State" 580),hEn P "__firstlineno__" 583 (.int 164 582)]++(z5.map (hMR.e P)++[hqR P "__static_attributes__" 602 325])).toArray 6,#[]⟩,hqU [],⟨.none,none,.fields (z5.flatMap hMR.p).toArray,#[]⟩,hqB "State" 574 164 309,hqW 311 308 dQ]++z5.flatMap hMR.o++[hqU [.str "by_hand" 598,.str "falls" 599,.str "found" 600,.str "rows" 601],⟨.type "dict",none,.dict ([hEn P "__module__" 579 dQ,hEn P "__firstlineno__" 583 (.int 164 582)]++(z5.map (hMR.e P)++[hqR P "__static_attributes__" 602 325,hqR P "__dict__" 604 328,hqR P "__weakref__" 606 329,hEn P "__doc__" 607 (.none)])).toArray 4,#[]⟩,⟨.type "type",none,.cls { name:= "State",bases:=[.type "object"],mro:=[.ref 327,.type "object"],ns:=326,qualname:= "State",hasDict:=true,slotNames:=[],subclasses:=[],abstract:=false,collection:=none,hasDel:=false },#[none,none,some (.str "State" 572),some (.str "State" 580),some (.builtin "object.__new__"),some (.bool true)]⟩,⟨.type "getset_descriptor",none,.fields #[.str "__dict__" 603,.ref 327,.builtin "function.__dict__",.builtin "function.__dict__#set"],#[]⟩,⟨.type "getset_descriptor",none,.fields #[.str "__weakref__" 605,.ref 327,.builtin "ExceptionGroup.__weakref__",.none],#[]⟩,hqS 327,hqI "object.__init_subclass__" 327])
noncomputable def Sf (P:Params):List Obj:=([hqU [],⟨.type "builtin_function_or_method",none,.fields #[.builtin "type.__prepare__",.type "type"],#[]⟩,⟨.type "dict",none,.dict ([hEn P "__module__" 617 dQ,hEn P "__qualname__" 619 (.str "Log" 618),hEn P "__firstlineno__" 621 (.int 176 620),hqR P "__init__" 629 346]++(zh.map (hMR.e P)++[hqR P "__static_attributes__" 763 458])).toArray 22,#[]⟩,hqU [],⟨.none,none,.fields (([.int 178 0,.int 4 0,.ref 345]:Qqz)++zh.flatMap hMR.p).toArray,#[]⟩,hqB "Log" 612 176 335,hqW 337 334 dQ,hqU [.ref 217],hqU [],hqN,hqU [.str "self" 625,.str "sieve" 626],hqU [],hqG 56 0 "__init__" "Log.__init__",hqM "__init__" "Log.__init__" 622 178 2 340 627,⟨.type "function",none,.func (Py 56 0 "__init__" "Log.__init__" 3 dQ (.ref 345) 339),#[]⟩]++zh.flatMap hMR.o++[hqU [.str "ahead" 758,.str "past" 759,.str "sieve" 760,.str "state" 761,.str "taken_back" 762],⟨.type "dict",none,.dict ([hEn P "__module__" 617 dQ,hEn P "__firstlineno__" 621 (.int 176 620),hqR P "__init__" 629 346]++(zh.map (hMR.e P)++[hqR P "__static_attributes__" 763 458,hqR P "__dict__" 765 461,hqR P "__weakref__" 767 462,hEn P "__doc__" 768 (.none),hEn P "__hash__" 769 (.none)])).toArray 5,#[]⟩,⟨.type "type",none,.cls { name:= "Log",bases:=[.type "object"],mro:=[.ref 460,.type "object"],ns:=459,qualname:= "Log",hasDict:=true,slotNames:=[],subclasses:=[],abstract:=false,collection:=none,hasDel:=false },#[none,none,some (.str "Log" 610),some (.str "Log" 618),some (.builtin "object.__new__"),some (.bool true)]⟩,⟨.type "getset_descriptor",none,.fields #[.str "__dict__" 764,.ref 460,.builtin "function.__dict__",.builtin "function.__dict__#set"],#[]⟩,⟨.type "getset_descriptor",none,.fields #[.str "__weakref__" 766,.ref 460,.builtin "ExceptionGroup.__weakref__",.none],#[]⟩,hqS 460,hqI "object.__init_subclass__" 460])
noncomputable def mH0 (P:Params):Heap:=⟨(mS0 P++(([⟨.type "dict",none,.dict (hEn P "__name__" 165 iL::Ul P).toArray 14,#[]⟩]:List Obj)++(mS4 P++(([⟨.none,none,.fields RY.toArray,#[]⟩]:List Obj)++(IW P++(([⟨.type "type",none,.cls { name:= "GatherError",bases:=[.type "ValueError"],mro:=[.ref 31,.type "ValueError",.type "Exception",.type "BaseException",.type "object"],ns:=30,qualname:= "GatherError",hasDict:=true,slotNames:=[],subclasses:=[.ref 44,.ref 56,.ref 75],abstract:=false,collection:=none,hasDel:=false },#[some (.ref 22),none,some (.str "GatherError" 196),some (.str "GatherError" 204),some (.builtin "ValueError.__new__"),some (.bool true)]⟩]:List Obj)++(Iw P))))))).toArray,(ZX P).life⟩
noncomputable def mH1 (P:Params):Heap:=⟨(mS0 P++(([⟨.type "dict",none,.dict (hEn P "__name__" 165 o4::RL P).toArray 36,#[]⟩]:List Obj)++(mS4 P++(([⟨.none,none,.fields UC.toArray,#[]⟩]:List Obj)++(IW P++(([⟨.type "type",none,.cls { name:= "GatherError",bases:=[.type "ValueError"],mro:=[.ref 31,.type "ValueError",.type "Exception",.type "BaseException",.type "object"],ns:=30,qualname:= "GatherError",hasDict:=true,slotNames:=[],subclasses:=[.ref 44,.ref 56,.ref 75,.ref 87,.ref 99],abstract:=false,collection:=none,hasDel:=false },#[some (.ref 22),none,some (.str "GatherError" 196),some (.str "GatherError" 204),some (.builtin "ValueError.__new__"),some (.bool true)]⟩]:List Obj)++(Iw P++(NQ P)))))))).toArray,(ZX P).life⟩
noncomputable def mH2 (P:Params):Heap:=⟨(mS0 P++(([⟨.type "dict",none,.dict (hEn P "__name__" 165 dQ::SK P).toArray 58,#[]⟩]:List Obj)++(mS4 P++(([⟨.none,none,.fields Ti.toArray,#[]⟩]:List Obj)++(IW P++(([⟨.type "type",none,.cls { name:= "GatherError",bases:=[.type "ValueError"],mro:=[.ref 31,.type "ValueError",.type "Exception",.type "BaseException",.type "object"],ns:=30,qualname:= "GatherError",hasDict:=true,slotNames:=[],subclasses:=[.ref 44,.ref 56,.ref 75,.ref 87,.ref 99],abstract:=false,collection:=none,hasDel:=false },#[some (.ref 22),none,some (.str "GatherError" 196),some (.str "GatherError" 204),some (.builtin "ValueError.__new__"),some (.bool true)]⟩]:List Obj)++(Iw P++(NQ P++(J9 P))))))))).toArray,(ZX P).life⟩
noncomputable def mH3 (P:Params):Heap:=⟨(mS0 P++(([⟨.type "dict",none,.dict (hEn P "__name__" 165 dQ::Ux P).toArray 59,#[]⟩]:List Obj)++(mS4 P++(([⟨.none,none,.fields R1.toArray,#[]⟩]:List Obj)++(IW P++(([⟨.type "type",none,.cls { name:= "GatherError",bases:=[.type "ValueError"],mro:=[.ref 31,.type "ValueError",.type "Exception",.type "BaseException",.type "object"],ns:=30,qualname:= "GatherError",hasDict:=true,slotNames:=[],subclasses:=[.ref 44,.ref 56,.ref 75,.ref 87,.ref 99],abstract:=false,collection:=none,hasDel:=false },#[some (.ref 22),none,some (.str "GatherError" 196),some (.str "GatherError" 204),some (.builtin "ValueError.__new__"),some (.bool true)]⟩]:List Obj)++(Iw P++(NQ P++(J9 P++(Oh P)))))))))).toArray,(ZX P).life⟩
noncomputable def mH4 (P:Params):Heap:=⟨(mS0 P++(([⟨.type "dict",none,.dict (hEn P "__name__" 165 dQ::Tz P).toArray 60,#[]⟩]:List Obj)++(mS4 P++(([⟨.none,none,.fields Wp.toArray,#[]⟩]:List Obj)++(IW P++(([⟨.type "type",none,.cls { name:= "GatherError",bases:=[.type "ValueError"],mro:=[.ref 31,.type "ValueError",.type "Exception",.type "BaseException",.type "object"],ns:=30,qualname:= "GatherError",hasDict:=true,slotNames:=[],subclasses:=[.ref 44,.ref 56,.ref 75,.ref 87,.ref 99],abstract:=false,collection:=none,hasDel:=false },#[some (.ref 22),none,some (.str "GatherError" 196),some (.str "GatherError" 204),some (.builtin "ValueError.__new__"),some (.bool true)]⟩]:List Obj)++(Iw P++(NQ P++(J9 P++(Oh P++(Sf P))))))))))).toArray,(ZX P).life⟩
def mB:List Stmt:=W.behindTheImports YP
def oR:Env:={ scope:=YP.main.scope,locals:=mainNs,globals:=mainNs,cells:=[],code:=.ref 13,frame:=some 14 }
def mC:Code:=.body mB oR
theorem mSz (w:Yay):((ZX w.params).isNs mainGlobals,(ZX w.params).objs.size,(ZX w.params).nsMap mainGlobals "__annotations__")=(true,11,some (.ref 6)):=by kernel_rfl
theorem mR0 (w:Yay) (a:OsState):(W.topGo treeTable YP w 11 (some (.ref 6)) 12 ⟨ZX w.params,Array.mk [],W.boot_drawn,W.boot_toks,a⟩ (W.topStub YP)).bind (λx=>(Yam treeTable YP w 11 (some (.ref 6)) 1 1 x.1 (W.blockOf mB oR mC ⟨0,0,0,0⟩ [Ya3 ⟨0,0,0,0⟩])).bind λy=>(Yam treeTable YP w 11 (some (.ref 6)) 1 896 y.2.1 (Yan (mB.take 6) oR mC y.2.2.2 [Ya3 ⟨0,0,0,0⟩])).map λz=>(x.2,y.1,y.2.2.1,z))=some (⟨denote treeTable mC,mC,⟨0,0,0,0⟩,[Ya3 ⟨0,0,0,0⟩]⟩,.next,mC,(.next,⟨mH0 w.params,Array.mk [],⟨0,0,0,0⟩,271,a⟩,mC,⟨11,0,15,24⟩)):=by kernel_rfl
theorem mR1 (w:Yay) (a:OsState):Yam treeTable YP w 11 (some (.ref 6)) 1 907 ⟨mH0 w.params,Array.mk [],⟨0,0,0,0⟩,271,a⟩ (Yan ((mB.drop 6).take 24) oR mC ⟨11,0,15,24⟩ [Ya3 ⟨0,0,0,0⟩])=some (.next,⟨mH1 w.params,Array.mk [],⟨0,0,0,0⟩,423,a⟩,mC,⟨79,0,85,26⟩):=by kernel_rfl
theorem mR2 (w:Yay) (a:OsState):Yam treeTable YP w 11 (some (.ref 6)) 1 591 ⟨mH1 w.params,Array.mk [],⟨0,0,0,0⟩,423,a⟩ (Yan ((mB.drop 30).take 25) oR mC ⟨79,0,85,26⟩ [Ya3 ⟨0,0,0,0⟩])=some (.next,⟨mH2 w.params,Array.mk [],⟨0,0,0,0⟩,572,a⟩,mC,⟨161,0,163,94⟩):=by kernel_rfl
theorem mR3 (w:Yay) (a:OsState):Yam treeTable YP w 11 (some (.ref 6)) 1 254 ⟨mH2 w.params,Array.mk [],⟨0,0,0,0⟩,572,a⟩ (Yan ((mB.drop 55).take 1) oR mC ⟨161,0,163,94⟩ [Ya3 ⟨0,0,0,0⟩])=some (.next,⟨mH3 w.params,Array.mk [],⟨0,0,0,0⟩,610,a⟩,mC,⟨164,0,175,16⟩):=by kernel_rfl
theorem mR4 (w:Yay) (a:OsState):Yam treeTable YP w 11 (some (.ref 6)) 1 766 ⟨mH3 w.params,Array.mk [],⟨0,0,0,0⟩,610,a⟩ (Yan ((mB.drop 56).take 1) oR mC ⟨164,0,175,16⟩ [Ya3 ⟨0,0,0,0⟩])=some (.next,⟨mH4 w.params,Array.mk [],⟨0,0,0,0⟩,772,a⟩,mC,⟨176,0,261,85⟩):=by kernel_rfl
theorem mZ (w:Yay) (a:OsState):(Yam treeTable YP w 11 (some (.ref 6)) 1 317 ⟨mH4 w.params,Array.mk [],⟨0,0,0,0⟩,772,a⟩ (Yan (mB.drop 57) oR mC ⟨176,0,261,85⟩ [Ya3 ⟨0,0,0,0⟩])).bind (λz=>(W.topRun treeTable YP w 11 (some (.ref 6)) 2 z.2.1 ⟨W.doneF .next,mC,z.2.2.2,[Ya3 ⟨0,0,0,0⟩]⟩).map λr=>(z.1,z.2.2.1,(W.staticsOk (importedModules YP.main.body) (ZX w.params) r.heap && W.namesBound YP r.heap && W.gensDone r && W.laidKept (ZX w.params) r.heap),W.openSeen hV hLo (importedModules YP.main.body) hX true r,hH.obs r))=some (.next,mC,true,W.openGood hV hLo,hH.val w):=by kernel_rfl
theorem mT4 (w:Yay) (a:OsState):L2.pQ YP hV hLo hX hH.obs hH.val ZX 11 (some (.ref 6)) oR mC ⟨0,0,0,0⟩ (766+(317+2)) (mB.drop 56) ⟨164,0,175,16⟩ w ⟨mH3 w.params,Array.mk [],⟨0,0,0,0⟩,610,a⟩:=L2.nU (mR4 w a) (L2.yc mB 56 1) (L2.HP (mZ w a))
theorem mT3 (w:Yay) (a:OsState):L2.pQ YP hV hLo hX hH.obs hH.val ZX 11 (some (.ref 6)) oR mC ⟨0,0,0,0⟩ (254+(766+(317+2))) (mB.drop 55) ⟨161,0,163,94⟩ w ⟨mH2 w.params,Array.mk [],⟨0,0,0,0⟩,572,a⟩:=L2.nU (mR3 w a) (L2.yc mB 55 1) (mT4 w a)
theorem mT2 (w:Yay) (a:OsState):L2.pQ YP hV hLo hX hH.obs hH.val ZX 11 (some (.ref 6)) oR mC ⟨0,0,0,0⟩ (591+(254+(766+(317+2)))) (mB.drop 30) ⟨79,0,85,26⟩ w ⟨mH1 w.params,Array.mk [],⟨0,0,0,0⟩,423,a⟩:=L2.nU (mR2 w a) (L2.yc mB 30 25) (mT3 w a)
theorem mT1 (w:Yay) (a:OsState):L2.pQ YP hV hLo hX hH.obs hH.val ZX 11 (some (.ref 6)) oR mC ⟨0,0,0,0⟩ (907+(591+(254+(766+(317+2))))) (mB.drop 6) ⟨11,0,15,24⟩ w ⟨mH0 w.params,Array.mk [],⟨0,0,0,0⟩,271,a⟩:=L2.nU (mR1 w a) (L2.yc mB 6 24) (mT2 w a)
theorem hL:W.LeftO YP hV hLo hX hH.obs hH.val 7576:=L2.Lg (c:=mC) (env:=oR) (b:=mB) (n2:=907+(591+(254+(766+(317+2))))) rfl (List.take_append_drop 6 mB) (W.boot_open (by kernel_rfl) (by decide) (λs=>by kernel_rfl)) mSz mR0 (λw a=>mT1 w a) (by decide)
end K22
namespace L2
open PySem PySem.Spec PyProof.Rows
abbrev Key:=Sum Int Str
def rL:Key->Vzy->Bool
 | .inl k,v=>Value.isInt k v
 | .inr x,v=>Value.isStrOf x v
def V1 (w:Yay):Key->Int
 | .inl k=>hashInt k
 | .inr x=>hashStr w x
theorem cw:∀{k:Key}{v:Vzy},rL k v=true->(∃i t,k=Sum.inl i/\v=Value.int i t)\/(∃x t,k=Sum.inr x/\v=Value.str x t)
 | .inl i,v,h=>by
  obtain⟨t,e⟩:=Value.isInt_shape (k:=i) (v:=v) h;exact .inl ⟨i,t,rfl,e⟩
 | .inr x,v,h=>by
  obtain⟨t,e⟩:=Value.isStrOf_shape (x:=x) (v:=v) h;exact .inr ⟨x,t,rfl,e⟩
theorem Fq (i:Int) (t:Tok):rL (.inl i) (.int i t)=true:=by simp[rL,Value.isInt]
theorem G4 (x:Str) (t:Tok):rL (.inr x) (.str x t)=true:=by simp[rL,Value.isStrOf]
theorem O6 (a b:Int):decide ((Sum.inl a:Key)=Sum.inl b)=(a == b):=by
 by_cases e:a=b
 ·subst e;simp
 ·have h:¬ (Sum.inl a:Key)=Sum.inl b:=λq=>e (Sum.inl.inj q);rw[Yb5 h];exact(beq_eq_false_iff_ne.mpr e).symm
theorem OT (a b:Str):decide ((Sum.inr a:Key)=Sum.inr b)=decide (a=b):=by
 by_cases e:a=b
 ·subst e;simp
 ·have h:¬ (Sum.inr a:Key)=Sum.inr b:=λq=>e (Sum.inr.inj q);rw[Yb5 h,Yb5 e]
theorem Qm (a:Int) (b:Str):decide ((Sum.inl a:Key)=Sum.inr b)=false:=Yb5 (λq=>nomatch q)
theorem QT (a:Str) (b:Int):decide ((Sum.inr a:Key)=Sum.inl b)=false:=Yb5 (λq=>nomatch q)
def aQ (prog:Yax) (w:Yay):PySem.KeyKind prog w Key where
 is:=rL
 hash:=V1 w
 inj:=λv a b ha hb=>by
  rcases cw ha with⟨i,t,rfl,rfl⟩ | ⟨x,t,rfl,rfl⟩
  ·rcases cw hb with⟨j,u,rfl,e⟩ | ⟨y,u,rfl,e⟩
   ·injection e with e1 _;rw[e1]
   ·exact nomatch e
  ·rcases cw hb with⟨j,u,rfl,e⟩ | ⟨y,u,rfl,e⟩
   ·exact nomatch e
   ·injection e with e1 _;rw[e1]
 byValue:=λk v h=>by
  rcases cw h with⟨i,t,rfl,rfl⟩ | ⟨x,t,rfl,rfl⟩ <;> rfl
 pyHash:=λhv h=>by
  rcases cw hv with⟨i,t,rfl,rfl⟩ | ⟨x,t,rfl,rfl⟩
  ·exact wpAny_pyHash_int h
  ·exact wpAny_pyHash_str h
 eqBool:=λhu hv h=>by
  rcases cw hu with⟨i,t,rfl,rfl⟩ | ⟨x,t,rfl,rfl⟩
  ·rcases cw hv with⟨j,u,rfl,rfl⟩ | ⟨y,u,rfl,rfl⟩
   ·rw[O6]at h;exact wpAny_eqBool_int h
   ·rw[Qm]at h;exact SeqAt.EqAt.int_str i t y u _ _ _ _ h
  ·rcases cw hv with⟨j,u,rfl,rfl⟩ | ⟨y,u,rfl,rfl⟩
   ·rw[QT]at h;exact SeqAt.EqAt.str_int x t j u _ _ _ _ h
   ·rw[OT]at h;exact wpAny_eqBool_str h
 «strs»:=λk x t v h=>by
  rcases cw h with⟨i,u,rfl,e⟩ | ⟨y,u,rfl,e⟩
  ·exact nomatch e
  ·injection e with e1 _;subst e1;cases v <;> rfl
theorem AN (prog:Yax) (w:Yay) (i:Int) (t:Tok):(aQ prog w).is (.inl i) (.int i t)=true:=Fq i t
theorem ic (prog:Yax) (w:Yay) (x:Str) (t:Tok):(aQ prog w).is (.inr x) (.str x t)=true:=G4 x t
inductive V where
 | non | bl (b:Bool) | int (i:Int) | str (x:Str) | byt (b:Array UInt8) | flt (b:UInt64) | ref (a:Yau) | ty (n:String)
 deriving DecidableEq
abbrev Qqt:=List V
def RelV:V->Vzy->Prop
 | .non,u=>u=Value.none
 | .bl b,u=>u=Value.bool b
 | .int i,u=>∃t,u=Value.int i t
 | .str x,u=>∃t,u=Value.str x t
 | .byt b,u=>∃t,u=Value.bytes b t
 | .flt b,u=>∃t,u=Value.float b t
 | .ref a,u=>u=Value.ref a
 | .ty n,u=>u=Value.type n
abbrev aO:Qqt->Qqz->Prop:=Paired RelV
theorem aO.length {xs:Qqt} (r:aO xs us):xs.length=us.length:=Paired.length r
theorem aO.get:∀{xs:Qqt}{us:Qqz}{i:Nat}{x:V},aO xs us->xs[i]? = some x->∃u,us[i]? = some u/\RelV x u
 | _,_,_,_,.nil,e=>by simp at e
 | _,_,0,_,.cons r _,e=>by simp at e;subst e;exact⟨_,rfl,r⟩
 | _,_,i+1,x,.cons _ t,e=>by
  obtain⟨u,a,b⟩:=aO.get (i:=i) (x:=x) t (by simpa using e);exact⟨u,by simpa using a,b⟩
theorem aO.set {x:V}{u:Vzy} (r:RelV x u):∀{xs:Qqt}{us:Qqz} (i:Nat),aO xs us->aO (xs.set i x) (us.set i u)
 | _,_,_,.nil=>.nil
 | _,_,0,.cons _ t=>.cons r t
 | _,_,i+1,.cons q t=>.cons q (aO.set r i t)
theorem aO.append:∀{xs ys:Qqt}{us ws:Qqz},aO xs us->aO ys ws->aO (xs++ys) (us++ws)
 | _,_,_,_,.nil,s=>s
 | _,_,_,_,.cons r t,s=>.cons r (aO.append t s)
theorem aO.take:∀{xs:Qqt}{us:Qqz} (n:Nat),aO xs us->aO (xs.take n) (us.take n)
 | _,_,0,_=>.nil
 | _,_,_+1,.nil=>.nil
 | _,_,n+1,.cons r t=>.cons r (aO.take n t)
theorem aO.drop:∀{xs:Qqt}{us:Qqz} (n:Nat),aO xs us->aO (xs.drop n) (us.drop n)
 | _,_,0,r=>r
 | _,_,_+1,.nil=>.nil
 | _,_,n+1,.cons _ t=>aO.drop n t
theorem aO.none_of:∀{xs:Qqt}{us:Qqz}{i:Nat},aO xs us->xs[i]? = none->us[i]? = none:=λ{xs us i} r e=>by
 have h1:=r.length;have h2:=ZI.mp e;exact ZI.mpr (by lia)
def g6:Option V->Option Vzy->Prop
 | some v,some u=>RelV v u
 | none,none=>True
 | _,_=>False
def KV {κ:Type}:List (κ×V)->List (κ×Vzy)->Prop:=Paired λ(p:κ×V) (q:κ×Vzy)=>p.1=q.1/\RelV p.2 q.2
def kV:Key->V
 | .inl i=>.int i
 | .inr x=>.str x
inductive HO where
 | lst (xs:Qqt)
 | tup (xs:Qqt)
 | dK (kvs:List (Key×V)) | dT (kvs:List (List Key×V))
 | set (S:Int->Bool) (n:Nat)
 | ins (C dx:Yau) (fs:List (Str×V))
 | own (x:Yau)
 | xd (fs:List (Str×V))
 | met (f x:Yau)
 | rng (lo hi:Int)
 | frz (o:Obj) (u:HO)
 | tbl (ps:Qqw)
 | ext (φ:Heap->Prop)
abbrev Hp:=Yau->Option HO
end L2
variable {B B' H H' H0 H1 H2 H3 H5 Ha Hb W':L2.Hp}{xs ys:L2.Qqt}{v:L2.V}{fs':List (Str×L2.V)}
namespace L2
open PySem PySem.Spec PyProof.Rows
def upd (H:Hp) (a:Yau) (o:HO):Hp:=λb=>if b=a then some o else H b
theorem nw {f:α->β}{a b:α}{p q:β} (e:f a=p) (h:f b=q) (n:p≠q:=by nofun):a≠b:=λz=>by rw[z,h]at e;exact n e.symm
theorem nT (x:Str):[x].Nodup:=by simp
theorem aa {o:HO}:upd H a o a=some o:=by unfold upd;rw[Yb7 rfl]
theorem ao {o:HO} (h:b≠a):upd H a o b=H b:=by unfold upd;rw[Yb8 h]
theorem aw {o:HO} (h:H a=some o) (h':H b=none):a≠b:=by
 intro e;subst e;rw[h]at h';cases h'
section
variable (P:Yax) (w:Yay)
def bC (H:Hp) (h:Heap) (a:Yau):HO->Prop
 | .lst xs=>xs.length<=Yb0/\∃(its:Qqz) (n:Nat),aO xs its/\h.get? a=some { cls:=.type "list",data:=.seq its.toArray n }
 | .tup xs=>xs.length<=Yb0/\∃its:Qqz,aO xs its/\IsTup h a its.toArray
 | .dK kvs=>kvs.length<=Yb0/\(a == sysModules)=false/\∃vs,KV kvs vs/\h.DictOf (aQ P w) a vs
 | .dT kvs=>kvs.length<=Yb0/\(a == sysModules)=false/\∃xs:List (List Key×Yau×Vzy),
   Paired (λ(p:List Key×V) (q:List Key×Yau×Vzy)=>p.1=q.1/\H q.2.1=some (.tup (p.1.map kV))/\RelV p.2 q.2.2) kvs xs /\
   ∃o es ep,h.get? a=some o/\o.ExactDict/\o.data = .dict es ep/\es.toList=xs.map (entryOfKey (tupleKind (aQ P w)))/\(xs.map (·.1)).Nodup
 | .set S n=>h.SetOf (intKind P w) a S n
 | .ins C dx fs=>H dx=some (.own a)/\fs.length<=1000/\dx≠a/\h.get? a=some (Yaa C dx) /\
   ∃mA,h.Ns1 dx mA/\(∀f,g6 (fs.lookup f) (mA f))/\PySem.Within mA (fs.map (·.1))
 | .own _=>∃o,h.get? a=some o
 | .xd fs=>∃mA,h.Ns1 a mA/\∀f,g6 (fs.lookup f) (mA f)
 | .rng lo hi=>∃t u v,h.get? a=some { cls:=.type "range",data:=.fields #[.int lo t,.int hi u,.int 1 v] }
 | .frz o u=>h.get? a=some o/\bC H h a u
 | .tbl ps=>h.get? a=some { cls:=.none,data:=.fields ps }
 | .met f x=>h.get? a=some (W.methodObj (.ref f) (.ref x))
 | .ext φ=>φ h/\(∃o,h.get? a=some o)/\∀h1 h2:Heap,φ h1->(∀o,h1.get? a=some o->h2.get? a=some o)->φ h2
def HOk (H:Hp) (h:Heap):Prop:=∀a o,H a=some o->bC P w H h a o
end
section
variable {P:Yax}{o:HO}
theorem bC.lt (x:bC P w H h a o):a<h.objs.size:=by
 cases o with
 | lst d=>obtain⟨_,_,_,_,e⟩:=x;exact Z1 e
 | tup d=>obtain⟨_,_,_,p⟩:=x;exact p.lt
 | dK b=>obtain⟨_,_,_,_,o,_,_,e,_⟩:=x;exact Z1 e
 | dT b=>obtain⟨_,_,_,_,o,_,_,e,_⟩:=x;exact Z1 e
 | set S n=>obtain⟨o,_,_,_,e,_⟩:=x;exact Z1 e
 | ins C _ c=>obtain⟨_,_,_,e,_⟩:=x;exact Z1 e
 | own y=>obtain⟨_,e⟩:=x;exact Z1 e
 | xd c=>obtain⟨_,⟨_,_,_,e,_⟩,_⟩:=x;exact Z1 e
 | rng _ _=>obtain⟨_,_,_,e⟩:=x;exact Z1 e
 | frz _ u=>obtain⟨e,_⟩:=x;exact Z1 e
 | tbl _=>exact Z1 (show h.get? a=some _ from x)
 | met f y=>exact Z1 (show h.get? a=some _ from x)
 | ext _=>obtain⟨_,⟨_,e⟩,_⟩:=x;exact Z1 e
theorem Paired.Tt {α β:Type}{F G:α->β->Prop}:∀{l₁:List α}{l₂:List β},Paired F l₁ l₂->(∀a b,F a b->G a b)->Paired G l₁ l₂
 | _,_,.nil,_=>.nil
 | _,_,.cons r t,f=>.cons (f _ _ r) (Paired.Tt t f)
theorem bC.uI (x:bC P w H h a o) (k:∀b u,(b=a\/H b=some (.own a))->h.get? b=some u->h'.get? b=some u)
  (K:∀b,H b=some (.own a)->H' b=some (.own a)) (I:∀b xs,H b=some (.tup xs)->H' b=some (.tup xs)):bC P w H' h' a o:=by
 induction o with
 | lst xs=>obtain⟨z,l,n,r,e⟩:=x;exact⟨z,l,n,r,k _ _ (.inl rfl) e⟩
 | tup xs=>obtain⟨z,l,r,g,e,c⟩:=x;exact⟨z,l,r,g,k _ _ (.inl rfl) e,c⟩
 | dK s=>obtain⟨z,y,J,r,g,i,j,e,c⟩:=x;exact⟨z,y,J,r,g,i,j,k _ _ (.inl rfl) e,c⟩
 | dT s=>
  obtain⟨z,y,xs,r,g,i,j,e,c⟩:=x;exact⟨z,y,xs,Paired.Tt r λp q z=>⟨z.1,I _ _ z.2.1,z.2.2⟩,g,i,j,k _ _ (.inl rfl) e,c⟩
 | set S n=>obtain⟨g,i,j,t,e,c⟩:=x;exact⟨g,i,j,t,k _ _ (.inl rfl) e,c⟩
 | ins C _ D=>
  obtain⟨d,z,F,e,m,⟨A,i,j,G,c⟩,r⟩:=x;exact⟨K _ d,z,F,k _ _ (.inl rfl) e,m,⟨A,i,j,k _ _ (.inr d) G,c⟩,r⟩
 | own y=>obtain⟨g,e⟩:=x;exact⟨g,k _ _ (.inl rfl) e⟩
 | xd D=>obtain⟨m,⟨A,i,j,e,c⟩,r⟩:=x;exact⟨m,⟨A,i,j,k _ _ (.inl rfl) e,c⟩,r⟩
 | rng _ _=>obtain⟨t,u,v,e⟩:=x;exact⟨t,u,v,k _ _ (.inl rfl) e⟩
 | frz g u L=>obtain⟨e,q⟩:=x;exact⟨k _ _ (.inl rfl) e,L q⟩
 | tbl E=>
  have e:=x;show h'.get? a=some { cls:=.none,data:=.fields E };exact k a _ (.inl rfl) e
 | met f y=>
  have e:=x;show h'.get? a=some (W.methodObj (.ref f) (.ref y));exact k a _ (.inl rfl) e
 | ext _=>obtain⟨p,⟨o,e⟩,B⟩:=x;exact⟨B _ _ p λo q=>k _ _ (.inl rfl) q,⟨o,k _ _ (.inl rfl) e⟩,B⟩
theorem HOk.lt (x:HOk P w H h) (e:H a=some o):a<h.objs.size:=(x a o e).lt
theorem HOk.fresh (x:HOk P w H h) (e:h.objs.size<=a):H a=none:=by
 cases q:H a with
 | none=>rfl
 | some u=>exact absurd (X9 (x.lt q) e) (Zj _)
theorem HOk.kept (x:HOk P w H h) (k:∀b u,h.get? b=some u->h'.get? b=some u):HOk P w H h':=λa o e=>
 (x a o e).uI (λb u _ q=>k b u q) (λ_ q=>q) λ_ _ q=>q
theorem HOk.laid (x:HOk P w H h) (k:∀b u,h.get? b=some u->h'.get? b=some u) (i:h.objs.size<=a) (d:bC P w (upd H a o) h' a o):HOk P w (upd H a o) h':=λb u e=>by
 have f:=x.fresh i;by_cases g:b=a
 ·subst g;rw[aa]at e;cases e;exact d
 ·rw[ao g]at e;exact(x b u e).uI (λc v _ q=>k c v q) (λc q=>by rw[ao (aw q f)];exact q) λc _ q=>by rw[ao (aw q f)];exact q
end
def Rd (H:Hp) (a:Yau) (u:HO):Prop:=H a=some u\/∃o,H a=some (.frz o u)
theorem Rd.of {u:HO} (h:H a=some u):Rd H a u:=.inl h
theorem Rd.ok {P:Yax}{u:HO} (r:Rd H a u) (x:HOk P w H h):bC P w H h a u:=by
 rcases r with r | ⟨o,r⟩
 ·exact x a u r
 ·obtain⟨_,q⟩:=x a _ r;exact q
def Mut:Option HO->Prop
 | some (.lst _)=>True
 | some (.dK _)=>True
 | some (.dT _)=>True
 | some (.set _ _)=>True
 | some (.ins _ _ _)=>True
 | some (.ext _)=>True
 | _=>False
section
variable {P:Yax}{x e:Yau}{o':HO}
theorem HOk.write (s:HOk P w H h) (mu:Mut (H x)) (l:e=x\/H e=some (.own x)) (k:∀b u,b≠e->h.get? b=some u->h'.get? b=some u) (j:∃u,h'.get? e=some u)
  (i:bC P w (upd H x o') h' x o'):HOk P w (upd H x o') h':=λb u q=>by
 have m:∀c y,H c=some (.own y)->c≠x:=λc y r z=>by subst z;rw[r]at mu;exact mu
 have o:∀c f,H c=some (.tup f)->c≠x:=λc f r z=>by subst z;rw[r]at mu;exact mu
 by_cases g:b=x
 ·subst g;rw[aa]at q;cases q;exact i
 ·rw[ao g]at q;by_cases a:b=e
  ·have n:H b=some (.own x):=by
    rcases l with z | z
    ·exact absurd (a.trans z) g
    ·rw[a];exact z
   rw[q]at n;cases n;obtain⟨v,p⟩:=j;exact⟨v,by rw[a];exact p⟩
  ·refine(s b u q).uI (λc v d r=>k c v ?_ r) (λc r=>by rw[ao (m c b r)];exact r) λc f r=>by rw[ao (o c f r)];exact r
   rcases d with rfl | d
   ·exact a
   ·rintro rfl;rcases l with z | z
    ·exact m c b d z
    ·rw[d]at z;cases z;exact g rfl
end
structure Un (fs ex:Qqx) (H H':Hp) (h h':Heap):Prop where
 keep:∀b o,h.get? b=some o->H b=none->b∉fs->b∉ex->h'.get? b=some o
 slot:∀b o,h.get? b=some o->H b=none->b∈fs->b∉ex->∃sl,h'.get? b=some { o with slots:=sl }
 free:∀b o,h.get? b=some o->H b=none->b∉ex->H' b=none
 there:∀b o,h.get? b=some o->b∉ex->∃o',h'.get? b=some o'
 rE:∀b xs,H b=some (.tup xs)->H' b=some (.tup xs)
 qy:∀b o u,H b=some (.frz o u)->H' b=some (.frz o u)
 qB:∀b ps,H b=some (.tbl ps)->∃more,H' b=some (.tbl (ps++more))
section
variable {fs fs' ex ex':Qqx}{x e:Yau}{o:HO}
theorem Un.any (u:Un fs ex H H1 h h1) {a:Obj} (q:h.get? b=some a) (n:H b=none) (hx:b∉ex):∃sl,h1.get? b=some { a with slots:=sl }:=by
 by_cases c:b∈fs
 ·exact u.slot b a q n c hx
 ·exact⟨a.slots,u.keep b a q n c hx⟩
theorem Un.trans (a:Un fs ex H H1 h h1) (b:Un fs ex H1 H2 h1 h2):Un fs ex H H2 h h2 where
 keep:=λc d q n i e=>b.keep c d (a.keep c d q n i e) (a.free c d q n e) i e
 slot:=λc d q n i e=>by
  obtain⟨_,f⟩:=a.slot c d q n i e;obtain⟨k,l⟩:=b.slot c _ f (a.free c d q n e) i e;exact⟨k,l⟩
 free:=λc d q n e=>by
  obtain⟨j,f⟩:=a.there c d q e;exact b.free c j f (a.free c d q n e) e
 there:=λc d q e=>by
  obtain⟨j,f⟩:=a.there c d q e;exact b.there c j f e
 rE:=λc g q=>b.rE c g (a.rE c g q)
 qy:=λc d g q=>b.qy c d g (a.qy c d g q)
 qB:=λc m q=>by
  obtain⟨p,f⟩:=a.qB c m q;obtain⟨o,l⟩:=b.qB c _ f;exact⟨p++o,by rw[l,Array.append_assoc]⟩
theorem Un.kept (k:∀b u,h.get? b=some u->h'.get? b=some u):Un fs ex H H h h':=
 ⟨λb a q _ _ _=>k b a q,λb a q _ _ _=>⟨a.slots,k b a q⟩,λ_ _ _ n _=>n,λb a q _=>⟨a,k b a q⟩,λ_ _ q=>q,λ_ _ _ q=>q,λ_ _ q=>⟨#[],by rw[q];simp⟩⟩
theorem Un.refl:Un fs ex H H h h:=Un.kept λ_ _ q=>q
theorem Un.laid (k:∀b u,h.get? b=some u->h'.get? b=some u) (d:h.objs.size<=a) (c:H a=none):Un fs ex H (upd H a o) h h' where
 keep:=λb u q _ _ _=>k b u q
 slot:=λb u q _ _ _=>⟨u.slots,k b u q⟩
 free:=λb u q n _=>by rw[ao (X3 (X9 (Z1 q) d))];exact n
 there:=λb u q _=>⟨u,k b u q⟩
 rE:=λb e q=>by rw[ao (aw q c)];exact q
 qy:=λb u e q=>by rw[ao (aw q c)];exact q
 qB:=λb _ q=>⟨#[],by rw[ao (aw q c),q];simp⟩
theorem Un.write (mu:Mut (H x)) (j:e=x\/H e=some (.own x)) (k:∀b u,b≠e->h.get? b=some u->h'.get? b=some u) (c:∃u,h'.get? e=some u):Un fs ex H (upd H x o) h h':=by
 have g:∀b,H b=none->b≠x:=λb n z=>by subst z;rw[n]at mu;exact mu
 have f:∀b,H b=none->b≠e:=λb n z=>by
  subst z;rcases j with r | r
  ·exact g b n r
  ·rw[n]at r;cases r
 have d:∀b u,H b=some u -> ¬ Mut (some u)->b≠x:=λb u q i z=>by subst z;rw[q]at mu;exact i mu
 refine⟨λb u q n _ _=>k b u (f b n) q,λb u q n _ _=>⟨u.slots,k b u (f b n) q⟩,λb u q n _=>by rw[ao (g b n)];exact n,λb u q _=>?_,
  λb l q=>by rw[ao (d b _ q λz=>z)];exact q,λb u l q=>by rw[ao (d b _ q λz=>z)];exact q,λb _ q=>⟨#[],by rw[ao (d b _ q λz=>z),q];simp⟩⟩
 by_cases a:b=e
 ·subst a;exact c
 ·exact⟨u,k b u a q⟩
end
def trk (h:Heap) (H:Hp):Qqx:=(Z6 h.objs.size).filter λa=>(H a).isSome
def Fd (h:Heap) (H:Hp):Heap:=W.hideAll h (trk h H)
theorem FJ (h:Heap) (H:Hp):(Fd h H).objs.size=h.objs.size:=W.hideAll_size _ _
theorem Ba {o:Obj} (e:h.get? b=some o) (n:H b=none):(Fd h H).get? b=some o:=
 W.hideAll_get _ e λhm=>by
  have q:=(X7.mp hm).2;rw[n]at q;simp at q
theorem NM {o:Obj} (e:(Fd h H).get? b=some o):h.get? b=some o/\H b=none:=by
 have a:=W.of_hideAll (trk h H) e;refine⟨a,?_⟩;cases q:H b with
 | none=>rfl
 | some x=>
  have c:b∈trk h H:=X7.mpr ⟨Y0.mpr (Z1 a),by simp[q]⟩;have z:(Fd h H).get? b=none:=W.hideAll_none (trk h H) c;rw[z]at e;cases e
def Mf (g h:Heap) (L:Yau):List (Yau×Obj):=(Z6 h.objs.size).filterMap λa=>if a=L\/(g.get? a).isSome=true then none else(h.get? a).map λo=>(a,o)
def rest (g h:Heap) (L d:Yau):List (Yau×Obj):=(Mf g h L).filter λp=>decide (p.1≠d)
structure Mod (K:Vzz) (mg:Str->Option Vzy) (base:Heap):Prop where
 kin:K.In base
 glob:base.Ns mainGlobals mg
 blt:∃mb,base.Ns builtinsNs mb/\∀x:Str,x ≠ "__name__" -> mb x=bootBuiltins x
 nolimit:base.NoLimit
structure Cx where
 prog:Yax
 w:Yay
 K:Vzz
 mg:Str->Option Vzy
 base:Heap
 A:Yaw
 N:Qqv
 s₀:Vzx
 H₀:Hp
 env:Env
 outer:List Env
 stack:List Env
 ex:Qqx
 fn:Str->Bool
 calm:Bool
 pn:List (Yau×Obj)
 xe:Vzy->Vzx->Prop
end L2
variable {X:L2.Cx}
namespace L2
open PySem PySem.Spec PyProof.Rows
def frs (l:List Env):Qqx:=l.filterMap (·.frame)
abbrev Cx.fs (X:Cx):Qqx:=frs X.outer
def Vis (sc:Scope) (x:Str):Prop:=sc.names.lookup x=some .local\/sc.names.lookup x=some .cell\/sc.names.lookup x=some .free
def Loc (sc:Scope) (x:Str):Prop:=sc.names.lookup x=some .local\/sc.names.lookup x=some .cell
def Look (env:Env) (h:Heap) (m:Str->Option Vzy) (x:Str) (u:Vzy):Prop:=
 (env.kindOf x=some .local/\m x=some u)\/((env.kindOf x=some .cell\/env.kindOf x=some .free)/\∃c,env.cells.lookup x=some c/\h.IsCell c (some u))
structure Cx.Ok (X:Cx):Prop where
 mod:Mod X.K X.mg X.base
 kind:X.env.scope.kind = .function
 glob:X.env.globals=mainGlobals
 blt:X.env.builtins=builtinsNs
 above:X.s₀.heap.objs.size<=X.env.locals
 inj:∀x y c,X.env.cells.lookup x=some c->X.env.cells.lookup y=some c->x=y
 has:∀x,(X.env.kindOf x=some .cell\/X.env.kindOf x=some .free)->∃c,X.env.cells.lookup x=some c
 cab:∀x c,X.fn x=true->X.env.cells.lookup x=some c->X.s₀.heap.objs.size<=c
 hd:X.calm=true->X.A.handled=none
 frames:X.A.frames=some X.stack
 stk:X.stack=X.outer\/(X.stack=X.env::X.outer/\X.env.frame=some X.env.locals)
 exf:∀b∈X.ex,b≠X.env.locals/\∀x c,X.env.cells.lookup x=some c->c≠b
 bs:∀b o,X.base.get? b=some o->X.s₀.heap.get? b=some o/\X.H₀ b=none
 bsz:X.base.objs.size<=X.s₀.heap.objs.size
 JE:∀b o,X.base.get? b=some o->b∉X.ex
 Km:∀b∈X.ex,b∉X.fs
 nO:X.s₀.heap.FunFrames X.base X.outer
 frf:∀b∈X.fs,X.H₀ b=none
structure Inv (X:Cx) (pins:List (Yau×Obj)) (σ:List (Option V)) (H:Hp) (s:Vzx):Prop where
 ok:X.Ok
 os:s.os=X.s₀.os
 bare:AllBare s.gens
 base:Un X.fs X.ex X.H₀ H X.s₀.heap s.heap
 loc:∃m,s.heap.Ns X.env.locals m/\∀(i:Nat) (x:Str) (v:V),X.N[i]? = some x->σ[i]? = some (some v)->Vis X.env.scope x->∃u,RelV v u/\Look X.env s.heap m x u
 cell:∀x c,X.env.cells.lookup x=some c->∃v,s.heap.IsCell c v
 free:H X.env.locals=none
 jw:∀x c,X.env.cells.lookup x=some c->H c=none
 pin:∀p∈X.pn++pins,s.heap.get? p.1=some p.2/\H p.1=none/\p.1≠X.env.locals/\p.1∉X.fs/\∀v,p.2.data ≠ .cell v
 hok:HOk X.prog X.w H s.heap
 len:σ.length=X.N.length
section
variable {σ:List (Option V)}{s:Vzx}
theorem Cx.Ok.WA (ok:X.Ok) {o:Obj} (e:X.base.get? b=some o):b∉X.fs:=λhb=>by
 have:=(ok.nO.mem hb).1;rw[e]at this;cases this
theorem Inv.bs (I:Inv X pins σ H s):∀b o,X.base.get? b=some o->s.heap.get? b=some o/\H b=none:=λb o e=>
 ⟨I.base.keep b o (I.ok.bs b o e).1 (I.ok.bs b o e).2 (I.ok.WA e) (I.ok.JE b o e),I.base.free b o (I.ok.bs b o e).1 (I.ok.bs b o e).2 (I.ok.JE b o e)⟩
theorem Inv.bk (I:Inv X pins σ H s):∀b o,X.base.get? b=some o->s.heap.get? b=some o:=λb o e=>(I.bs b o e).1
theorem Inv.mod (I:Inv X pins σ H s):Mod X.K X.mg X.base:=I.ok.mod
theorem Inv.kIn (I:Inv X pins σ H s):X.K.In s.heap:=I.ok.mod.kin.keeps I.bk
theorem Inv.nolimit (I:Inv X pins σ H s):s.heap.NoLimit:=I.ok.mod.nolimit.keeps I.bk
theorem Inv.fr (I:Inv X pins σ H s):∃m,Fr X.base X.env.locals s.heap m:=
 let ⟨m,hn,_⟩:=I.loc
 ⟨m,hn,I.bk,XG I.ok.bsz I.ok.above⟩
theorem Inv.lt (I:Inv X pins σ H s):X.env.locals<s.heap.objs.size:=let ⟨_,hn,_⟩:=I.loc;hn.lt
theorem Inv.sz (I:Inv X pins σ H s):X.s₀.heap.objs.size<=s.heap.objs.size:=XG I.ok.above (YJ I.lt)
theorem Inv.RJ (I:Inv X pins σ H s)  (h:s.heap.objs.size<=a):a∉X.fs:=λhb=>by
 obtain⟨_,o,ho,_⟩:=I.ok.nO.mem hb;exact absurd (X9 (Z1 ho) (XG I.sz h)) (Zj _)
theorem Inv.cne (I:Inv X pins σ H s):∀x c,X.env.cells.lookup x=some c->c≠X.env.locals:=λx c e z=>by
 obtain⟨v,o,f,d⟩:=I.cell x c e;obtain⟨m,⟨_,_,_,a,b,_⟩,_⟩:=I.loc;rw[z,a]at f;cases f;rw[b]at d;cases d
theorem Inv.nO (I:Inv X pins σ H s):s.heap.FunFrames X.base X.outer:=by
 have a:∀(l:List Env),(∀b∈frs l,b∈X.fs)->X.s₀.heap.FunFrames X.base l->s.heap.FunFrames X.base l:=by
  intro l
  induction l with
  | nil=>intro _ _;trivial
  | cons _ r m=>
   intro f h;obtain⟨n,⟨L,o,c,g,j,i⟩,k⟩:=h;have hL:=f L (by unfold frs;rw[Zi,c];exact XC);obtain⟨_,e⟩:=I.base.slot L o j (I.ok.frf L hL) hL λz=>I.ok.Km L z hL;exact⟨n,⟨L,_,c,g,e,i⟩,m (λb d=>f b (by unfold frs;rw[Zi,c];exact XF _ d)) k⟩
 exact a X.outer (λ_ d=>d) I.ok.nO
theorem Inv.stack (I:Inv X pins σ H s):s.heap.FunFrames X.base X.stack:=by
 rcases I.ok.stk with e | ⟨e,a⟩
 ·rw[e];exact I.nO
 ·rw[e];obtain⟨m,b,_⟩:=I.loc;refine .cons (by rw[I.ok.kind];decide) a b ?_ I.nO;exact Heap.get?_none_of_le (XG I.ok.bsz I.ok.above)
theorem Inv.BZ (I:Inv X pins σ H s):∀b∈frs X.stack,b∈X.env.locals::X.fs:=λb a=>by
 rcases I.ok.stk with e | ⟨e,c⟩
 ·rw[e]at a;exact XF _ a
 ·rw[e]at a;unfold frs at a;rw[Zi,c]at a;exact a
theorem Inv.ER (I:Inv X pins σ H s):∀b∈frs X.stack,H b=none:=λb a=>by
 rcases XQ.mp (I.BZ b a)with e | a
 ·rw[e];exact I.free
 ·obtain⟨_,o,c,_⟩:=I.ok.nO.mem a;exact I.base.free b o c (I.ok.frf b a) λz=>I.ok.Km b z a
theorem Inv.step {g':Array GenState}{t':Nat}{d':Drawn} (I:Inv X pins σ H s)
  (j:∀b∈ch,(b∈X.ex\/X.s₀.heap.objs.size<=b)/\b≠X.env.locals/\(∀x c,X.env.cells.lookup x=some c->c≠b)/\∀p∈X.pn++pins,p.1≠b)
  (h:∀b o,b≠X.env.locals->b∉X.fs->b∉ch->s.heap.get? b=some o->H b=none->h'.get? b=some o)
  (slot:∀b o,b≠X.env.locals->b∈X.fs->b∉ch->s.heap.get? b=some o->H b=none->∃sl,h'.get? b=some { o with slots:=sl }) (f:∀b o,b∉ch->s.heap.get? b=some o->H b=none->H' b=none)
  (A:∀b o,b∉ch->s.heap.get? b=some o->∃o',h'.get? b=some o')
  (U:∀b xs,H b=some (.tup xs)->H' b=some (.tup xs)) (Q:∀b o u,H b=some (.frz o u)->H' b=some (.frz o u)) (V:∀b ps,H b=some (.tbl ps)->∃more,H' b=some (.tbl (ps++more)))
  (R:∀m,s.heap.Ns X.env.locals m->h'.Ns X.env.locals m) (F:HOk X.prog X.w H' h') (S:AllBare g') :
  Inv X pins σ H' { s with heap:=h',gens:=g',drawn:=d',toks:=t' }:=by
 have E:∀b o,X.s₀.heap.get? b=some o->b≠X.env.locals:=λb o e=>X3 (X9 (Z1 e) I.ok.above);have t:∀b o,X.s₀.heap.get? b=some o->b∉X.ex->b∉ch:=λb o e a B=>by
  rcases(j b B).1 with z | z
  ·exact a z
  ·exact absurd (X9 (Z1 e) z) (Zj _)
 have cellK:∀x c,X.env.cells.lookup x=some c->∀v,s.heap.IsCell c v->h'.IsCell c v:=λx c e v ⟨o,C,G⟩=>by
  have g:c∉ch:=λz=>(j c z).2.2.1 x c e rfl;by_cases M:c∈X.fs
  ·obtain⟨sl,q⟩:=slot c o (I.cne x c e) M g C (I.jw x c e);exact⟨_,q,G⟩
  ·exact⟨o,h c o (I.cne x c e) M g C (I.jw x c e),G⟩
 refine⟨I.ok,I.os,S,⟨λb o e n B a=>?_,λb o e n B a=>?_,λb o e n a=>?_,λb o e a=>?_,λb xs e=>U b xs (I.base.rE b xs e),λb o xs e=>Q b o xs (I.base.qy b o xs e),λb ps e=>?_⟩,?_,λx c e=>?_,?_,λx c e=>?_,λp N=>?_,F,I.len⟩
 ·exact h b o (E b o e) B (t b o e a) (I.base.keep b o e n B a) (I.base.free b o e n a)
 ·obtain⟨sl,y⟩:=I.base.slot b o e n B a;obtain⟨J,D⟩:=slot b _ (E b o e) B (t b o e a) y (I.base.free b o e n a);exact⟨J,D⟩
 ·obtain⟨o',y⟩:=I.base.there b o e a;exact f b o' (t b o e a) y (I.base.free b o e n a)
 ·obtain⟨o',y⟩:=I.base.there b o e a;exact A b o' (t b o e a) y
 ·obtain⟨P,y⟩:=I.base.qB b ps e;obtain⟨Y,D⟩:=V b _ y;exact⟨P++Y,by rw[D,Array.append_assoc]⟩
 ·obtain⟨m,O,T⟩:=I.loc;refine⟨m,R m O,λi x v y D W=>?_⟩;obtain⟨u,r,l⟩:=T i x v y D W;refine⟨u,r,?_⟩;rcases l with l | ⟨k,c,e,z⟩
  ·exact .inl l
  ·exact .inr ⟨k,c,e,cellK x c e _ z⟩
 ·obtain⟨v,z⟩:=I.cell x c e;exact⟨v,cellK x c e v z⟩
 ·obtain⟨m,⟨o,_,_,C,_⟩,_⟩:=I.loc;exact f _ o (λz=>(j _ z).2.1 rfl) C I.free
 ·obtain⟨v,o,C,G⟩:=I.cell x c e;exact f c o (λz=>(j c z).2.2.1 x c e rfl) C (I.jw x c e)
 ·obtain⟨e,n,L,K,d⟩:=I.pin p N;have g:p.1∉ch:=λz=>(j p.1 z).2.2.2 p N rfl;exact⟨h p.1 p.2 L K g e n,f p.1 p.2 g e n,L,K,d⟩
theorem Inv.un {t':Nat} (I:Inv X pins σ H s) (u:Un X.fs [] H H' s.heap h') (f:HOk X.prog X.w H' h'):Inv X pins σ H' { s with heap:=h',toks:=t' }:=by
 obtain⟨m,⟨o,_,_,h,r⟩,_⟩:=id I.loc;obtain⟨_,hL⟩:=u.any h I.free (by simp);exact I.step (g':=s.gens) (d':=s.drawn) (ch:=[]) (λ_ z=>nomatch z) (λb o _ g _ e n=>u.keep b o e n g (by simp)) (λb o _ g _ e n=>u.slot b o e n g (by simp)) (λb o _ e n=>u.free b o e n (by simp)) (λb o _ e=>u.there b o e (by simp)) u.rE u.qy u.qB (λ_ j=>by
  obtain⟨_,c,d,a,i⟩:=j;rw[h]at a;cases a;exact⟨_,c,d,hL,i⟩) f I.bare
theorem Inv.call {g':Array GenState}{t':Nat}{d':Drawn} (I:Inv X pins σ H s) (u:Un (frs X.stack) ch H H' s.heap h') (i:HOk X.prog X.w H' h') (k:AllBare g')
  (f:∀b∈ch,(b∈X.ex\/X.s₀.heap.objs.size<=b)/\b≠X.env.locals/\(∀x c,X.env.cells.lookup x=some c->c≠b)/\∀p∈X.pn++pins,p.1≠b) :
  Inv X pins σ H' { s with heap:=h',gens:=g',drawn:=d',toks:=t' }:=by
 obtain⟨m,⟨o,_,_,j,r⟩,_⟩:=id I.loc;obtain⟨_,hL⟩:=u.any j I.free λz=>(f _ z).2.1 rfl;exact I.step (ch:=ch) f (λb o hL t a e n=>u.keep b o e n (λz=>(XQ.mp (I.BZ b z)).elim hL t) a) (λb o _ _ a e n=>u.any e n a) (λb o a e n=>u.free b o e n a) (λb o a e=>u.there b o e a) u.rE u.qy u.qB (λ_ q=>by
  obtain⟨_,g,h,d,l⟩:=q;rw[j]at d;cases d;exact⟨_,g,h,hL,l⟩) i k
theorem Inv.turned {t':Nat}{it:Yau} (I:Inv X pins σ H s) (k:∀b o,b≠it->s.heap.get? b=some o->h'.get? b=some o) (f:H it=none) (hL:it≠X.env.locals)
  (h1:it∈X.ex\/X.s₀.heap.objs.size<=it) (h2:∀x c,X.env.cells.lookup x=some c->c≠it) (g:∀p∈X.pn++pins,p.1≠it):Inv X pins σ H { s with heap:=h',toks:=t' }:=by
 have d:∀b u,H b=some u->b≠it:=λb u e z=>by rw[z,f]at e;cases e
 refine I.step (g':=s.gens) (d':=s.drawn) (ch:=[it]) (λb t=>?_) (λb o _ _ a e _=>k b o (λz=>a (by simp[z])) e) (λb o _ _ a e _=>⟨o.slots,k b o (λz=>a (by simp[z])) e⟩) (λ_ _ _ _ n=>n)
  (λb o a e=>⟨o,k b o (λz=>a (by simp[z])) e⟩) (λ_ _ e=>e) (λ_ _ _ e=>e) (λb _ e=>⟨#[],by rw[e];simp⟩) (λm j=>?_) (λb u e=>?_) I.bare
 ·have e:b=it:=by simpa using t
  subst e;exact⟨h1,hL,h2,g⟩
 ·obtain⟨o,h,l,i,r⟩:=j;exact⟨o,h,l,k _ o (Ya4 hL) i,r⟩
 ·refine(I.hok b u e).uI (λc v a q=>k c v ?_ q) (λ_ q=>q) λ_ _ q=>q;rcases a with z | z
  ·rw[z];exact d b u e
  ·exact d c _ z
theorem Inv.tok (I:Inv X pins σ H s) (t:Nat):Inv X pins σ H { s with toks:=t }:=I.un (h':=s.heap) (t':=t) Un.refl I.hok
theorem Inv.kept {t':Nat} (I:Inv X pins σ H s) (k:∀b u,s.heap.get? b=some u->h'.get? b=some u):Inv X pins σ H { s with heap:=h',toks:=t' }:=I.un (Un.kept k) (I.hok.kept k)
theorem Inv.laid {a:Yau}{o:HO}{t':Nat} (I:Inv X pins σ H s) (k:∀b u,s.heap.get? b=some u->h'.get? b=some u) (d:s.heap.objs.size<=a) (c:bC X.prog X.w (upd H a o) h' a o) :
  Inv X pins σ (upd H a o) { s with heap:=h',toks:=t' }:=I.un (Un.laid k d (I.hok.fresh d)) (I.hok.laid k d c)
theorem Inv.write {x e:Yau}{o:HO}{t':Nat} (I:Inv X pins σ H s) (mu:Mut (H x)) (d:e=x\/H e=some (.own x)) (k:∀b u,b≠e->s.heap.get? b=some u->h'.get? b=some u) (a:∃u,h'.get? e=some u)
  (c:bC X.prog X.w (upd H x o) h' x o):Inv X pins σ (upd H x o) { s with heap:=h',toks:=t' }:=I.un (Un.write mu d k a) (I.hok.write mu d k a c)
theorem Inv.nZ {a:List (Yau×Obj)} (I:Inv X pins σ H s) (h:∀p∈a,s.heap.get? p.1=some p.2/\H p.1=none/\p.1≠X.env.locals/\p.1∉X.fs/\∀v,p.2.data ≠ .cell v):Inv X a σ H s:=
 ⟨I.ok,I.os,I.bare,I.base,I.loc,I.cell,I.free,I.jw,λp b=>(XU.mp b).elim (λz=>I.pin p (Ys _ z)) (h p),I.hok,I.len⟩
theorem yP (hN:N.Nodup)  (a:N[i]? = some x) (b:N[j]? = some x):i=j:=by
 obtain⟨h1,e1⟩:=YG.mp a;obtain⟨h2,e2⟩:=YG.mp b;exact(List.getElem_inj hN).mp (e1.trans e2.symm)
theorem wL {M:Model}{A:Yaw}{E:Vzy->Vzx->Prop}{Q:Unit->Vzx->Prop} (I:Inv X pins σ H s) (hN:X.N.Nodup) (hi:X.N[i]? = some x) (hx:Loc X.env.scope x) (r:RelV v u)
  (h:∀s',Inv X pins (σ.set i (some v)) H s'->(∃a,UV a s.heap s'.heap/\(a=X.env.locals\/X.env.cells.lookup x=some a))->Q () s') (hf:X.fn x=true\/X.env.scope.names.lookup x=some .local:=by first | exact .inl rfl | exact .inr rfl | assumption):Yb1 M A (storeName X.env x u) Q E s:=by
 obtain⟨m,Y,hl⟩:=id I.loc;have Ww:(X.env.scope.kind == .class || (X.env.scope.kind == .module && X.env.locals != X.env.globals))=false:=by rw[I.ok.kind];rfl
 have C:i<σ.length:=by rw[I.len];exact(YG.mp hi).1
 have J:=I.cne;have g:∀{a:Yau}{h':Heap},(∃o,s.heap.get? a=some o/\H a=none)->UV a s.heap h'->HOk X.prog X.w H h':=λ{a h'} ha f b ob e=>by
  obtain⟨_,_,Ov⟩:=ha;refine(I.hok b ob e).uI (λc S t q=>(f.2 c ?_).trans q) (λ_ q=>q) λ_ _ q=>q;rintro rfl;rcases t with rfl | t
  ·rw[Ov]at e;cases e
  ·rw[Ov]at t;cases t
 rcases hx with hk | hk
 ·refine wpAny_storeName_local hk Y (λh' hn' f=>?_) Ww;obtain⟨oL,_,_,W,_⟩:=id Y;refine h _ ⟨I.ok,I.os,I.bare,⟨λb o e n G hx=>?_,λb o e n G hx=>?_,I.base.free,λb o e hx=>?_,I.base.rE,I.base.qy,I.base.qB⟩,⟨_,hn',λj y v' l B e3=>?_⟩,λy c e=>?_,I.free,I.jw,λp hp=>?_,g ⟨oL,W,I.free⟩ f,by simpa using I.len⟩ ⟨_,f,.inl rfl⟩
  ·exact(f.2 b (X3 (X9 (Z1 e) I.ok.above))).trans (I.base.keep b o e n G hx)
  ·obtain⟨sl,l⟩:=I.base.slot b o e n G hx;exact⟨sl,(f.2 b (X3 (X9 (Z1 e) I.ok.above))).trans l⟩
  ·obtain⟨T,l⟩:=I.base.there b o e hx;exact⟨T,(f.2 b (X3 (X9 (Z1 e) I.ok.above))).trans l⟩
  ·by_cases F:j=i
   ·subst F;rw[hi]at l;cases l;rw[ZR C]at B;cases B;exact⟨u,r,.inl ⟨hk,by simp⟩⟩
   ·rw[List.getElem?_set_ne (Ya4 F)]at B;obtain⟨Z,r',q⟩:=hl j y v' l B e3;refine⟨Z,r',?_⟩;rcases q with⟨k,e⟩ | ⟨k,c,e,z⟩
    ·refine .inl ⟨k,?_⟩;have:y≠x:=λe=>F (yP hN l (e ▸ hi));simp[this,e]
    ·exact .inr ⟨k,c,e,z.sameBut f (J y c e)⟩
  ·obtain⟨S,z⟩:=I.cell y c e;exact⟨S,z.sameBut f (J y c e)⟩
  ·obtain⟨e,n,P,U,d⟩:=I.pin p hp;exact⟨(f.2 p.1 P).trans e,n,P,U,d⟩
 ·have D:X.fn x=true:=by
   rcases hf with z | z
   ·exact z
   ·rw[z]at hk;cases hk
  obtain⟨c,t⟩:=I.ok.has x (.inl hk);obtain⟨S,z⟩:=I.cell x c t;refine wpAny_storeName_cell I.ok.kind hk t z (λh' O f=>?_);obtain⟨oc,K,V4⟩:=id z;refine h { s with heap:=h' } ⟨I.ok,I.os,I.bare,⟨λb o e n G hx=>?_,λb o e n G hx=>?_,I.base.free,λb o e hx=>?_,I.base.rE,I.base.qy,I.base.qB⟩,⟨m,Y.sameBut f (Ya4 (J x c t)),λj y v' l B e3=>?_⟩,λy R e=>?_,I.free,I.jw,λp hp=>?_,g ⟨oc,K,I.jw x c t⟩ f,by simpa using I.len⟩ ⟨c,f,.inr t⟩
  ·exact(f.2 b (X3 (X9 (Z1 e) (I.ok.cab x c D t)))).trans (I.base.keep b o e n G hx)
  ·obtain⟨sl,l⟩:=I.base.slot b o e n G hx;exact⟨sl,(f.2 b (X3 (X9 (Z1 e) (I.ok.cab x c D t)))).trans l⟩
  ·obtain⟨T,l⟩:=I.base.there b o e hx;exact⟨T,(f.2 b (X3 (X9 (Z1 e) (I.ok.cab x c D t)))).trans l⟩
  ·by_cases F:j=i
   ·subst F;rw[hi]at l;cases l;rw[ZR C]at B;cases B;exact⟨u,r,.inr ⟨.inl hk,c,t,O⟩⟩
   ·rw[List.getElem?_set_ne (Ya4 F)]at B;obtain⟨Z,r',q⟩:=hl j y v' l B e3;refine⟨Z,r',?_⟩;rcases q with q | ⟨k,R,e,z'⟩
    ·exact .inl q
    ·refine .inr ⟨k,R,e,z'.sameBut f ?_⟩;rintro rfl;exact F (yP hN l (I.ok.inj _ _ _ e t ▸ hi))
  ·by_cases L:R = c
   ·subst L;exact⟨_,O⟩
   ·obtain⟨w2,z2⟩:=I.cell y R e;exact⟨w2,z2.sameBut f L⟩
  ·obtain⟨e,n,P,U,d⟩:=I.pin p hp;refine⟨(f.2 p.1 ?_).trans e,n,P,U,d⟩;intro q;rw[q,K]at e;have q':=Uf e;exact d S (by rw[<-q'];exact V4)
theorem yX {M:Model}{A:Yaw}{E:Vzy->Vzx->Prop}{Q:Unit->Vzx->Prop} (I:Inv X pins σ H s) (a:X.N.Nodup) (hi:X.N[i]? = some x) (hx:Loc X.env.scope x) (r:RelV v u)
  (h:∀s',Inv X pins (σ.set i (some v)) H s'->Q () s') (b:X.fn x=true\/X.env.scope.names.lookup x=some .local:=by first | exact .inl rfl | exact .inr rfl | assumption):Yb1 M A (storeName X.env x u) Q E s:=
 wL I a hi hx r (λs' c _=>h s' c) b
theorem Inv.Uz (I:Inv X pins σ H s) (g:s'.os=s.os) (u:Un (frs X.stack) ch H H' s.heap s'.heap) (a:HOk X.prog X.w H' s'.heap) (f:AllBare s'.gens)
  (d:∀b∈ch,(b∈X.ex\/X.s₀.heap.objs.size<=b)/\b≠X.env.locals/\(∀x c,X.env.cells.lookup x=some c->c≠b)/\∀p∈X.pn++pins,p.1≠b):Inv X pins σ H' s':=by
 obtain⟨_,g',d',t',_⟩:=s';have e:=g;subst e;exact I.call (g':=g') (t':=t') (d':=d') u a f d
end
abbrev XK:=Vzy->Option Yau->Hp->Prop
abbrev St:=List (Option V)
abbrev VK:=V->Hp->Prop
abbrev TE:=St->Hp->VK->Prop
abbrev TT:=St->Hp->(Bool->Hp->Prop)->Prop
abbrev TA:=St->Hp->(Qqt->Hp->Prop)->Prop
end L2
variable {σ:L2.St}{G:L2.St->L2.Hp->Prop}{t:L2.TA}{ta tc td te tl tv tx:L2.TE}{tt:L2.TT}{r:L2.V->L2.Qqt->L2.Hp->L2.VK->Prop}
namespace L2
open PySem PySem.Spec PyProof.Rows
structure Ends where
 nx:St->Hp->Prop
 rt:VK
 bk:St->Hp->Prop:=λ_ _=>False
 ct:St->Hp->Prop:=λ_ _=>False
abbrev TS:=Ends->St->Hp->Prop
def EP (X:Cx) (pins:List (Yau×Obj)) (σ:St) (Q:VK) (u:Vzy) (s':Vzx):Prop:=∃v H',Inv X pins σ H' s'/\RelV v u/\Q v H'
def TP (X:Cx) (pins:List (Yau×Obj)) (σ:St) (Q:Bool->Hp->Prop) (b:Bool) (s':Vzx):Prop:=∃H',Inv X pins σ H' s'/\Q b H'
def AP (X:Cx) (pins:List (Yau×Obj)) (σ:St) (Q:Qqt->Hp->Prop) (us:Qqz) (s':Vzx):Prop:=∃vs H',Inv X pins σ H' s'/\aO vs us/\Q vs H'
def SP (X:Cx) (pins:List (Yau×Obj)) (D:Ends) (f:Flow) (s':Vzx):Prop:=
 match f with
 | .next=>∃σ' H',Inv X pins σ' H' s'/\D.nx σ' H'
 | .brk=>∃σ' H',Inv X pins σ' H' s'/\D.bk σ' H'
 | .cont=>∃σ' H',Inv X pins σ' H' s'/\D.ct σ' H'
 | .ret u=>∃v σ' H',Inv X pins σ' H' s'/\RelV v u/\D.rt v H'
def PE (X:Cx) (e:Expr) (t:TE):Prop:=
 ∀(pins:List (Yau×Obj)) (s:Vzx) (σ:St) (H:Hp) (Q:VK),Inv X pins σ H s->t σ H Q->Yb1 (model X.prog X.w) X.A (eval e X.env) (EP X pins σ Q) X.xe s
def PT (X:Cx) (e:Expr) (t:TT):Prop:=
 ∀(pins:List (Yau×Obj)) (s:Vzx) (σ:St) (H:Hp) (Q:Bool->Hp->Prop),Inv X pins σ H s->t σ H Q->Yb1 (model X.prog X.w) X.A (isTrue e X.env (eval e X.env)) (TP X pins σ Q) X.xe s
def PW (X:Cx) (e:Expr) (t:TT):Prop:=
 ∀(whole:Sem Vzy) (pins:List (Yau×Obj)) (s:Vzx) (σ:St) (H:Hp) (Q:Bool->Hp->Prop),Inv X pins σ H s->t σ H Q->Yb1 (model X.prog X.w) X.A (isTrue e X.env whole) (TP X pins σ Q) X.xe s
theorem PW.pt {e:Expr}{t:TT} (h:PW X e t):PT X e t:=h _
def PA (X:Cx) (es:List Expr) (t:TA):Prop:=
 ∀(pos:Pos) (pins:List (Yau×Obj)) (s:Vzx) (σ:St) (H:Hp) (Q:Qqt->Hp->Prop),Inv X pins σ H s->t σ H Q->Yb1 (model X.prog X.w) X.A (spliced (backTo pos (Yb2 es X.env))) (AP X pins σ Q) X.xe s
def PS (X:Cx) (st:Stmt) (t:TS):Prop:=
 ∀(pins:List (Yau×Obj)) (s:Vzx) (σ:St) (H:Hp) (D:Ends),Inv X pins σ H s->t D σ H->Yb1 (model X.prog X.w) X.A (exec st X.env) (SP X pins D) X.xe s
def PSs (X:Cx) (st:List Stmt) (t:TS):Prop:=
 ∀(pins:List (Yau×Obj)) (s:Vzx) (σ:St) (H:Hp) (D:Ends),Inv X pins σ H s->t D σ H->Yb1 (model X.prog X.w) X.A (execs st X.env) (SP X pins D) X.xe s
theorem thn {t:Sem α}{Q Q':α->Vzx->Prop}{s:Vzx} (h:Yb1 M A t Q E s) (hQ:∀a s,Q a s->Q' a s):Yb1 M A t Q' E s:=Vzt h hQ λ_ _ x=>x
section
def o5 (i:Nat):TE:=λσ H Q=>∃v,σ[i]? = some (some v)/\Q v H
def tC (v:V):TE:=λ_ H Q=>Q v H
theorem Pc {pos:Pos} (n:X.N[i]? = some x) (q:Vis X.env.scope x) (g:(x == ("__debug__" : Str))=false:=by decide) (f:(x == ("__classdict__" : Str))=false:=by decide):PE X (.Name x pos) (o5 i):=by
 intro d s t H Q I h;obtain⟨v,e,h⟩:=h;obtain⟨m,o,p⟩:=I.loc;obtain⟨u,r,l⟩:=p i x v n e q;have a:EP X d t Q u s:=⟨v,H,I,r,h⟩;rcases l with⟨b,w⟩ | ⟨b,c,k,j⟩
 ·exact wpAny_Name (wpAny_loadName_local I.ok.kind b o w a) g
 ·rcases b with b | b
  ·exact wpAny_Name (wpAny_loadName_cell I.ok.kind b k j a) g
  ·exact wpAny_Name (wpAny_loadName_free I.ok.kind b k j a f) g
theorem ak {i j pos}:PE X (.Constant (.int i) j pos) (tC (.int i)):=λ_ _ _ H _ I h=>wpAny_Constant_int ⟨.int i,H,I.tok _,⟨_,rfl⟩,h⟩
theorem fA {b j pos}:PE X (.Constant (.bool b) j pos) (tC (.bl b)):=λ_ _ _ H _ I h=>Constant_bool ⟨.bl b,H,I,rfl,h⟩
theorem Dm {j pos}:PE X (.Constant .none j pos) (tC .non):=λ_ _ _ H _ I h=>Constant_none ⟨.non,H,I,rfl,h⟩
theorem aH {x j pos}:PE X (.Constant (.str x) j pos) (tC (.str x)):=λ_ _ _ H _ I h=>Calls.Constant_str ⟨.str x,H,I.tok _,⟨_,rfl⟩,h⟩
def Gl (X:Cx) (x:Str):Prop:=X.env.kindOf x=some .globalImplicit
theorem jq {E:Vzy->Vzx->Prop}{s:Vzx}{pos:Pos} (I:Inv X pins σ H s) (a:Gl X x) (c:X.mg x=some u) (h:Q u s)
  (b:(x == ("__debug__" : Str))=false:=by decide):Yb1 (model X.prog X.w) X.A (eval (.Name x pos) X.env) Q E s:=
 Calls.Name_function_global I.ok.kind a (Calls.loadGlobal_global (by rw[I.ok.glob];exact I.mod.glob.keeps I.bk) c h) b
theorem eN {E:Vzy->Vzx->Prop}{s:Vzx}{pos:Pos} (I:Inv X pins σ H s) (c:Gl X x) (d:X.mg x=none) (a:bootBuiltins x=some u) (h:Q u s)
  (e:x ≠ "__name__" :=by decide) (b:(x == ("__debug__" : Str))=false:=by decide):Yb1 (model X.prog X.w) X.A (eval (.Name x pos) X.env) Q E s:=by
 obtain⟨_,f,g⟩:=I.mod.blt;exact Calls.Name_function_global I.ok.kind c (Calls.loadGlobal_builtin (by rw[I.ok.glob];exact I.mod.glob.keeps I.bk) d (by rw[I.ok.blt];exact f.keeps I.bk) ((g x e).trans a) h) b
theorem fM {pos:Pos} (b:Gl X x) (c:X.mg x=some u) (r:RelV v u) (a:(x == ("__debug__" : Str))=false:=by decide):PE X (.Name x pos) (tC v):=
 λ_ _ _ H _ I h=>jq I b c ⟨v,H,I,r,h⟩ a
theorem qI {pos:Pos} (c:Gl X x) (d:X.mg x=none) (a:bootBuiltins x=some u) (r:RelV v u) (e:x ≠ "__name__" :=by decide) (b:(x == ("__debug__" : Str))=false:=by decide):PE X (.Name x pos) (tC v):=
 λ_ _ _ H _ I h=>eN I c d a ⟨v,H,I,r,h⟩ e b
variable {a b:Expr}{tb:TE}
def tB (t:TE):TT:=λσ H Q=>t σ H λx H1=>∃c,x = .bl c/\Q c H1
theorem b7 {e:Expr}{t:TE} (h:PE X e t) (f:∀whole,isTrue e X.env whole=(do let v <-whole;standAt e.pos;holding [v] (truthy v)):=by intro _;rfl):PT X e (tB t):=by
 intro a s j H Q I b;refine isTrue_plain (thn (h a s j H _ I b) λv _ ⟨x,c,g,i,k⟩=>?_) (f _);obtain⟨d,rfl,q⟩:=k;cases i;exact wpAny_truthy_bool ⟨c,g,q⟩
variable {tA tB':TT}{rest:List Expr}
def U9 (t u:TT):TT:=λσ H Q=>t σ H λc H1=>if c=true then u σ H1 Q else Q false H1
def tOr (t u:TT):TT:=λσ H Q=>t σ H λc H1=>if c=true then Q true H1 else u σ H1 Q
def PN (t:TT):TT:=λσ H Q=>t σ H λc H1=>Q (!c) H1
theorem pw_and1 (d:PT X a tA):PW X (.BoolOp .And [a] pos) tA:=by
 intro _ b s f H Q I h;refine isTrue_and (thn (d b s f H Q I h) λc _ e=>?_);cases c with
 | true=>exact isTrue_and_nil e
 | false=>exact e
theorem pw_or1 (d:PT X a tA):PW X (.BoolOp .Or [a] pos) tA:=by
 intro _ b s f H Q I h;refine isTrue_or (thn (d b s f H Q I h) λc _ e=>?_);cases c with
 | false=>exact isTrue_or_nil e
 | true=>exact e
theorem pw_and (j:PT X a tA) (k:PW X (.BoolOp .And (b::rest) pos) tB'):PW X (.BoolOp .And (a::b::rest) pos) (U9 tA tB'):=by
 intro l d s g H Q I h;refine isTrue_and (thn (j d s g H _ I h) λc m ⟨e,f,i⟩=>?_);cases c with
 | true=>exact k l d m g e Q f i
 | false=>exact⟨e,f,i⟩
theorem pw_or (j:PT X a tA) (k:PW X (.BoolOp .Or (b::rest) pos) tB'):PW X (.BoolOp .Or (a::b::rest) pos) (tOr tA tB'):=by
 intro l d s g H Q I h;refine isTrue_or (thn (j d s g H _ I h) λc m ⟨e,f,i⟩=>?_);cases c with
 | true=>exact⟨e,f,i⟩
 | false=>exact k l d m g e Q f i
theorem fC (ha:PT X a tA):PT X (.UnaryOp .Not a pos) (PN tA):=by
 intro pins s σ H Q I h;exact isTrue_not (ha pins s σ H (λc H1=>Q (!c) H1) I h)
def UK (ta tb:TE):TE:=λσ H Q=>ta σ H λx H1=>∃c,x = .bl c/\if c=true then tb σ H1 Q else Q (.bl false) H1
theorem iw {op}{t:TE} (h:PE X a t):PE X (.BoolOp op [a] pos) t:=λpins s σ H Q I hw=>BoolOp_one (h pins s σ H Q I hw)
theorem gY (j:PE X a ta) (k:PE X (.BoolOp .And (b::rest) pos) tb):PE X (.BoolOp .And (a::b::rest) pos) (UK ta tb):=by
 intro d s i H Q I h;refine BoolOp_and (thn (j d s i H _ I h) λv m ⟨x,f,g,l,e⟩=>?_);obtain⟨c,rfl,e⟩:=e;cases l;refine wpAny_truthy_bool ?_;cases c with
 | true=>exact k d m i f Q g e
 | false=>exact⟨.bl false,f,g,rfl,e⟩
def tIf (t:TT) (ta tb:TE):TE:=λσ H Q=>t σ H λc H1=>if c=true then ta σ H1 Q else tb σ H1 Q
theorem jN {c:Expr} (n:PT X c tA) (l:PE X a ta) (m:PE X b tb):PE X (.IfExp c a b pos) (tIf tA ta tb):=by
 intro e s f H Q I h;refine wpAny_IfExp (thn (n e s f H _ I h) λd k ⟨g,j,i⟩=>?_);cases d with
 | true=>exact l e k f g Q j i
 | false=>exact m e k f g Q j i
end
def SqL (K:Vzz) (H:Hp) (a:Yau) (xs:Qqt):Prop:=
 Rd H a (.lst xs) \/
  ∃(o:Obj) (its:Qqw) (n:Nat),K.lookup a=some o/\o.cls = .type "list" /\ o.dict=none/\o.data = .seq its n/\its.size<=Yb0/\aO xs its.toList
def SqT (K:Vzz) (H:Hp) (a:Yau) (xs:Qqt):Prop:=
 Rd H a (.tup xs) \/
  ∃(o:Obj) (its:Qqw) (n:Nat),K.lookup a=some o/\o.cls = .type "tuple" /\ o.data = .seq its n/\its.size<=Yb0/\aO xs its.toList
def U3:Vzy->Option V
 | .none=>some .non
 | .bool b=>some (.bl b)
 | .int i _=>some (.int i)
 | .str x _=>some (.str x)
 | .bytes b _=>some (.byt b)
 | .float b _=>some (.flt b)
 | .ref a=>some (.ref a)
 | .type n=>some (.ty n)
 | _=>none
theorem RelV.abs {x:V} (r:RelV x u):U3 u=some x:=by
 cases x with
 | non=>cases r;rfl
 | bl _=>cases r;rfl
 | int _=>obtain⟨t,rfl⟩:=r;rfl
 | str _=>obtain⟨t,rfl⟩:=r;rfl
 | byt _=>obtain⟨t,rfl⟩:=r;rfl
 | flt _=>obtain⟨t,rfl⟩:=r;rfl
 | ref _=>cases r;rfl
 | ty _=>cases r;rfl
theorem RelV.inj {x y:V} (r:RelV x u) (q:RelV y u):x=y:=Uf (r.abs.symm.trans q.abs)
theorem aO.inj:∀{xs ys:Qqt}{us:Qqz},aO xs us->aO ys us->xs=ys
 | _,_,_,.nil,.nil=>rfl
 | _,_,_,.cons r t,.cons r' t'=>by rw[r.inj r',aO.inj t t']
section
variable {s:Vzx}
theorem SqL.of (h:H a=some (.lst xs)):SqL K H a xs:=.inl (.inl h)
theorem SqT.of (h:H a=some (.tup xs)):SqT K H a xs:=.inl (.inl h)
theorem Inv.list (I:Inv X pins σ H s) (h:SqL X.K H a xs):∃its:Qqz,aO xs its/\PlainL s.heap a its.toArray/\xs.length<=Yb0:=by
 rcases h with h | ⟨o,its,n,f,d,b,c,_,r⟩
 ·obtain⟨z,its,n,r,e⟩:=h.ok I.hok;exact⟨its,r,⟨_,n,e,rfl,rfl,rfl⟩,z⟩
 ·refine⟨its.toList,r,⟨o,n,I.kIn a o f,d,b,by simpa using c⟩,?_⟩;have e:=r.length;simp only[X6]at e;lia
theorem Inv.tuple (I:Inv X pins σ H s) (h:SqT X.K H a xs):∃its:Qqz,aO xs its/\IsTup s.heap a its.toArray/\xs.length<=Yb0:=by
 rcases h with h | ⟨o,its,n,d,c,b,_,r⟩
 ·obtain⟨z,its,r,p⟩:=h.ok I.hok;exact⟨its,r,p,z⟩
 ·refine⟨its.toList,r,⟨o,I.kIn a o d,c,n,by simpa using b⟩,?_⟩;have e:=r.length;simp only[X6]at e;lia
theorem Inv.mU (I:Inv X pins σ H s) (h:SqL X.K H a xs) (h':SqL X.K H a ys):xs=ys:=by
 obtain⟨b,r,⟨o,n,e,_,_,d⟩,_⟩:=I.list h;obtain⟨jG,g,⟨_,_,f,_,_,c⟩,_⟩:=I.list h';rw[e]at f;cases f;rw[d]at c;injection c with d1 _;have:b=jG:=by simpa using congrArg Array.toList d1
 subst this;exact r.inj g
theorem Inv.FY (I:Inv X pins σ H s) (h:SqT X.K H a xs) (h':SqT X.K H a ys):xs=ys:=by
 obtain⟨b,r,⟨o,e,_,n,d⟩,_⟩:=I.tuple h;obtain⟨jG,g,⟨_,f,_,_,c⟩,_⟩:=I.tuple h';rw[e]at f;cases f;rw[d]at c;injection c with d1 _;have:b=jG:=by simpa using congrArg Array.toList d1
 subst this;exact r.inj g
end
abbrev Cx.uT (X:Cx) (E:Vzy->Vzx->Prop):Cx:={ X with xe:=E }
abbrev Cx.nox (X:Cx):Cx:=X.uT λ_ _=>False
theorem Cx.Ok.uT (ok:X.Ok) (E:Vzy->Vzx->Prop):(X.uT E).Ok:=
 ⟨ok.mod,ok.kind,ok.glob,ok.blt,ok.above,ok.inj,ok.has,ok.cab,ok.hd,ok.frames,ok.stk,ok.exf,ok.bs,ok.bsz,ok.JE,ok.Km,ok.nO,ok.frf⟩
theorem Cx.Ok.j7 (ok:(X.uT E).Ok):X.Ok:=
 ⟨ok.mod,ok.kind,ok.glob,ok.blt,ok.above,ok.inj,ok.has,ok.cab,ok.hd,ok.frames,ok.stk,ok.exf,ok.bs,ok.bsz,ok.JE,ok.Km,ok.nO,ok.frf⟩
section
variable {s:Vzx}
theorem Inv.uT (I:Inv X pins σ H s) (E:Vzy->Vzx->Prop):Inv (X.uT E) pins σ H s:=⟨I.ok.uT E,I.os,I.bare,I.base,I.loc,I.cell,I.free,I.jw,I.pin,I.hok,I.len⟩
theorem Inv.j7 (I:Inv (X.uT E) pins σ H s):Inv X pins σ H s:=⟨I.ok.j7,I.os,I.bare,I.base,I.loc,I.cell,I.free,I.jw,I.pin,I.hok,I.len⟩
theorem SP.j7 {D:Ends}{f:Flow} (h:SP (X.uT E) pins D f s'):SP X pins D f s':=by
 cases f with
 | next=>obtain⟨a,b,I,q⟩:=h;exact⟨a,b,I.j7,q⟩
 | brk=>obtain⟨a,b,I,q⟩:=h;exact⟨a,b,I.j7,q⟩
 | cont=>obtain⟨a,b,I,q⟩:=h;exact⟨a,b,I.j7,q⟩
 | ret u=>obtain⟨v,a,b,I,r,q⟩:=h;exact⟨v,a,b,I.j7,r,q⟩
theorem PSs.nox {st:List Stmt}{t:TS} (h:PSs X.nox st t):PSs X st t:=λpins s σ H D I hw=>
 Vzt (h pins s σ H D (I.uT _) hw) (λ_ _ q=>q.j7) λ_ _ z=>False.elim z
end
section
variable {st:Stmt}{rest:List Stmt}{t u:TS}{e:Expr}
def Ud:TS:=λD σ H=>D.nx σ H
def Vp (t u:TS):TS:=λD σ H=>t { D with nx:=u D } σ H
theorem aG:PSs X [] Ud:=λ_ _ σ H _ I h=>wpAny_execs_nil ⟨σ,H,I,h⟩
theorem af (h1:PS X st t) (h2:PSs X rest u):PSs X (st::rest) (Vp t u):=by
 intro a s e H D I h;refine wpAny_execs_cons (thn (h1 a s e H { D with nx:=u D } I h) λf d q=>?_);cases f with
 | next=>
  obtain⟨b,g,c,q⟩:=q;exact h2 a d b g D c q
 | ret v=>exact q
 | brk=>exact q
 | cont=>exact q
theorem aj (h1:PS X st t):PSs X [st] t:=by
 intro a s b H D I h;refine wpAny_execs_cons (thn (h1 a s b H D I h) λf _ q=>?_);cases f with
 | next=>exact wpAny_execs_nil q
 | ret v=>exact q
 | brk=>exact q
 | cont=>exact q
theorem Inv.quiet {s:Vzx} (I:Inv X pins σ H s):interactive X.env=false:=by simp[interactive,I.ok.kind]
def T1 (te:TE):TS:=λD σ H=>te σ H λ_ H1=>D.nx σ H1
theorem bV (d:PE X e te) (g:swapsWith e none pos.line X.env=pure false:=by rfl):PS X (.Expr e pos) (T1 te):=by
 intro a s b H D I h;exact wpAny_Expr_any (thn (d a s b H _ I h) λv _ ⟨x,c,f,_,i⟩=>⟨b,c,f,i⟩) I.quiet g
def UE (te:TE):TS:=λD σ H=>te σ H D.rt
theorem au (he:PE X e te):PS X (.Return (some e) pos) (UE te):=by
 intro pins s σ H D I h;exact wpAny_Return_some (thn (he pins s σ H _ I h) λv s1 ⟨x,H1,I1,r1,q1⟩=>⟨x,σ,H1,I1,r1,q1⟩)
def VN (c:TT) (t u:TS):TS:=λD σ H=>c σ H λb H1=>if b=true then t D σ H1 else u D σ H1
theorem bg {c:Expr}{a b:List Stmt}{tc:TT} (n:PT X c tc) (l:PSs X a t) (m:PSs X b u):PS X (.If c a b pos) (VN tc t u):=by
 intro e s f H D I h;refine wpAny_If (thn (n e s f H _ I h) λd k ⟨g,j,i⟩=>?_);cases d with
 | true=>exact l e k f g D j i
 | false=>exact m e k f g D j i
def Qc:TS:=λ_ _ _=>False
theorem eG:PS X st Qc:=λ_ _ _ _ _ _ h=>h.elim
end
abbrev TG:=V->St->Hp->(St->Hp->Prop)->Prop
abbrev TGs:=Qqt->St->Hp->(St->Hp->Prop)->Prop
def PG (X:Cx) (target:Expr) (t:TG):Prop:=
 ∀(pins:List (Yau×Obj)) (s:Vzx) (σ:St) (H:Hp) (v:V) (u:Vzy) (Q:St->Hp->Prop),Inv X pins σ H s->RelV v u->t v σ H Q ->
  Yb1 (model X.prog X.w) X.A (assign target X.env u) (λ_ s'=>∃σ' H',Inv X pins σ' H' s'/\Q σ' H') X.xe s
def PGs (X:Cx) (ts:List Expr) (t:TGs):Prop:=
 ∀(pins:List (Yau×Obj)) (s:Vzx) (σ:St) (H:Hp) (vs:Qqt) (us:Qqz) (Q:St->Hp->Prop),Inv X pins σ H s->aO vs us->t vs σ H Q ->
  Yb1 (model X.prog X.w) X.A (assignInOrder ((assignEach ts X.env).map (·.2)) us) (λ_ s'=>∃σ' H',Inv X pins σ' H' s'/\Q σ' H') X.xe s
abbrev OM:=V->V->V->Hp->(Hp->Prop)->Prop
def T6 (X:Cx) (t:OM):Prop:=
 ∀(pins:List (Yau×Obj)) (s:Vzx) (σ:St) (H:Hp) (o i v:V) (ov iv u:Vzy) (Q:Hp->Prop),Inv X pins σ H s->RelV o ov->RelV i iv->RelV v u->t o i v H Q ->
  Yb1 (model X.prog X.w) X.A (setItem ov iv u) (λ_ s'=>∃H',Inv X pins σ H' s'/\Q H') X.xe s
def bf (i:Nat):TG:=λv σ H Q=>Q (σ.set i (some v)) H
theorem aM (a:X.N.Nodup) (hi:X.N[i]? = some x) (hx:Loc X.env.scope x) (b:X.fn x=true\/X.env.scope.names.lookup x=some .local:=by first | exact .inl rfl | exact .inr rfl | assumption):PG X (.Name x pos) (bf i):=by
 intro _ s _ H v u Q I r h;exact wpAny_assign_Name (yX I a hi hx r (λ_ c=>⟨_,H,c,h⟩) b)
def oF:TGs:=λvs σ H Q=>vs=[]/\Q σ H
def c5 (t:TG) (u:TGs):TGs:=λvs σ H Q=>∃v r,vs=v::r/\t v σ H λσ' H'=>u r σ' H' Q
theorem cE:PGs X [] oF:=by
 intro pins s σ H vs us Q I r h;obtain⟨e,h⟩:=h;subst e;cases r;exact assignInOrder_nil ⟨σ,H,I,h⟩
theorem aL {e:Expr}{es:List Expr}{t:TG}{u:TGs} (h1:PG X e t) (h2:PGs X es u)
  (j:(assignEach (e::es) X.env).map (·.2)=assign e X.env::(assignEach es X.env).map (·.2):=by rfl):PGs X (e::es) (c5 t u):=by
 intro a s k H _ _ Q I r h;obtain⟨v,_,g,h⟩:=h;subst g;cases r with
 | cons r f=>
  rw[j];refine assignInOrder_cons (thn (h1 a s k H _ _ _ I r h) λ_ d ⟨b,c,i,l⟩=>?_);exact h2 a d b c _ _ Q i f l
def oz (K:Vzz) (n:Nat) (t:TGs):TG:=λv σ H Q=>∃a xs,v = .ref a/\SqT K H a xs/\xs.length=n/\t xs σ H Q
theorem dC {es:List Expr}{k:Nat}{t:TGs} (p:X.calm=true) (h:PGs X es t)
  (i:(assignEach es X.env).length=n:=by rfl) (f:(assignEach es X.env).findIdx? (·.1)=none:=by rfl):PG X (.Tuple es k pos) (oz X.K n t):=by
 intro c s x H v u Q I r d;obtain⟨a,w,l,z,j,d⟩:=d;subst l;cases r;obtain⟨_,g,m,_⟩:=I.tuple z;refine assign_Tuple_tuple (I.ok.hd p) m (by simp[i,<-j,g.length]) f λ_ y=>?_;have q:=I.kept (t':=s.toks) λb o e=>y b o (X3 (Z1 e)) e;exact h c _ x H w _ Q q (by simpa using g) d
def Vg (to ti:TE) (t:OM):TG:=λv σ H Q=>to σ H λo H1=>ti σ H1 λi H2=>t o i v H2 λH3=>Q σ H3
theorem BA {o i:Expr}{to c:TE}{t:OM} (q:PE X o to) (hi:PE X i c) (p:T6 X t)
  (l:∀v,assign (.Subscript o i pos) X.env v=(do
   let ov <-holding [v] (eval o X.env)
   let iv <-holding [v,ov] (eval i X.env)
   standAt pos
   holding [v,ov,iv] (setItem ov iv v)
   release [v,ov,iv] []):=by intro _;rfl):PG X (.Subscript o i pos) (Vg to c t):=by
 intro a s b H v u Q I r h;rw[l];refine Vzw (Vzs (thn (q a s b H _ I h) λov f ⟨x,d,m,A,B⟩=>?_));refine Vzw (Vzs (thn (hi a f b d _ m B) λiv e ⟨y,w,z,n,k⟩=>?_));refine Vzw (wpAny_standAt (Vzw (Vzs (thn (p a e b w x y v ov iv u _ z A n r k) λ_ _ ⟨j,g,q3⟩=>?_))));exact wpAny_release ⟨b,j,g,q3⟩
def Qp (te:TE) (g:TG):TS:=λD σ H=>te σ H λx H1=>g x σ H1 D.nx
theorem lV {e:Expr}{g:TG} (f:PE X e te) (i:PG X tg g) (l:swapsWithSole [tg] e pos.line X.env=pure false:=by rfl) (j:swappedStores [tg] e X.env=pure none:=by rfl)
  (h1:(assignEach [tg] X.env).map (·.2)=[assign tg X.env]:=by rfl):PS X (.Assign [tg] e pos) (Qp te g):=by
 intro a s b H D I h;refine wpAny_Assign_stores (thn (f a s b H _ I h) λv d ⟨x,c,k,m,n⟩=>?_) l j;rw[h1];exact thn (i a d b c x v _ k m n) λ_ _ q=>q
theorem aV {e:Expr} (c:X.N.Nodup) (hi:X.N[i]? = some x) (hx:Loc X.env.scope x) (d:PE X e te) (j:swapsWith e (some (.Name x pos')) pos.line X.env=pure false:=by rfl) (f:X.fn x=true\/X.env.scope.names.lookup x=some .local:=by first | exact .inl rfl | exact .inr rfl | assumption) :
  PS X (.Assign [.Name x pos'] e pos) (Qp te (bf i)):=by
 intro a s k H D I h;refine wpAny_Assign_Name (thn (d a s k H _ I h) λv _ ⟨y,b,g,m,n⟩=>?_) j;exact yX g c hi hx m (λ_ l=>⟨_,b,l,n⟩) f
structure It where
 go:Nat->Hp->Prop
 yld:Nat->Hp->V->Hp->Prop
 stop:Nat->Hp->Prop
def cN (X:Cx) (pins:List (Yau×Obj)) (H:Hp) (b:Yau):Prop:=
 H b=none/\b≠X.env.locals/\b∉X.fs/\(b∈X.ex\/X.s₀.heap.objs.size<=b)/\(∀x c,X.env.cells.lookup x=some c->c≠b)/\∀p∈X.pn++pins,p.1≠b
theorem Inv.nG {s:Vzx} (I:Inv X pins σ H s) (a:s.heap.objs.size<=b) (d:H' b=none):cN X pins H' b:=by
 refine⟨d,Y5 (X9 I.lt a),I.RJ a,.inr (XG I.sz a),λx c e z=>?_,λp f z=>?_⟩
 ·obtain⟨v,q⟩:=I.cell x c e;exact absurd (X9 q.lt (by rw[z];exact a)) (Zj _)
 ·exact absurd (X9 (Z1 (I.pin p f).1) (by rw[z];exact a)) (Zj _)
structure Turn (P:Yax) (w:Yay) (K:Vzz) (tg:Expr) (J:It) (fp:Qqx) (it:Yau) (tn:Nat->Heap->Prop):Prop where
 mem:it∈fp
 obj:∀i h,tn i h->∀b∈fp,∃o,h.get? b=some o/\∀v,o.data ≠ .cell v
 keep:∀i h h',tn i h->(∀b∈fp,∀o,h.get? b=some o->h'.get? b=some o)->tn i h'
 item:∀(X:Cx),X.prog=P->X.w=w->X.K=K->X.calm=true->∀(i:Nat) (pins:List (Yau×Obj)) (s:Vzx) (σ:St) (H:Hp) (E:Vzy->Vzx->Prop),Inv X pins σ H s->(∀b∈fp,cN X pins H b)->tn i s.heap->J.go i H ->
  Yb1 (model P w) X.A (pyNext (.ref it)) (λr s1=>∃u,r=some u /\
   Yb1 (model P w) X.A (letOwnedTupleGo tg (.ref it) u) (λ_ s2=>∃x H',Inv X pins σ H' s2/\RelV x u/\J.yld i H x H'/\tn (i+1) s2.heap/\∀b∈fp,H' b=none) E s1) E s
 done:∀(X:Cx),X.prog=P->X.w=w->X.K=K->X.calm=true->∀(i:Nat) (pins:List (Yau×Obj)) (s:Vzx) (σ:St) (H:Hp) (E:Vzy->Vzx->Prop),Inv X pins σ H s->(∀b∈fp,cN X pins H b)->tn i s.heap->J.stop i H ->
  Yb1 (model P w) X.A (pyNext (.ref it)) (λr s1=>r=none/\Inv X pins σ H s1) E s
 self:∀(A:Yaw) (i:Nat) (s:Vzx) (Q:Vzy->Vzx->Prop) (E:Vzy->Vzx->Prop),tn i s.heap->Q (.ref it) s->Yb1 (model P w) A (pyIter (.ref it)) Q E s
abbrev TI:=St->Hp->(It->Hp->Prop)->Prop
def PIE (X:Cx) (pins:List (Yau×Obj)) (σ:St) (tg:Expr) (R:It->Hp->Prop) (itv:Vzy) (s2:Vzx):Prop:=
 ∃(it:Yau) (fp:Qqx) (tn:Nat->Heap->Prop) (J:It) (H':Hp),itv = .ref it/\Inv X pins σ H' s2/\Turn X.prog X.w X.K tg J fp it tn/\tn 0 s2.heap/\(∀b∈fp,cN X pins H' b)/\R J H'
def PI (X:Cx) (tg iter:Expr) (wi:TI):Prop:=
 ∀(pins:List (Yau×Obj)) (s:Vzx) (σ:St) (H:Hp) (R:It->Hp->Prop),Inv X pins σ H s->wi σ H R ->
  Yb1 (model X.prog X.w) X.A (eval iter X.env) (λv s1=>Yb1 (model X.prog X.w) X.A (pyIter v) (PIE X pins σ tg R) X.xe s1) X.xe s
theorem Ey {s:Vzx}{o:Obj}{n:String}{vs:Qqw}{Q:Unit->Vzx->Prop} (d:s.heap.get? it=some o) (e:o.cls = .type n) (b:o.data = .fields vs)
  (c:["enumerate","zip","dict_itemiterator","dict_reverseitemiterator","odict_iterator","itertools.zip_longest","itertools.pairwise"].contains n=false) (a:Q () s):Yb1 M A (letOwnedTupleGo tg (.ref it) u) Q E s:=by
 unfold letOwnedTupleGo;cases tg <;> first
  | exact Vzv a
  | (cases u <;> first
    | exact Vzv a
    | (refine Vzw (wpAny_load d ?_)
       rw[e,b];show Yb1 M A (if (["enumerate","zip","dict_itemiterator","dict_reverseitemiterator","odict_iterator","itertools.zip_longest","itertools.pairwise"].contains n && vs[0]? == some (rawInt _))=true then _ else _) Q E s;rw[Yb8 (by intro h;rw[c,Bool.false_and]at h;cases h)];exact Vzv a))
def Itl (K:Vzz) (a:Yau):It:=
 ⟨λi H=>∃xs x,SqL K H a xs/\xs[i]? = some x,λi H x H'=>H' = H/\∀xs,SqL K H a xs->xs[i]? = some x,λi H=>∃xs,SqL K H a xs/\xs.length<=i⟩
def Itt (K:Vzz) (a:Yau):It:=
 ⟨λi H=>∃xs x,SqT K H a xs/\xs[i]? = some x,λi H x H'=>H' = H/\∀xs,SqT K H a xs->xs[i]? = some x,λi H=>∃xs,SqT K H a xs/\xs.length<=i⟩
def Itr (lo:Int) (n:Nat):It:=⟨λi _=>i<n,λi H x H'=>H' = H/\x = .int (lo+i),λi _=>n<=i⟩
theorem Gw {P:Yax} (a it:Yau):Turn P w K tg (Itl K a) [it] it (λi h=>h.IsListIter it a i) where
 mem:=by simp
 obj:=λi h f b g=>by
  have e:b=it:=by simpa using g
  subst e;obtain⟨o,e,c,d⟩:=f;exact⟨o,e,λv z=>by rw[d]at z;cases z⟩
 keep:=λi h F f k=>f.at λo e=>k it (by simp) o e
 item:=by
  intro X A C hK M i l s W H E I m f t;subst A C hK;obtain⟨T,x,n,J⟩:=t;obtain⟨q,B,p,Q⟩:=I.list n;obtain⟨u,U,V⟩:=B.get J;obtain⟨L,G,N,r,D,y⟩:=m it (by simp);refine wpAny_pyNext_list_item f p.isList (x:=u) (by simpa using U) λF j Y=>?_;have S:=I.turned (t':=s.toks) (λb o g e=>(Y.2 b g).trans e) L G r D y;obtain⟨o,e,c,d⟩:=id j;exact⟨u,rfl,Ey (s:={ s with heap:=F }) e c d (by decide) ⟨x,H,S,V,⟨rfl,λ_ R=>by rw[I.mU R n];exact J⟩,j,λb g=>(m b g).1⟩⟩
 done:=by
  intro X A C hK M i l s W H E I m f t;subst A C hK;obtain⟨T,n,J⟩:=t;obtain⟨q,B,p,Q⟩:=I.list n;obtain⟨L,G,N,r,D,y⟩:=m it (by simp);have Z:=B.length;exact wpAny_pyNext_list_end (I.ok.hd M) f p.isList (by simp;lia) λF O=>⟨rfl,I.turned (t':=s.toks) (λb o g e=>O b o g e) L G r D y⟩
 self:=λ_ _ _ _ _ f h=>wpAny_pyIter_listiter f h
theorem BH {P:Yax} (a it:Yau):Turn P w K tg (Itt K a) [it] it (λi h=>h.IsTupleIter it a i) where
 mem:=by simp
 obj:=λi h f b j=>by
  have e:b=it:=by simpa using j
  subst e;obtain⟨o,e,c,d⟩:=f;exact⟨o,e,λv z=>by rw[d]at z;cases z⟩
 keep:=λi h F f k=>f.at λo e=>k it (by simp) o e
 item:=by
  intro X A C hK M i m s W H E I n f t;subst A C hK;obtain⟨T,x,q,J⟩:=t;obtain⟨g,B,p,Q⟩:=I.tuple q;obtain⟨u,U,V⟩:=B.get J;obtain⟨L,G,N,r,D,y⟩:=n it (by simp);refine wpAny_pyNext_tuple_item f (show s.heap.IsTuple a g.toArray from p) (x:=u) (by simpa using U) λF l Y=>?_;have S:=I.turned (t':=s.toks) (λb o j e=>(Y.2 b j).trans e) L G r D y;obtain⟨o,e,c,d⟩:=id l;exact⟨u,rfl,Ey (s:={ s with heap:=F }) e c d (by decide) ⟨x,H,S,V,⟨rfl,λ_ R=>by rw[I.FY R q];exact J⟩,l,λb j=>(n b j).1⟩⟩
 done:=by
  intro X A C hK M i m s W H E I n f t;subst A C hK;obtain⟨T,q,J⟩:=t;obtain⟨g,B,p,Q⟩:=I.tuple q;obtain⟨L,G,N,r,D,y⟩:=n it (by simp);have Z:=B.length;exact wpAny_pyNext_tuple_end (I.ok.hd M) f (show s.heap.IsTuple a g.toArray from p) (by simp;lia) λF O=>⟨rfl,I.turned (t':=s.toks) (λb o j e=>O b o j e) L G r D y⟩
 self:=λ_ _ _ _ _ f h=>wpAny_pyIter_tupleiter f h
theorem B8 {P:Yax} (it:Yau) (lo:Int) (n:Nat):Turn P w K tg (Itr lo n) [it] it (λi h=>IsRangeIter h it (lo+(i:Nat) * 1) ((n:Int) - (i:Nat)) 1) where
 mem:=by simp
 obj:=λi h a b d=>by
  have e:b=it:=by simpa using d
  subst e;exact⟨_,a,λv z=>by
   have L:Data.fields _=Data.cell v:=z;cases L⟩
 keep:=λi h j a k=>k it (by simp) _ a
 item:=by
  intro X q u hK r i c s B H E I g a m;subst q u hK;obtain⟨A,y,D,l,x,p⟩:=g it (by simp);have W:=Walks.range (prog:=X.prog) (w:=X.w) (I.ok.hd r) it lo 1 n;refine W.item i s _ _ m a λv j C J f G=>?_;obtain⟨t,rfl⟩:=J;have M:Inv X c B H { s with heap:=j,toks:=C }:=I.turned (λb o d e=>G b o (by simpa using d) e) A y l x p;refine⟨_,rfl,Ey (s:={ s with heap:=j,toks:=C }) (n:= "range_iterator") f rfl rfl (by decide) ⟨.int (lo+i),H,M,⟨t,?_⟩,⟨rfl,rfl⟩,f,λb d=>(g b d).1⟩⟩;rw[Int.mul_one]
 done:=by
  intro X q u hK r i c s B H E I g a m;subst q u hK;obtain⟨A,y,D,l,x,p⟩:=g it (by simp);exact wpAny_pyNext_range_end (I.ok.hd r) a (by have:n<=i:=m;lia) λj F=>⟨rfl,I.turned (t':=s.toks) (λb o d e=>F b o d e) A y l x p⟩
 self:=λ_ _ _ _ _ a h=>wpAny_pyIter_rangeiter a h
def y7 (K:Vzz) (tl:TE):TI:=λσ H R=>tl σ H λx H1=>∃a,x = .ref a/\(∃xs,SqL K H1 a xs)/\R (Itl K a) H1
def V0 (K:Vzz) (tl:TE):TI:=λσ H R=>tl σ H λx H1=>∃a,x = .ref a/\(∃xs,SqT K H1 a xs)/\R (Itt K a) H1
theorem aI {l:Expr} (g:PE X l tl):PI X tg l (y7 X.K tl):=by
 intro c s i H R I h;refine thn (g c s i H _ I h) λv s1 ⟨x,f,d,m,n⟩=>?_;obtain⟨a,e,⟨_,k⟩,q⟩:=n;subst e;cases m;obtain⟨_,_,p,_⟩:=d.list k;refine wpAny_pyIter_list p.isList ?_;refine⟨s1.heap.objs.size,[s1.heap.objs.size],_,_,f,rfl,d.kept (t':=s1.toks) λb o e=>Vzu _ e,Gw a _,⟨_,Z0 _ rfl,rfl,rfl⟩,λb j=>?_,q⟩;have e:b=s1.heap.objs.size:=by simpa using j
 subst e;exact d.nG (XD _) (d.hok.fresh (XD _))
theorem Qv {l:Expr} (i:PE X l tl):PI X tg l (V0 X.K tl):=by
 intro c s j H R I h;refine thn (i c s j H _ I h) λv s1 ⟨x,g,d,n,r⟩=>?_;obtain⟨a,e,⟨_,m⟩,q⟩:=r;subst e;cases n;obtain⟨f,_,p,_⟩:=d.tuple m;refine wpAny_pyIter_tuple (show s1.heap.IsTuple a f.toArray from p) ?_;refine⟨s1.heap.objs.size,[s1.heap.objs.size],_,_,g,rfl,d.kept (t':=s1.toks) λb o e=>Vzu _ e,BH a _,⟨_,Z0 _ rfl,rfl,rfl⟩,λb k=>?_,q⟩;have e:b=s1.heap.objs.size:=by simpa using k
 subst e;exact d.nG (XD _) (d.hok.fresh (XD _))
theorem IL {s:Vzx}{R:It->Hp->Prop}{t u v:Tok}{tk:Nat} (I:Inv X pins σ H s) (h1 : -(2 ^ 62)<=lo) (h2:lo<2 ^ 62) (h : -(2 ^ 62)<=hi) (d:hi<2 ^ 62)
  (q:R (Itr lo (hi - lo).toNat) H):Yb1 (model X.prog X.w) X.A (pyIter (.ref s.heap.objs.size)) (PIE X pins σ tg R) E { s with heap:=s.heap.push { cls:=.type "range",data:=.fields #[.int lo t,.int hi u,.int 1 v] },toks:=tk }:=by
 refine wpAny_pyIter_range (IsRange.new ..) (small_one h1 h2 h d) ?_;have a:Inv X pins σ H { s with heap:=s.heap.push { cls:=.type "range",data:=.fields #[.int lo t,.int hi u,.int 1 v] },toks:=tk }:=I.kept λb o e=>Vzu _ e;refine⟨(s.heap.push { cls:=.type "range",data:=.fields #[.int lo t,.int hi u,.int 1 v] }).objs.size,[(s.heap.push { cls:=.type "range",data:=.fields #[.int lo t,.int hi u,.int 1 v] }).objs.size],_,_,H,rfl,
  a.kept (t':=tk) λb o e=>Vzu _ e,B8 _ lo (hi - lo).toNat,?_,λb c=>?_,q⟩
 ·have f:lo+((0:Nat):Int) * 1=lo:=by simp
  have g:(((hi - lo).toNat:Nat):Int) - ((0:Nat):Int)=Builtin.Range.rangeSize lo hi 1:=by rw[rangeSize_one];split <;> lia
  show IsRangeIter _ _ (lo+((0:Nat):Int) * 1) ((((hi - lo).toNat:Nat):Int) - ((0:Nat):Int)) 1;rw[f,g];exact Z0 _ rfl
 ·have e:b=(s.heap.push { cls:=.type "range",data:=.fields #[.int lo t,.int hi u,.int 1 v] }).objs.size:=by simpa using c
  subst e;exact a.nG (XD _) (a.hok.fresh (XD _))
def Ri (ta:TA):TI:=λσ H R=>ta σ H λvs H1=>∃j:Int,vs=[.int j] /\ -(2 ^ 62)<=j/\j<2 ^ 62/\R (Itr 0 j.toNat) H1
theorem d4 {a:Expr}{ta:TA}{p pos:Pos} (d:Gl X "range") (n:X.mg "range" = none) (i:PA X [a] ta) (l:Yb2 [a] X.env=[(false,eval a X.env)]:=by rfl):PI X tg (.Call (.Name "range" p) [a] [] pos) (Ri ta):=by
 intro b s m H R I h;refine Call_ (eN I d n boot_range (W0 (thn (i pos b s m H _ I h) λ_ _ ⟨_,_,k,o,c⟩=>?_) l rfl));obtain⟨j,e,c,g,q⟩:=c;subst e;cases o with
 | cons r f=>
  cases f;obtain⟨t,rfl⟩:=r;exact call_range_1 (IL k (by lia) (by lia) c g (by simpa using q))
def U0 (wi:TI) (g:TG) (tb:TS):TS:=λD σ H=>wi σ H λJ H1=>∃W:Nat->Nat->St->Hp->Prop,(∃m,W 0 m σ H1)/\∀i m σ H,W i m σ H ->
 (J.stop i H/\D.nx σ H)\/(J.go i H/\∃N:St->Hp->Prop,(∀σ' H',N σ' H'->∃m',m' < m/\W (i+1) m' σ' H')/\∀x H',J.yld i H x H'->g x σ H' λσ2 H2=>tb { D with nx:=N,ct:=N,bk:=D.nx } σ2 H2)
def rm (fp:Qqx) (h:Heap):List (Yau×Obj):=fp.filterMap λb=>(h.get? b).map λo=>(b,o)
theorem jd {o:Obj} (hb:b∈fp) (e:h.get? b=some o):(b,o)∈rm fp h:=ZE.mpr ⟨b,hb,by rw[e];rfl⟩
theorem FI {p:Yau×Obj} (d:p∈rm fp h):p.1∈fp/\h.get? p.1=some p.2:=by
 obtain⟨b,c,e⟩:=ZE.mp d;cases q:h.get? b with
 | none=>rw[q]at e;cases e
 | some o=>
  rw[q]at e;have a:=Uf e;subst a;exact⟨c,q⟩
theorem Inv.pinned {s:Vzx} (I:Inv X pins σ H s) (f:∀b∈fp,cN X pins H b) (i:∀b∈fp,∃o,s.heap.get? b=some o/\∀v,o.data ≠ .cell v):Inv X (pins++rm fp s.heap) σ H s:=
 I.nZ λp h=>(XU.mp h).elim (λz=>I.pin p (Yb _ z)) λz=>by
  obtain⟨c,e⟩:=FI z;obtain⟨k,g,j,_⟩:=f p.1 c;obtain⟨o,a,d⟩:=i p.1 c;rw[e]at a;cases a;exact⟨e,k,g,j,d⟩
theorem Inv.gC {pl:List (Yau×Obj)}{s:Vzx} (I:Inv X (pins++pl) σ H s):Inv X pins σ H s:=I.nZ λp hp=>I.pin p (Yb _ (Ys _ hp))
theorem gQ {t:List Stmt}{wi:TI}{g:TG}{tb:TS}{pos:Pos} (M:PassesOwn (model X.prog X.w) X.A X.env X.xe) (hc:X.calm=true) (hi:PI X tg iter wi) (hg:PG X tg g) (q:PSs X t tb)
  (hs:∀x,foldedSetIterable iter X.env x=pure x:=by intro _;rfl):PS X (.For tg iter t [] pos) (U0 wi g tb):=by
 intro c s σ H D I h;refine wpAny_For (thn (hi c s σ H _ I h) λv _ h1=>thn h1 λ_ _ h2=>?_) hs;obtain⟨_,K,tn,J,H2,e,I2,T,P,f2,W,⟨m0,w0⟩,F⟩:=h2;subst e;have V:∀{H':Hp},(∀b∈K,H' b=none)->∀b∈K,cN X c H' b:=λhn b q=>⟨hn b q,(f2 b q).2⟩;refine codeAny_forLoop_any (λn s'=>∃i σ' H',Inv X c σ' H' s'/\tn i s'.heap/\(∀b∈K,H' b=none)/\W i n σ' H') ?_ m0 ⟨0,σ,H2,I2,P,λb q=>(f2 b q).1,w0⟩;rintro n s3 ⟨i,p,O,Z,C,B,w3⟩;rcases F i n p O w3 with⟨E,qn⟩ | ⟨go,N,hN,G⟩
 ·refine wpAny_passesOwn M (thn (T.done X rfl rfl rfl hc i c s3 p O X.xe Z (V B) C E) λr s4 ⟨R,I4⟩=>?_);subst R;exact wpAny_execs_nil ⟨p,O,I4,qn⟩
 ·refine wpAny_passesOwn M (thn (T.item X rfl rfl rfl hc i c s3 p O X.xe Z (V B) C go) λr s4 ⟨u,R,h4⟩=>?_);subst R;refine wpAny_passesOwn M (thn h4 λ_ s5 ⟨x,H5,I5,r5,y5,z,U⟩=>?_);have Q:=I5.pinned (V U) (T.obj _ _ z);refine wpAny_passesOwn M (thn (hg _ s5 p H5 x u _ Q r5 (G x H5 y5)) λ_ s6 ⟨Y,H6,I6,q6⟩=>?_);refine wpAny_passesOwn M (thn (q _ s6 Y H6 _ I6 q6) λf S y=>?_);have j:∀{a:St}{k:Hp},Inv X (c++rm K s5.heap) a k S->N a k->∃m,m<n/\∃i σ' H',Inv X c σ' H' S/\tn i S.heap/\(∀b∈K,H' b=none)/\W i m σ' H':=λ{a k} l L=>by
   obtain⟨m',hm,w7⟩:=hN a k L;refine⟨m',hm,i+1,a,k,l.gC,T.keep _ _ _ z λb q o e=>(l.pin (b,o) (Yb _ (Yb _ (jd q e)))).1,λb q=>?_,w7⟩;obtain⟨o,e,d⟩:=T.obj _ _ z b q;exact(l.pin (b,o) (Yb _ (Yb _ (jd q e)))).2.1
  cases f with
  | next=>obtain⟨a,k,l,L⟩:=y;exact j l L
  | cont=>obtain⟨a,k,l,L⟩:=y;exact j l L
  | brk=>obtain⟨a,k,l,y⟩:=y;exact⟨a,k,l.gC,y⟩
  | ret v=>obtain⟨x7,a,k,l,r7,y⟩:=y;exact⟨x7,a,k,l.gC,r7,y⟩
theorem iI {g:TG}{tb:TS}{D:Ends} (b:Nat->St->Hp->Prop) (d:b 0 σ H) (f:∀i σ H,i<=xs.length->b i σ H->SqL K H a xs)
  (j:∀i x σ H,xs[i]? = some x->b i σ H->g x σ H λσ2 H2=>tb { D with nx:=b (i+1),ct:=b (i+1),bk:=D.nx } σ2 H2) (h:∀σ H,b xs.length σ H->D.nx σ H) :
  ∃W:Nat->Nat->St->Hp->Prop,(∃m,W 0 m σ H)/\∀i m σ H,W i m σ H ->
   ((Itl K a).stop i H/\D.nx σ H)\/((Itl K a).go i H/\∃N:St->Hp->Prop,(∀σ' H',N σ' H'->∃m',m' < m/\W (i+1) m' σ' H')/\∀x H',(Itl K a).yld i H x H'->g x σ H' λσ2 H2=>tb { D with nx:=N,ct:=N,bk:=D.nx } σ2 H2):=by
 refine⟨λi m σ H=>m=xs.length - i/\i<=xs.length/\b i σ H,⟨xs.length,by simp,XT _,d⟩,?_⟩;rintro i m σ H ⟨rfl,k,p⟩;have q:=f i σ H k p;by_cases c:i<xs.length
 ·refine .inr ⟨⟨xs,xs[i],q,by simp[c]⟩,b (i+1),λσ' H' p'=>⟨xs.length - (i+1),by lia,rfl,c,p'⟩,λx H' y=>?_⟩;obtain⟨e,y⟩:=y;subst e;exact j i x σ _ (y xs q) p
 ·have e:i=xs.length:=by lia
  subst e;exact .inl ⟨⟨xs,q,XD _⟩,h σ H p⟩
theorem we {g:TG}{tb:TS}{D:Ends} (a:Nat->St->Hp->Prop) (c:a 0 σ H)
  (f:∀i σ H,i<n->a i σ H->g (.int (lo+i)) σ H λσ2 H2=>tb { D with nx:=a (i+1),ct:=a (i+1),bk:=D.nx } σ2 H2) (d:∀σ H,a n σ H->D.nx σ H) :
  ∃W:Nat->Nat->St->Hp->Prop,(∃m,W 0 m σ H)/\∀i m σ H,W i m σ H ->
   ((Itr lo n).stop i H/\D.nx σ H)\/((Itr lo n).go i H/\∃N:St->Hp->Prop,(∀σ' H',N σ' H'->∃m',m' < m/\W (i+1) m' σ' H')/\∀x H',(Itr lo n).yld i H x H'->g x σ H' λσ2 H2=>tb { D with nx:=N,ct:=N,bk:=D.nx } σ2 H2):=by
 refine⟨λi m σ H=>m=n - i/\i<=n/\a i σ H,⟨n,by simp,XT _,c⟩,?_⟩;rintro i m σ H ⟨rfl,_,p⟩;by_cases b:i<n
 ·refine .inr ⟨b,a (i+1),λσ' H' p'=>⟨n - (i+1),by lia,rfl,b,p'⟩,λx H' y=>?_⟩;obtain⟨e,y⟩:=y;subst e y;exact f i σ _ b p
 ·have e:i=n:=by lia
  subst e;exact .inl ⟨XD _,d σ H p⟩
abbrev R2:=V->V->Hp->VK->Prop
def OpR (X:Cx) (f:Vzy->Vzy->Sem Vzy) (r:R2):Prop:=
 ∀(pins:List (Yau×Obj)) (s:Vzx) (σ:St) (H:Hp) (x y:V) (v u:Vzy) (Q:VK),Inv X pins σ H s->RelV x v->RelV y u->r x y H Q ->
  Yb1 (model X.prog X.w) X.A (f v u) (EP X pins σ Q) X.xe s
def UnR (X:Cx) (f:Vzy->Sem Vzy) (r:V->Hp->VK->Prop):Prop:=
 ∀(pins:List (Yau×Obj)) (s:Vzx) (σ:St) (H:Hp) (x:V) (v:Vzy) (Q:VK),Inv X pins σ H s->RelV x v->r x H Q ->
  Yb1 (model X.prog X.w) X.A (f v) (EP X pins σ Q) X.xe s
def fV (X:Cx) (f:Vzy) (r:Qqt->Hp->VK->Prop):Prop:=
 ∀(pins:List (Yau×Obj)) (s:Vzx) (σ:St) (H:Hp) (xs:Qqt) (us:Qqz) (Q:VK),Inv X pins σ H s->aO xs us->r xs H Q ->
  Yb1 (model X.prog X.w) X.A (call f us) (EP X pins σ Q) X.xe s
def U5 (X:Cx) (r:V->Hp->(Bool->Hp->Prop)->Prop):Prop:=
 ∀(pins:List (Yau×Obj)) (s:Vzx) (σ:St) (H:Hp) (x:V) (v:Vzy) (Q:Bool->Hp->Prop),Inv X pins σ H s->RelV x v->r x H Q ->
  Yb1 (model X.prog X.w) X.A (truthy v) (TP X pins σ Q) X.xe s
def tOp (r:R2) (ta tb:TE):TE:=λσ H Q=>ta σ H λx H1=>tb σ H1 λy H2=>r x y H2 Q
def tUn (r:V->Hp->VK->Prop) (ta:TE):TE:=λσ H Q=>ta σ H λx H1=>r x H1 Q
def rI (C:Int->Int->Prop) (g:Int->Int->V):R2:=λx y H Q=>∃i j,x = .int i/\y = .int j/\C i j/\Q (g i j) H
def rI0 (g:Int->Int->V):R2:=λx y H Q=>∃i j,x = .int i/\y = .int j/\Q (g i j) H
def rU (g:Int->V):V->Hp->VK->Prop:=λx H Q=>∃i,x = .int i/\Q (g i) H
section
variable {a b c:Expr}{tb:TE}
theorem Qo (i:PE X a ta) (k:PE X b tb) {s:Vzx}{R:V->V->Hp->Prop} (I:Inv X pins σ H s)
  (h:ta σ H λx H1=>tb σ H1 λy H2=>R x y H2) {Q:Vzy->Vzx->Prop}{f:Vzy->Vzy->Sem Vzy}
  (d:∀v u s2 x y H2,Inv X pins σ H2 s2->RelV x v->RelV y u->R x y H2->Yb1 (model X.prog X.w) X.A (f v u) Q X.xe s2) :
  Yb1 (model X.prog X.w) X.A (eval a X.env) (λv s₁=>Yb1 (model X.prog X.w) X.A (eval b X.env) (λu s₂=>Yb1 (model X.prog X.w) X.A (f v u) Q X.xe s₂) X.xe s₁) X.xe s:=by
 refine thn (i pins s σ H _ I h) λv m ⟨x,H1,g,l,n⟩=>?_;refine thn (k pins m σ H1 _ g n) λu s2 ⟨y,H2,e,j,c⟩=>?_;exact d v u s2 x y H2 e l j c
theorem bU {op:Operator}{r:R2} (i:OpR X (binaryOp op) r) (g:PE X a ta) (m:PE X b tb):PE X (.BinOp a op b pos) (tOp r ta tb):=by
 intro c s k H Q I h;exact wpAny_BinOp (Qo g m I h λv u e x y j l f d q=>i c e k j x y v u Q l f d q)
theorem EN {op:UnaryOp}{r:V->Hp->VK->Prop} (d:UnR X (unaryOp op) r) (f:PE X a ta):PE X (.UnaryOp op a pos) (tUn r ta):=by
 intro b s c H Q I h;exact UnaryOp_ (thn (f b s c H _ I h) λv j ⟨x,e,g,i,k⟩=>d b j c e x v Q g i k)
theorem opI {f:Vzy->Vzy->Sem Vzy}{C:Int->Int->Prop}{g:Int->Int->Int}
  (a:∀(i j:Int) (t u:Tok) (s:Vzx) (Q:Vzy->Vzx->Prop) (E:Vzy->Vzx->Prop),C i j->Q (.int (g i j) s.toks) { s with toks:=s.toks+1 }->Yb1 (model X.prog X.w) X.A (f (.int i t) (.int j u)) Q E s) :
  OpR X f (rI C λi j=>.int (g i j)):=by
 intro _ s _ H x y v u Q I d b h;obtain⟨i,j,rfl,rfl,c,q⟩:=h;obtain⟨t,rfl⟩:=d;obtain⟨e,rfl⟩:=b;exact a i j t e s _ _ c ⟨.int (g i j),H,I.tok _,⟨_,rfl⟩,q⟩
theorem Tg {f:Vzy->Vzy->Sem Vzy}{g:Int->Int->Int}
  (a:∀(i j:Int) (t u:Tok) (s:Vzx) (Q:Vzy->Vzx->Prop) (E:Vzy->Vzx->Prop),Q (.int (g i j) s.toks) { s with toks:=s.toks+1 }->Yb1 (model X.prog X.w) X.A (f (.int i t) (.int j u)) Q E s) :
  OpR X f (rI0 λi j=>.int (g i j)):=by
 intro _ s _ H x y v u Q I c b h;obtain⟨i,j,rfl,rfl,q⟩:=h;obtain⟨t,rfl⟩:=c;obtain⟨d,rfl⟩:=b;exact a i j t d s _ _ ⟨.int (g i j),H,I.tok _,⟨_,rfl⟩,q⟩
theorem Nb {f:Vzy->Vzy->Sem Vzy}{g:Int->Int->Bool}
  (a:∀(i j:Int) (t u:Tok) (s:Vzx) (Q:Vzy->Vzx->Prop) (E:Vzy->Vzx->Prop),Q (.bool (g i j)) s->Yb1 (model X.prog X.w) X.A (f (.int i t) (.int j u)) Q E s) :
  OpR X f (rI0 λi j=>.bl (g i j)):=by
 intro _ s _ H x y v u Q I c b h;obtain⟨i,j,rfl,rfl,q⟩:=h;obtain⟨t,rfl⟩:=c;obtain⟨d,rfl⟩:=b;exact a i j t d s _ _ ⟨.bl (g i j),H,I,rfl,q⟩
def Wm (i j:Int):Prop:=0<j/\j<1073741824
def Wl (i j:Int):Prop:=0<=j/\j<=1000000/\i.natAbs<2 ^ 64
def Qb (i j:Int):Prop:=(-(2 ^ 64)<i/\i<2 ^ 64)\/(-(2 ^ 64)<j/\j<2 ^ 64)
theorem Qb.ok {i j:Int} (h:Qb i j):IntMulOk i j:=by
 rcases h with⟨h1,h2⟩ | ⟨h1,h2⟩
 ·exact .of_left (intBits_le_64 h1 h2)
 ·exact .of_right (intBits_le_64 h1 h2)
theorem gR:OpR X (binaryOp .Add) (rI0 λi j=>.int (i+j)):=Tg λ_ _ _ _ _ _ _ q=>add_int q
theorem Cj:OpR X (binaryOp .Sub) (rI0 λi j=>.int (i - j)):=Tg λ_ _ _ _ _ _ _ q=>sub_int q
theorem IM:OpR X (binaryOp .Mult) (rI Qb λi j=>.int (i * j)):=opI λ_ _ _ _ _ _ _ hc q=>mul_int q hc.ok
theorem DQ:OpR X (binaryOp .FloorDiv) (rI Wm λi j=>.int (i / j)):=opI λi j _ _ _ _ _ a q=>by
 have b:=a.1;have c:=a.2;exact floordiv_int (by lia) (by rw[Int.fdiv_eq_ediv_of_nonneg i (by lia)];exact q) (.inl (PyProof.noPylong_small (by lia)))
theorem oX:OpR X (binaryOp .Mod) (rI (λ_ j=>0<j) λi j=>.int (i % j)):=opI λi j _ _ _ _ _ hc q=>by
 have h1:=hc;exact mod_int' (by lia) (by rw[Int.fmod_eq_emod_of_nonneg i (by lia)];exact q)
theorem wX:OpR X (binaryOp .Pow) (rI Wl λi j=>.int (i ^ j.toNat)):=opI λ_ _ _ _ _ _ _ hc q=>pow_int_small hc.1 hc.2.1 hc.2.2 q
theorem unI {f:Vzy->Sem Vzy}{g:Int->Int}
  (a:∀(i:Int) (t:Tok) (s:Vzx) (Q:Vzy->Vzx->Prop) (E:Vzy->Vzx->Prop),Q (.int (g i) s.toks) { s with toks:=s.toks+1 }->Yb1 (model X.prog X.w) X.A (f (.int i t)) Q E s) :
  UnR X f (rU λi=>.int (g i)):=by
 intro _ s _ H x v Q I b h;obtain⟨i,rfl,q⟩:=h;obtain⟨t,rfl⟩:=b;exact a i t s _ _ ⟨.int (g i),H,I.tok _,⟨_,rfl⟩,q⟩
theorem yx:UnR X (unaryOp .USub) (rU λi=>.int (-i)):=unI λ_ _ _ _ _ q=>neg_int q
end
def Us:V->V->Bool
 | .non,.non=>true | .non,.int _=>true | .int _,.non=>true | .non,.bl _=>true | .bl _,.non=>true | .non,.str _=>true | .str _,.non=>true
 | .int _,.int _=>true | .bl _,.bl _=>true | .str _,.str _=>true | .byt _,.byt _=>true
 | .int _,.str _=>true | .str _,.int _=>true | .bl _,.str _=>true | .str _,.bl _=>true
 | _,_=>false
def rEq:R2:=λx y H Q=>Us x y=true/\Q (.bl (decide (x=y))) H
def rNe:R2:=λx y H Q=>Us x y=true/\Q (.bl (!decide (x=y))) H
theorem EW {i j:Int}:decide (V.int i=V.int j)=(i == j):=by
 rw[Yc];simp
theorem J1 {i j:Bool}:decide (V.bl i=V.bl j)=(i == j):=by
 rw[Yc];simp
theorem EK {i j:Str}:decide (V.str i=V.str j)=(i == j):=by
 rw[Yc];simp
theorem EO {i j:Array UInt8}:decide (V.byt i=V.byt j)=(i.toList == j.toList):=by
 rw[Yc];cases i;cases j;simp
section
variable {a b c:Expr}{tb:TE}
theorem bx {s:Vzx}{Q:VK}{k k':Bool} (I:Inv X pins σ H s) (q:Q (.bl k) H) (e:k=k'):EP X pins σ Q (.bool k') s:=by
 subst e;exact⟨.bl k,H,I,rfl,q⟩
theorem gE:OpR X (compareOp .Eq) rEq:=by
 intro _ s _ H x y v u Q I d a h;obtain⟨c,q⟩:=h;cases x with
 | non=>
  cases d;cases y with
  | non=>cases a;exact PySem.EqNone.eq_none_none (bx I q (by simp))
  | bl j=>cases a;exact PySem.EqNone.eq_none_bool (bx I q (by simp))
  | int j=>obtain⟨b,rfl⟩:=a;exact PySem.EqNone.eq_none_int (bx I q (by simp))
  | str j=>obtain⟨b,rfl⟩:=a;exact PySem.EqNone.eq_none_str (bx I q (by simp))
  | _=>exact absurd (show false=true from c) XN
 | bl i=>
  cases d;cases y with
  | non=>cases a;exact PySem.EqNone.eq_bool_none (bx I q (by simp))
  | bl j=>cases a;exact eq_bool (bx I q J1)
  | str j=>obtain⟨b,rfl⟩:=a;exact PySem.EqMixed.eq_bool_str (bx I q (by simp))
  | _=>exact absurd (show false=true from c) XN
 | int i=>
  obtain⟨t,rfl⟩:=d;cases y with
  | non=>cases a;exact PySem.EqNone.eq_int_none (bx I q (by simp))
  | int j=>obtain⟨b,rfl⟩:=a;exact eq_int (bx I q EW)
  | str j=>obtain⟨b,rfl⟩:=a;exact PySem.EqMixed.eq_int_str (bx I q (by simp))
  | _=>exact absurd (show false=true from c) XN
 | str i=>
  obtain⟨t,rfl⟩:=d;cases y with
  | non=>cases a;exact PySem.EqNone.eq_str_none (bx I q (by simp))
  | bl j=>cases a;exact PySem.EqMixed.eq_str_bool (bx I q (by simp))
  | int j=>obtain⟨b,rfl⟩:=a;exact PySem.EqMixed.eq_str_int (bx I q (by simp))
  | str j=>obtain⟨b,rfl⟩:=a;exact eq_str (bx I q EK)
  | _=>exact absurd (show false=true from c) XN
 | byt i=>
  obtain⟨t,rfl⟩:=d;cases y with
  | byt j=>obtain⟨b,rfl⟩:=a;exact W.eq_bytes (bx I q EO)
  | _=>exact absurd (show false=true from c) XN
 | _=>cases y <;> exact absurd (show false=true from c) XN
theorem px:OpR X (compareOp .NotEq) rNe:=by
 intro _ s _ H x y v u Q I d a h;obtain⟨c,q⟩:=h;cases x with
 | non=>
  cases d;cases y with
  | non=>cases a;exact PySem.EqNone.ne_none_none (bx I q (by simp))
  | bl j=>cases a;exact PySem.EqNone.ne_none_bool (bx I q (by simp))
  | int j=>obtain⟨b,rfl⟩:=a;exact PySem.EqNone.ne_none_int (bx I q (by simp))
  | str j=>obtain⟨b,rfl⟩:=a;exact PySem.EqNone.ne_none_str (bx I q (by simp))
  | _=>exact absurd (show false=true from c) XN
 | bl i=>
  cases d;cases y with
  | non=>cases a;exact PySem.EqNone.ne_bool_none (bx I q (by simp))
  | bl j=>cases a;exact ne_bool (bx I q (congrArg not J1))
  | str j=>obtain⟨b,rfl⟩:=a;exact PySem.EqMixed.ne_bool_str (bx I q (by simp))
  | _=>exact absurd (show false=true from c) XN
 | int i=>
  obtain⟨t,rfl⟩:=d;cases y with
  | non=>cases a;exact PySem.EqNone.ne_int_none (bx I q (by simp))
  | int j=>obtain⟨b,rfl⟩:=a;exact ne_int (bx I q (congrArg not EW))
  | str j=>obtain⟨b,rfl⟩:=a;exact PySem.EqMixed.ne_int_str (bx I q (by simp))
  | _=>exact absurd (show false=true from c) XN
 | str i=>
  obtain⟨t,rfl⟩:=d;cases y with
  | non=>cases a;exact PySem.EqNone.ne_str_none (bx I q (by simp))
  | bl j=>cases a;exact PySem.EqMixed.ne_str_bool (bx I q (by simp))
  | int j=>obtain⟨b,rfl⟩:=a;exact PySem.EqMixed.ne_str_int (bx I q (by simp))
  | str j=>obtain⟨b,rfl⟩:=a;exact ne_str (bx I q (congrArg not EK))
  | _=>exact absurd (show false=true from c) XN
 | byt i=>
  obtain⟨t,rfl⟩:=d;cases y with
  | byt j=>obtain⟨b,rfl⟩:=a;exact W.ne_bytes (bx I q (congrArg not EO))
  | _=>exact absurd (show false=true from c) XN
 | _=>cases y <;> exact absurd (show false=true from c) XN
theorem sY:OpR X (compareOp .Lt) (rI0 λi j=>.bl (decide (i<j))):=Nb λ_ _ _ _ _ _ _ q=>lt_int q
theorem wx:OpR X (compareOp .LtE) (rI0 λi j=>.bl (decide (i<=j))):=Nb λ_ _ _ _ _ _ _ q=>le_int q
theorem Oe:OpR X (compareOp .Gt) (rI0 λi j=>.bl (decide (j<i))):=Nb λ_ _ _ _ _ _ _ q=>gt_int q
theorem DK:OpR X (compareOp .GtE) (rI0 λi j=>.bl (decide (j<=i))):=Nb λ_ _ _ _ _ _ _ q=>ge_int q
theorem CV:OpR X (compareOp .Is) (λx y H Q=>y = .non/\Q (.bl (decide (x = .non))) H):=by
 intro _ s _ H x y v u Q I a b h;obtain⟨rfl,q⟩:=h;cases b;refine is_none_gen (bx I q ?_);cases x <;> first
  | (cases a;rfl)
  | (obtain⟨t,rfl⟩:=a;rfl)
theorem JY (b:Expr) {op:CmpOp} (h:op ≠ .In:=by decide) (h2:op ≠ .NotIn:=by decide):behindInMarks op b=false:=by
 have a:(op == CmpOp.In)=false:=by cases op <;> first | rfl | exact absurd rfl h
 have e2:(op == CmpOp.NotIn)=false:=by cases op <;> first | rfl | exact absurd rfl h2
 cases b <;> simp[behindInMarks,a,e2]
theorem qM {op:CmpOp}{r:R2} (i:OpR X (compareOp op) r) (g:PE X a ta) (n:PE X b tb) (l:behindInMarks op b=false):PE X (.Compare a [op] [b] pos) (tOp r ta tb):=by
 intro c s k H Q I h;exact wpAny_Compare1 (Qo g n I h λv u e x y j m f d q=>i c e k j x y v u Q m f d q) l
def ud (t:TE):TT:=λσ H Q=>t σ H λx H'=>∃k,x = .bl k/\Q k H'
theorem ju {op:CmpOp}{r:R2} (w:OpR X (compareOp op) r) (p:PE X a ta) (D:PE X b tb) (B:behindInMarks op b=false):PT X (.Compare a [op] [b] pos) (ud (tOp r ta tb)):=by
 intro d s f H Q I h;refine wpAny_isTrue_Compare1 (thn (p d s f H _ I h) λv j ⟨x,g,q,E,F⟩=>thn (D d j f g _ q F) λu i ⟨y,A,C,t,n⟩=>
  thn (w d i f A x y v u _ C E t n) λc _ ⟨z,m,l,o,k,e,q3⟩=>?_) B
 subst e;cases o;exact wpAny_truthy_bool ⟨m,l,q3⟩
def w8 (r r':R2) (ta tb tc:TE):TE:=λσ H Q=>ta σ H λx H1=>tb σ H1 λy H2=>r x y H2 λz H3=>∃k,z = .bl k /\
 (if k=true then tc σ H3 λw' H4=>r' y w' H4 Q else Q (.bl false) H3)
theorem A7 {op g:CmpOp}{r o:R2} (K:OpR X (compareOp op) r) (j:OpR X (compareOp g) o) (G:PE X a ta) (T:PE X b tb) (C:PE X c tc)
  (O:lastMarks [op,g] [b,c]=false:=by with_unfolding_all rfl):PE X (.Compare a [op,g] [b,c] pos) (w8 r o ta tb tc):=by
 intro f s i H Q I h;refine Compare_chain (thn (G f s i H _ I h) λv B ⟨x,q,J,U,V⟩=>chain_link (thn (T f B i q _ J V) λu w ⟨y,L,M,n,D⟩=>
  thn (K f w i L x y v u _ M U n D) λd p ⟨z,m,l,E,k,e,q3⟩=>?_)) O
 subst e;cases E;refine wpAny_truthy_bool ?_;cases k with
 | false=>exact ite_ff ⟨.bl false,m,l,rfl,q3⟩
 | true=>exact ite_tt (chain_last (thn (C f p i m _ l q3) λP t ⟨F,N,A,R,S⟩=>j f t i N y F u P Q A n R S))
theorem rD {op g:CmpOp}{r o:R2} (P:OpR X (compareOp op) r) (j:OpR X (compareOp g) o) (O:PE X a ta) (hb:PE X b tb) (G:PE X c tc)
  (U:lastMarks [op,g] [b,c]=false:=by with_unfolding_all rfl):PT X (.Compare a [op,g] [b,c] pos) (ud (w8 r o ta tb tc)):=by
 intro f s i H Q I h;refine isTrue_chain (thn (O f s i H _ I h) λv C ⟨x,t,N,r1,q1⟩=>test_link (thn (hb f C i t _ N q1) λu A ⟨y,R,S,n,J⟩=>
  thn (P f A i R x y v u _ S r1 n J) λd q ⟨z,m,l,K,k,e,q3⟩=>?_)) U
 subst e;cases K;refine wpAny_truthy_bool ?_;cases k with
 | false=>
  obtain⟨_,M,q'⟩:=q3;cases M;exact ite_ff ⟨m,l,q'⟩
 | true=>
  refine ite_tt (test_last (thn (G f q i m _ l q3) λV w ⟨L,T,B,W,Y⟩=>thn (j f w i T y L u V _ B n W Y) λ_ _ ⟨_,E,Z,D,_,F,p⟩=>?_));subst F;cases D;exact wpAny_truthy_bool ⟨E,Z,p⟩
def M3 (K:Vzz) (x:V) (H:Hp) (k:Bool):Prop:=
 match x with
 | .non=>k=false
 | .bl b=>k=b
 | .int i=>k=(i != 0)
 | .str y=>y.length<=Yb0/\k=((y.length:Int) != 0)
 | .byt y=>y.size<=Yb0/\k=((y.size:Int) != 0)
 | .ref p=>(∃xs,SqL K H p xs/\k = !xs.isEmpty)\/(∃xs,SqT K H p xs/\k = !xs.isEmpty)\/∃kvs,H p=some (.dK kvs)/\k = !kvs.isEmpty
 | _=>False
theorem Dl {kvs:List (κ×V)}{vs:List (κ×Vzy)} (r:KV kvs vs):(!vs.isEmpty) = !kvs.isEmpty:=by
 cases r <;> rfl
theorem tQ {its:Qqz} (r:aO xs its):(!its.toArray.isEmpty) = !xs.isEmpty:=by
 cases r <;> simp
theorem l6:(Yb0:Nat)<2 ^ 63:=by rw[sizeLine_eq];decide
theorem KJ:U5 X (λx H Q=>∃k,M3 X.K x H k/\Q k H):=by
 intro _ s _ H x v Q I d h;obtain⟨k,e,q⟩:=h;have z:=l6;have A:=sizeLine_eq;cases x with
 | non=>
  cases d;have a:=e;subst a;exact truthy_none ⟨H,I,q⟩
 | bl b=>
  cases d;have a:=e;subst a;exact wpAny_truthy_bool ⟨H,I,q⟩
 | int i=>
  obtain⟨t,rfl⟩:=d;have a:=e;subst a;exact PySem.P.truthy_int ⟨H,I,q⟩
 | str y=>
  obtain⟨t,rfl⟩:=d;obtain⟨o,a⟩:y.length<=Yb0/\k=((y.length:Int) != 0):=e;subst a;exact PySem.P.truthy_str (by lia) ⟨H,I.tok _,q⟩
 | byt y=>
  obtain⟨t,rfl⟩:=d;obtain⟨o,a⟩:y.size<=Yb0/\k=((y.size:Int) != 0):=e;subst a;exact W.truthy_bytes (by lia) ⟨H,I.tok _,q⟩
 | ref p=>
  cases d;have a:=e;rcases a with⟨u,g,a⟩ | ⟨u,g,a⟩ | ⟨f,g,a⟩
  ·subst a;obtain⟨j,r,l,n⟩:=I.list g;have c:=r.length;exact wpAny_truthy_list l.isList (by simp only[XO];lia) ⟨H,I.tok _,by rw[tQ r];exact q⟩
  ·subst a;obtain⟨j,r,l,n⟩:=I.tuple g;have c:=r.length;exact truthy_tuple l (by simp only[XO];lia) ⟨H,I.tok _,by rw[tQ r];exact q⟩
  ·subst a;obtain⟨n,hS,vs,r,m⟩:f.length<=Yb0/\(p == sysModules)=false/\∃vs,KV f vs/\s.heap.DictOf (aQ X.prog X.w) p vs:=I.hok p _ g;have c:=Paired.length r;exact wpAny_truthy_dict hS m (by lia) ⟨H,I.tok _,by rw[Dl r];exact q⟩
 | _=>exact(show False from e).elim
theorem HX (e:PE X a ta) (d:∀whole,isTrue a X.env whole=(do let v <-whole;standAt a.pos;holding [v] (truthy v))) :
  PT X a (λσ H Q=>ta σ H λx H'=>∃k,M3 X.K x H' k/\Q k H'):=by
 intro b s σ H Q I h;exact isTrue_plain (thn (e b s σ H _ I h) λv i ⟨x,c,f,g,j⟩=>KJ b i σ c x v Q f g j) (d _)
theorem vals1 {x:V} (r:aO [x] us):∃u,us=[u]/\RelV x u:=by
 cases r with
 | cons r1 r2=>cases r2;exact⟨_,rfl,r1⟩
theorem vals2 {x y:V} (r:aO [x,y] us):∃u w',us=[u,w']/\RelV x u/\RelV y w':=by
 cases r with
 | cons r1 r2=>
  cases r2 with
  | cons r3 r4=>cases r4;exact⟨_,_,rfl,r1,r3⟩
end
structure CJ (h:Heap) (x dx C:Yau) (mA:Str->Option Vzy):Prop where
 obj:h.get? x=some (Yaa C dx)
 ns:h.Ns1 dx mA
 ne:dx≠x
theorem GF (n:h.Ns1 dx mA):∃od,h.get? dx=some od/\∀name,W.lookIn name od=some (mA name):=by
 obtain⟨o,b,_,i,c,d,_,f⟩:=n;refine⟨o,i,λname=>?_⟩;have e:=f name;unfold nsFind findBy at e;rw[<-Array.find?_toList]at e;unfold W.lookIn;rw[c];dsimp only
 split
 ·rename_i y q;rw[q]at e;exact congrArg some e
 ·rename_i q;rw[q]at e;have a:b.toList.any (·.refKey)=false:=by
   rw[List.any_eq_false];intro y g;obtain⟨z,t,k⟩:=d y (Array.mem_toList_iff.mp g);simp[DictEntry.refKey,k]
  have j:¬ b.toList.any (·.refKey)=true:=by rw[a];exact XN
  rw[Yb8 j];exact congrArg some e
theorem CJ.look {x:Yau} (I:CJ h x dx C mA):∃od,W.InstAt h x (Yaa C dx) C (some od)/\∀name,W.lookIn name od=some (mA name):=
 let ⟨od,ho,hl⟩:=GF I.ns
 ⟨od,⟨I.obj,rfl,rfl,ho⟩,hl⟩
section
variable {s:Vzx}{x:Yau}{v:Vzy}
theorem get_map {a:Bool} (X:K.In s.heap) (I:CJ s.heap x dx C mA) (e:W.plainGet K C name=true) (c:W.hasDictIn K C=true)
  (g:W1 K (.ref C) name=some none) (d:mA name=some v) (b:W.handedIn v=true) (h:Q v { s with toks:=s.toks+1 }) :
  Yb1 (model prog w) A (getAttr (.ref x) name a) Q E s:=by
 obtain⟨_,J,f⟩:=I.look;exact W.get_value X J (W.plainGet_of e).1 (W.findObj_own c g rfl (by rw[f,d])) b h
theorem Jh {pl:Sem Bool}{Q:Vzy×Qqz->Vzx->Prop} (X:K.In s.heap) (I:CJ s.heap x dx C mA) (a:W.plainGet K C name=true)
  (c:W1 K (.ref C) name=some (some (.ref f))) (e:W.isFn K (.ref f)=true) (b:mA name=none) (h:Q (.ref f,[.ref x]) s) :
  Yb1 (model prog w) A (getMethod (.ref x) name pl) Q E s:=by
 obtain⟨g,J,d⟩:=I.look;exact W.method_fn X J (W.plainGet_of a).1 (W.plainGet_of a).2 c (beq_iff_eq.mp e) (by show(W.lookIn name g).map (·.isSome)=some false;rw[d,b];rfl) h
theorem NY {i:Qqv}{Q:Unit->Vzx->Prop} (X:K.In s.heap) (I:CJ s.heap x dx C mA)
  (n:W1 K (.ref C) "__setattr__" = some (some (.builtin "object.__setattr__"))) (p:W.plainOver K C=true) (k:W.takerIn K C name=some none) (j:W.hasDictIn K C=true)
  (m:PySem.Within mA i) (hsz:i.length<=Yb0)
  (h:∀h',CJ h' x dx C (λy=>if y=name then some v else mA y)->UV dx s.heap h'->Q () { s with heap:=h',toks:=s.toks+2 }) :
  Yb1 (model prog w) A (setAttr (.ref x) name v) Q E s:=by
 obtain⟨_,J,_⟩:=I.look;refine W.set_plain X J n (W.osa_open (s:={ s with toks:=s.toks+1 }) (r:=none) X J p k λb=>?_);obtain⟨_,l,f⟩:=W.any_some j;have o:=I.obj;refine Vzw (Vzv (Vzw (Vzw (wpAny_loadPart o (Vzw (W.Looks.here (s:={ s with toks:=s.toks+1 }) (W.looks_clsIn X l) ?_))))));rw[f];refine Vzv (a:=some dx) (Vzw (Vzv (Vzw ?_)));refine wpAny_nsSet1 (s:={ s with toks:=s.toks+1 }) I.ns λh' c d=>?_;obtain⟨oD,_,_,hoD,e,g⟩:=c.count (PySem.Within.cons name v m);refine Vzw (wpAny_lookBehind hoD (by rw[e];exact pastItsLine_dict (XG g (by rw[XX];lia))) ?_);exact Vzv (h _ ⟨(d.2 _ (Ya4 I.ne)).trans I.obj,c,I.ne⟩ d)
theorem La {b:List (Str×Vzy)} (X:K.In s.heap) (c:W.makesIn K C=true)
  (hi:W1 K (.ref C) "__init__" = some (some (.ref f))) (e:W.typeIn K (.ref f)=some (.type "function"))
  (h:codeAny (model prog w) (A.under (.builtin "type.__call__" ⟨.ref C::vs,b⟩)) (.call (.ref f) ⟨.ref (s.heap.objs.size+1)::vs,b⟩) (W.InitBack (s.heap.objs.size+1) R)
   { s with heap:=(s.heap.push Ya0).push (Yaa C s.heap.objs.size) }) :
  codeAny (model prog w) A (.call (.ref C) ⟨vs,b⟩) R s:=by
 obtain⟨_,g,d,t,_⟩:=s;exact W.make_core (W.makes_of X c) (W.looks_findIn X hi) (λa=>W.bind_fn X a e) (.inl rfl) h
end
def lB (f:Str) (v:V):List (Str×V)->List (Str×V)
 | []=>[(f,v)]
 | (g,x)::r=>if g=f then(g,v)::r else(g,x)::lB f v r
theorem pX (f g:Str) (v:V):∀fs:List (Str×V),(lB f v fs).lookup g=if g=f then some v else fs.lookup g
 | []=>by
  show Yah g [(f,v)]=_;by_cases h:g=f
  ·have a:=beq_iff_eq.mpr h;simp only[Yah,a,Yb7 h]
  ·have a:=beq_eq_false_iff_ne.mpr h;simp only[Yah,a,Yb8 h]
 | (k,x)::r=>by
  have c:=pX f g v r;rw[show lB f v ((k,x)::r)=(if k=f then(k,v)::r else(k,x)::lB f v r)from rfl];by_cases b:k=f
  ·rw[Yb7 b];by_cases h:g=k
   ·have a:=beq_iff_eq.mpr h;simp only[Yah,a,Yb7 (h.trans b)]
   ·have a:=beq_eq_false_iff_ne.mpr h;simp only[Yah,a,Yb8 (λe:g=f=>h (e.trans b.symm))]
  ·rw[Yb8 b];by_cases h:g=k
   ·have a:=beq_iff_eq.mpr h;simp only[Yah,a,Yb8 (λe:g=f=>b (h.symm.trans e))]
   ·have a:=beq_eq_false_iff_ne.mpr h;simp only[Yah,a];exact c
theorem ou (f:Str) (v:V):∀fs:List (Str×V),f∈(lB f v fs).map (·.1)/\∀g,g∈fs.map (·.1)->g∈(lB f v fs).map (·.1)
 | []=>⟨by simp[lB],λg h=>by simp at h⟩
 | (k,x)::r=>by
  obtain⟨c,b⟩:=ou f v r;rw[show lB f v ((k,x)::r)=(if k=f then(k,v)::r else(k,x)::lB f v r)from rfl];by_cases a:k=f
  ·rw[Yb7 a];subst a;exact⟨by simp,λg h=>by simpa using h⟩
  ·rw[Yb8 a];refine⟨?_,λg h=>?_⟩
   ·rw[XS];exact XF _ c
   ·rw[XS]at h ⊢;rcases XQ.mp h with e | e
    ·exact XQ.mpr (.inl e)
    ·exact XF _ (b g e)
theorem pV (f:Str) (v:V):∀fs:List (Str×V),(lB f v fs).length<=fs.length+1
 | []=>by simp[lB]
 | (k,x)::r=>by
  have b:=pV f v r;rw[show lB f v ((k,x)::r)=(if k=f then(k,v)::r else(k,x)::lB f v r)from rfl];by_cases a:k=f
  ·rw[Yb7 a,XX,XX];lia
  ·rw[Yb8 a,XX,XX];lia
theorem g6.some_of {o:Option Vzy} (r:g6 (some v) o):∃u,o=some u/\RelV v u:=by
 cases o with
 | none=>exact(show False from r).elim
 | some u=>exact⟨u,rfl,r⟩
theorem g6.none_of {o:Option Vzy} (r:g6 none o):o=none:=by
 cases o with
 | none=>rfl
 | some u=>exact(show False from r).elim
theorem E7 (r:RelV v u):W.handedIn u=true:=by
 cases v with
 | non=>cases(show u=Value.none from r);rfl
 | bl b=>cases(show u=Value.bool b from r);rfl
 | int i=>obtain⟨t,e⟩:=(show∃t,u=Value.int i t from r);cases e;rfl
 | str x=>obtain⟨t,e⟩:=(show∃t,u=Value.str x t from r);cases e;rfl
 | byt b=>obtain⟨t,e⟩:=(show∃t,u=Value.bytes b t from r);cases e;rfl
 | flt b=>obtain⟨t,e⟩:=(show∃t,u=Value.float b t from r);cases e;rfl
 | ref a=>cases(show u=Value.ref a from r);rfl
 | ty n=>cases(show u=Value.type n from r);rfl
section
variable {P:Yax}{fs:List (Str×V)}
theorem ie (b:HOk P w H h) (e:H a=some (.ins C dx fs)):∃mA,CJ h a dx C mA/\(∀f,g6 (fs.lookup f) (mA f))/\PySem.Within mA (fs.map (·.1))/\fs.length<=1000/\H dx=some (.own a):=by
 obtain⟨d,z,g,c,mA,n,r,q⟩:=(show bC P w H h a (.ins C dx fs)from b a _ e);exact⟨mA,⟨c,n,g⟩,r,q,z,d⟩
end
structure Cls (K:Vzz) (C:Yau):Prop where
 pg:W.plainGet K C ZY=true
 hd:W.hasDictIn K C=true
 po:W.plainOver K C=true
 sa:W1 K (.ref C) "__setattr__" = some (some (.builtin "object.__setattr__"))
theorem Cls.get (c:Cls K C) (f:Str):W.plainGet K C f=true:=c.pg
def cq (K:Vzz) (C:Yau) (f:Str):Prop:=W1 K (.ref C) f=some none
theorem cq.S1 {f:Str} (n:cq K C f):W.takerIn K C f=some none:=by
 unfold W.takerIn;rw[show W1 K (.ref C) f=some none from n];rfl
structure Con (K:Vzz) (C:Yau) (f:Str) (v:V) (u:Vzy):Prop where
 at_:W1 K (.ref C) f=some (some u)
 rel:RelV v u
 get:W.specialIn K u "__get__" = some none
 cp:W.copiedNames.contains f=false
structure ix (K:Vzz) (C:Yau) (m:Str) (f:Yau):Prop where
 at_:W1 K (.ref C) m=some (some (.ref f))
 fn:W.isFn K (.ref f)=true
 kp:Ya5 K (.ref f)=true
section
variable {s:Vzx}{fs:List (Str×V)}{f:Str}
theorem Ca {b:Bool} (I:Inv X pins σ H s) (e:H a=some (.ins C dx fs)) (c:Cls X.K C) (n:cq X.K C f) (l:fs.lookup f=some v)
  (h:∀u s',Inv X pins σ H s'->RelV v u->Q u s'):Yb1 (model X.prog X.w) A (getAttr (.ref a) f b) Q E s:=by
 obtain⟨g,O,r,_,_,_⟩:=ie I.hok e;obtain⟨u,i,d⟩:=g6.some_of (v:=v) (o:=g f) (by rw[<-l];exact r f);exact get_map I.kIn O (c.get f) c.hd n i (E7 d) (h u _ (I.tok _) d)
theorem ux {m:Str}{g:Yau}{pl:Sem Bool}{Q:Vzy×Qqz->Vzx->Prop} (I:Inv X pins σ H s) (e:H a=some (.ins C dx fs)) (c:Cls X.K C) (k:ix X.K C m g) (l:fs.lookup m=none)
  (h:Q (.ref g,[.ref a]) s):Yb1 (model X.prog X.w) A (getMethod (.ref a) m pl) Q E s:=by
 obtain⟨_,O,r,_,_,_⟩:=ie I.hok e;have b:=g6.none_of (by rw[<-l];exact r m);exact Jh I.kIn O (c.get m) k.at_ k.fn b h
theorem B6 {y:V}{Q:Unit->Vzx->Prop} (I:Inv X pins σ H s) (e:H a=some (.ins C dx fs)) (c:Cls X.K C) (n:cq X.K C f) (F:fs.length<1000) (l:RelV y u)
  (h:∀s',Inv X pins σ (upd H a (.ins C dx (lB f y fs))) s'->Q () s'):Yb1 (model X.prog X.w) A (setAttr (.ref a) f u) Q E s:=by
 obtain⟨i,O,r,j,_,k⟩:=ie I.hok e;have p:(fs.map (·.1)).length<=Yb0:=by rw[XA,sizeLine_eq];lia
 refine NY I.kIn O c.sa c.po n.S1 c.hd j p λv d B=>h _ ?_;have t:∃o,v.get? dx=some o:=let ⟨o,_,_,e',_⟩:=d.ns;⟨o,e'⟩;refine I.write (x:=a) (e:=dx) (by rw[e];exact True.intro) (.inr k) (λb q D z=>(B.2 b D).trans z) t ?_;refine⟨by rw[ao O.ne];exact k,?_,O.ne,d.obj,_,d.ns,λg=>?_,λg m=>?_⟩
 ·have:=pV f y fs;lia
 ·show g6 ((lB f y fs).lookup g) (if g=f then some u else i g);rw[pX];by_cases q:g=f
  ·rw[Yb7 q,Yb7 q];exact l
  ·rw[Yb8 q,Yb8 q];exact r g
 ·by_cases q:g=f
  ·rw[q];exact(ou f y fs).1
  ·refine(ou f y fs).2 g (j g λz=>m ?_);show(if g=f then some u else i g)=none;rw[Yb8 q];exact z
theorem Inv.made (I:Inv X pins σ H s):Inv X pins σ (upd (upd H s.heap.objs.size (.own (s.heap.objs.size+1))) (s.heap.objs.size+1) (.ins C s.heap.objs.size []))
  { s with heap:=(s.heap.push Ya0).push (Yaa C s.heap.objs.size) }:=by
 have d:(s.heap.push Ya0).get? s.heap.objs.size=some Ya0:=Z0 s.heap rfl;have j:((s.heap.push Ya0).push (Yaa C s.heap.objs.size)).get? (s.heap.objs.size+1)=some (Yaa C s.heap.objs.size):=by
  have:=Z0 (s.heap.push Ya0) (o:=Yaa C s.heap.objs.size) rfl
  rwa [Heap.size_push]at this
 have g:(s.heap.push Ya0).Ns s.heap.objs.size (λ_=>none):=⟨Ya0,#[],_,d,rfl,(λe f=>absurd f (by simp)),λ_=>rfl⟩;have h:=I.laid (a:=s.heap.objs.size) (o:=.own (s.heap.objs.size+1)) (h':=s.heap.push Ya0) (t':=s.toks) (λb u q=>Vzu _ q) (XD _) ⟨_,d⟩;refine h.laid (a:=s.heap.objs.size+1) (o:=.ins C s.heap.objs.size []) (t':=s.toks) (λb u q=>Vzu _ q) (ZQ (Heap.size_push _ _)) ?_;have c:s.heap.objs.size≠s.heap.objs.size+1:=X3 (Zv _);refine⟨by rw[ao c,aa],XT _,c,j,λ_=>none,(Heap.Ns1.of_empty g).at λo q=>Vzu _ q,λ_=>True.intro,λy i=>absurd rfl i⟩
theorem MS {e:Expr}{f:Str}{s:Vzx} (a:attributeBase e f env (eval e env)=eval e env)
  (h:Yb1 (model prog w) A (eval e env) (λo s₁=>Yb1 (model prog w) A (getAttr o f true) Q E s₁) E s):Yb1 (model prog w) A (eval (.Attribute e f pos) env) Q E s:=
 Attribute_any_ h (by rw[arm_eval_Attribute,a])
end
section
variable {o e:Expr}{f:Str}
end
section
variable {s:Vzx}{c:Vzy}{b:Bool}
inductive jI (K:Vzz) (H:Hp):V->Vzy->Prop where
 | non:jI K H .non (.type "NoneType")
 | bl (x:Bool):jI K H (.bl x) (.type "bool")
 | int (i:Int):jI K H (.int i) (.type "int")
 | str (x:Str):jI K H (.str x) (.type "str")
 | flt (x:UInt64):jI K H (.flt x) (.type "float")
 | lst {a:Yau}{xs:Qqt} (e:H a=some (.lst xs)):jI K H (.ref a) (.type "list")
 | frz {a:Yau}{o:Obj}{xs:Qqt} (e:H a=some (.frz o (.lst xs))):jI K H (.ref a) (.type "list")
 | tup {a:Yau}{xs:Qqt} (e:H a=some (.tup xs)):jI K H (.ref a) (.type "tuple")
 | dK {a:Yau}{kvs:List (Key×V)} (e:H a=some (.dK kvs)):jI K H (.ref a) (.type "dict")
 | dT {a:Yau}{kvs:List (List Key×V)} (e:H a=some (.dT kvs)):jI K H (.ref a) (.type "dict")
 | ins {a C dx:Yau}{fs:List (Str×V)} (e:H a=some (.ins C dx fs)) (cl:Cls K C) (ha:W1 K (.ref C) "__class__" = some (some (.builtin "object.__class__")))
   (hn:W.specialIn K (.builtin "object.__class__") "__get__" = some (some (.builtin "getset_descriptor.__get__"))) (htk:W.takesIn K (.builtin "object.__class__")=some true)
   (hm:W.mroIn K C (.type "object")=some true):jI K H (.ref a) (.ref C)
theorem vw {x:V}{t:Vzy} (I:Inv X pins σ H s) (d:RelV x u) (ty:jI X.K H x t) (e:W.kitOne X.K t c=some b) (h:∀tk,Q (.bool b) { s with toks:=tk }) :
  Yb1 (model X.prog X.w) A (call (.builtin "isinstance") [u,c]) Q E s:=by
 cases ty with
 | non=>cases(show u=Value.none from d);exact WK W.kitx_none I.kIn True.intro e (λz=>nomatch z) h
 | bl y=>cases(show u=Value.bool y from d);exact WK W.kitx_bool I.kIn True.intro e (λz=>nomatch z) h
 | int i=>obtain⟨t,q⟩:=(show∃t,u=Value.int i t from d);cases q;exact WK W.kitx_int I.kIn True.intro e (λz=>nomatch z) h
 | str y=>obtain⟨t,q⟩:=(show∃t,u=Value.str y t from d);cases q;exact WK W.kitx_str I.kIn True.intro e (λz=>nomatch z) h
 | flt y=>obtain⟨t,q⟩:=(show∃t,u=Value.float y t from d);cases q;exact WK W.kitx_float I.kIn True.intro e (λz=>nomatch z) h
 | @lst a g ea=>
  cases(show u=Value.ref a from d);obtain⟨_,_,n,_,f⟩:=(show bC X.prog X.w H s.heap a (.lst g)from I.hok a _ ea);exact WK W.kitx_list I.kIn ⟨_,f,rfl⟩ e (λz=>nomatch z) h
 | @frz a ob g ea=>
  cases(show u=Value.ref a from d);obtain⟨_,_,_,n,_,f⟩:=(show bC X.prog X.w H s.heap a (.frz ob (.lst g))from I.hok a _ ea);exact WK W.kitx_list I.kIn ⟨_,f,rfl⟩ e (λz=>nomatch z) h
 | @tup a g ea=>
  cases(show u=Value.ref a from d);obtain⟨_,_,_,p⟩:=(show bC X.prog X.w H s.heap a (.tup g)from I.hok a _ ea);obtain⟨o,f,j,_⟩:=p;exact WK W.kitx_tuple I.kIn ⟨o,f,j⟩ e (λz=>nomatch z) h
 | @dK a kvs ea=>
  cases(show u=Value.ref a from d);obtain⟨_,_,_,_,p⟩:=(show bC X.prog X.w H s.heap a (.dK kvs)from I.hok a _ ea);obtain⟨o,k,l,f,j,_⟩:=p;exact WK W.kitx_dict I.kIn ⟨o,f,j.1⟩ e (λz=>nomatch z) h
 | @dT a kvs ea=>
  cases(show u=Value.ref a from d);obtain⟨_,_,g,_,o,k,l,f,j,_⟩:=(show bC X.prog X.w H s.heap a (.dT kvs)from I.hok a _ ea);exact WK W.kitx_dict I.kIn ⟨o,f,j.1⟩ e (λz=>nomatch z) h
 | @ins a C dx fs ea cl ha hn htk hm=>
  cases(show u=Value.ref a from d);obtain⟨_,O,_⟩:=ie I.hok ea;obtain⟨_,J,_⟩:=O.look;exact WK (W.kitx_own (cl.get _) cl.hd ha hn htk hm) I.kIn J e (λz=>nomatch z) h
end
structure bB (k:Nat) (A:Yaw):Prop where
 hd:A.handled=none
 dp:A.depth+3 * k+5<recursionLimit
 un:A.units+16 * k+200<cLine
 gd:A.guards=some []
theorem bB.mono {k:Nat} (r:bB k A) (h:j<=k):bB j A:=⟨r.hd,by have:=r.dp;lia,by have:=r.un;lia,r.gd⟩
theorem bB.deeper {k:Nat} (r:bB (k+1) A) (env:Env):bB k (A.deeper env):=
 ⟨r.hd,by have:=r.dp;show A.depth+1+3 * k+5<_;lia,by have:=r.un;show A.units+3+16 * k+200<_;lia,r.gd⟩
theorem bB.in1 {k:Nat} (r:bB (k+1) A):bB k A.in1:=
 ⟨r.hd,by have:=r.dp;show A.depth+3 * k+5<_;lia,by have:=r.un;show A.units+1+16 * k+200<_;lia,r.gd⟩
theorem CO {a:List (Str×Vzy)}:(A.under (.builtin "type.__call__" ⟨.ref C::us,a⟩)).depth=A.depth+1:=by
 first | rfl | simp[Around.under,Code.weight,Code.isCreation,Code.isGuard,Code.isCaller,Code.frames,Code.isFrame,guardIds]
theorem BI {a:List (Str×Vzy)}:(A.under (.builtin "type.__call__" ⟨.ref C::us,a⟩)).units=A.units+1:=by
 first | rfl | simp[Around.under,Code.cUnits,Code.frames,Code.isFrame]
theorem zF {a:List (Str×Vzy)}:(A.under (.builtin "type.__call__" ⟨.ref C::us,a⟩)).guards=A.guards:=by
 have h:(Code.builtin "type.__call__" ⟨.ref C::us,a⟩).guards=[]:=by rfl
 simp only[Around.under,h];cases A.guards <;> rfl
theorem bB.make {k:Nat} (r:bB (k+1) A) (C:Yau) (us:Qqz) (a:List (Str×Vzy)):bB k (A.under (.builtin "type.__call__" ⟨.ref C::us,a⟩)):=
 ⟨r.hd,by have:=r.dp;rw[CO];lia,by have:=r.un;rw[BI];lia,by rw[zF];exact r.gd⟩
theorem bB.depth {k:Nat} (r:bB k A):A.depth<recursionLimit:=by have:=r.dp;lia
theorem bB.units {k:Nat} (r:bB k A):A.units+64<cLine:=by have:=r.un;lia
def Kv:TA:=λ_ H Q=>Q [] H
def Ow (ta:TE) (tr:TA):TA:=λσ H Q=>ta σ H λx H1=>tr σ H1 λxs H2=>Q (x::xs) H2
section
variable {e:Expr}{es:List Expr}
theorem dG:PA X [] Kv:=λ_ _ _ _ H Q I h=>Yai ⟨[],H,I,.nil,h⟩
theorem ag (i:PE X e te) (o:PA X es t) (l:Yb2 (e::es) X.env=(false,eval e X.env)::Yb2 es X.env:=by rfl):PA X (e::es) (Ow te t):=by
 intro b a s c H Q I h;rw[l];show Yb1 _ _ (spliced ((false,eval e X.env)::backTo b (Yb2 es X.env))) _ _ s;refine Ya2 (thn (i a s c H _ I h) λu f ⟨x,d,j,q,r⟩=>?_);exact thn (o b a f c d _ j r) λ_ _ ⟨m,n,p,k,g⟩=>⟨x::m,n,p,.cons q k,g⟩
def Vt (t:TA):TE:=λσ H Q=>t σ H λxs H1=>xs.length<=Yb0/\∀p,H1 p=none->Q (.ref p) (upd H1 p (.tup xs))
def P7 (t:TA):TE:=λσ H Q=>t σ H λxs H1=>xs.length<=Yb0/\∀p,H1 p=none->Q (.ref p) (upd H1 p (.lst xs))
theorem cB {x1} (h:PA X es t):PE X (.Tuple es x1 pos) (Vt t):=by
 intro a s k H Q I l;refine wpAny_Tuple_spliced (thn (h pos a s k H _ I l) λi c ⟨j,f,d,r,z,q⟩=>⟨by rw[<-r.length];exact z,?_⟩);have g:=d.hok.fresh (XD _);refine⟨.ref c.heap.objs.size,upd f c.heap.objs.size (.tup j),d.laid (t':=c.toks) (λb u e=>Vzu _ e) (XD _) ?_,rfl,q _ g⟩;exact⟨z,i,r,⟨_,Z0 _ rfl,rfl,_,rfl⟩⟩
theorem br (h:PA X es t):PE X (.List es pos) (P7 t):=by
 intro a s k H Q I l;refine wpAny_List_spliced (thn (h pos a s k H _ I l) λi c ⟨j,f,d,r,z,q⟩=>⟨by rw[<-r.length];exact z,?_⟩);have g:=d.hok.fresh (XD _);refine⟨.ref c.heap.objs.size,upd f c.heap.objs.size (.lst j),d.laid (t':=c.toks) (λb u e=>Vzu _ e) (XD _) ?_,rfl,q _ g⟩;exact⟨z,i,0,r,Z0 _ rfl⟩
end
abbrev Sp:=Qqt->Hp->VK->XK->Prop
end L2
variable {sp:L2.Sp}
namespace L2
open PySem PySem.Spec PyProof.Rows
abbrev CXT:=List Env->Hp->Vzx->XK->Vzy->Vzx->Prop
structure uN (P:Yax) (w:Yay) (K:Vzz) (mg:Str->Option Vzy) (base:Heap) (A:Yaw) (outer:List Env) (s:Vzx) (H:Hp):Prop where
 frames:A.frames=some outer
 mod:Mod K mg base
 bs:∀b o,base.get? b=some o->s.heap.get? b=some o/\H b=none
 bsz:base.objs.size<=s.heap.objs.size
 nO:s.heap.FunFrames base outer
 frf:∀b∈frs outer,H b=none
 hok:HOk P w H s.heap
 bare:AllBare s.gens
def CE (outer:List Env) (P:Yax) (w:Yay) (H:Hp) (s:Vzx) (Q:VK) (u:Vzy) (s':Vzx):Prop:=
 ∃v H',s'.os=s.os/\AllBare s'.gens/\Un (frs outer) [] H H' s.heap s'.heap/\HOk P w H' s'.heap/\RelV v u/\Q v H'
def CR (CX:CXT) (outer:List Env) (P:Yax) (w:Yay) (H:Hp) (s:Vzx) (Q:VK) (E:XK) (r:Result) (s':Vzx):Prop:=
 match r with
 | .ok (.ret u)=>CE outer P w H s Q u s'
 | .ok _=>False
 | .error e=>CX outer H s E e s'
structure d6 (P:Yax) (w:Yay) (K:Vzz) (mg:Str->Option Vzy) (base:Heap) (CX:CXT) (k:Nat) (f:Yau) (fd:Yav) (ps:Qqv) (sp:Sp):Prop where
 len:∀vs H Q E,sp vs H Q E->vs.length=ps.length
 run:∀(A:Yaw) (outer:List Env) (s:Vzx) (H:Hp) (args:Args) (us:Qqz) (vs:Qqt) (Q:VK) (E:XK),bB k A->uN P w K mg base A outer s H->BindsTo s fd args (ps.zip us)->aO vs us->sp vs H Q E ->
  codeAny (model P w) A (.call (.ref f) args) (CR CX outer P w H s Q E) s
theorem d6.mono {P:Yax}{CX:CXT}{k:Nat} (F:d6 P w K mg base CX j f fd ps sp) (h:j<=k) :
  d6 P w K mg base CX k f fd ps sp:=⟨F.len,λA a s H b e c Q E d=>F.run A a s H b e c Q E (d.mono h)⟩
theorem OH {P:Yax}{CX:CXT}{k:Nat} (F:d6 P w K mg base CX j f fd ps sp) (h:j<=k:=by decide):d6 P w K mg base CX k f fd ps sp:=F.mono h
theorem uN.make {P:Yax}{s:Vzx} (e:uN P w K mg base A outer s H) (C:Yau) (us:Qqz) (a:List (Str×Vzy)) :
  uN P w K mg base (A.under (.builtin "type.__call__" ⟨.ref C::us,a⟩)) outer s H:=⟨by first | exact e.frames | (simpa[Around.under,Code.envs,Code.isFrame,pushEnvs]using e.frames),e.mod,e.bs,e.bsz,e.nO,e.frf,e.hok,e.bare⟩
theorem uN.in1 {P:Yax}{s:Vzx} (e:uN P w K mg base A outer s H) :
  uN P w K mg base A.in1 outer s H:=⟨e.frames,e.mod,e.bs,e.bsz,e.nO,e.frf,e.hok,e.bare⟩
section
variable {s:Vzx}
theorem Inv.CI (I:Inv X pins σ H s):uN X.prog X.w X.K X.mg X.base X.A X.stack s H:=
 ⟨I.ok.frames,I.ok.mod,I.bs,XG I.ok.bsz I.sz,I.stack,I.ER,I.hok,I.bare⟩
theorem Inv.after {Q:VK} (I:Inv X pins σ H s) (h:CE X.stack X.prog X.w H s Q u s'):EP X pins σ Q u s':=by
 obtain⟨v,k,i,a,f,c,r,q⟩:=h;obtain⟨j,g,d,t,e⟩:=s';obtain rfl:e = s.os:=i;exact⟨v,k,I.call (h':=j) (g':=g) (d':=d) (t':=t) (ch:=[]) f c a (λb z=>absurd z (by simp)),r,q⟩
end
def Ly (sp:Sp) (dvs:Qqt) (E:XK) (t:TA):TE:=λσ H Q=>t σ H λvs H1=>sp (vs++dvs) H1 Q E
def Ot (C:Yau) (m:Str) (sp:Sp) (dvs:Qqt) (E:XK) (ta:TE) (t:TA):TE:=λσ H Q=>ta σ H λx H1=>∃a dx fs,x = .ref a/\H1 a=some (.ins C dx fs)/\fs.lookup m=none /\
 t σ H1 λvs H2=>sp (x::(vs++dvs)) H2 Q E
def Sv (C:Yau) (sp:Sp) (dvs:Qqt) (E:XK) (t:TA):TE:=λσ H Q=>t σ H λvs H1=>∀x dx,H1 x=none->H1 dx=none->dx≠x ->
 sp (.ref x::(vs++dvs)) (upd (upd H1 dx (.own x)) x (.ins C dx [])) (λv H2=>v = .non/\Q (.ref x) H2) E
def Binds (K:Vzz) (fd:Yav) (ps:Qqv) (ds:Qqz):Prop:=
 ∀(s:Vzx) (us:Qqz),K.In s.heap->(us++ds).length=ps.length->BindsTo s fd ⟨us,[]⟩ (ps.zip (us++ds))
theorem Binds.all (h:∀us:Qqz,us.length=ps.length->bindArgs fd ⟨us,[]⟩=pure (ps.zip us)):Binds K fd ps []:=λs us _ a=>by
 rw[Ym]at a ⊢;exact .of_eq (h us a)
def l7 (CX:CXT) (X:Cx) (E:XK):Prop:=∀(pins:List (Yau×Obj)) (σ:St) (H:Hp) (s:Vzx) (e:Vzy) (s':Vzx),Inv X pins σ H s->CX X.stack H s E e s'->X.xe e s'
section
variable {CX:CXT}{k:Nat}{dvs:Qqt}{ds:Qqz}{E:XK}{m:Str}{p:Pos}{e o:Expr}{es:List Expr}
theorem Di {s:Vzx}{Q:VK}{vs:Qqt} (F:d6 X.prog X.w X.K X.mg X.base CX k f fd ps sp) (l:bB k X.A) (j:Binds X.K fd ps ds) (d:aO dvs ds) (hx:l7 CX X E)
  (I:Inv X pins σ H s) (r:aO vs us) (h:sp (vs++dvs) H Q E):Yb1 (model X.prog X.w) X.A (call (.ref f) us) (EP X pins σ Q) X.xe s:=by
 have b:=r.append d;have i:(us++ds).length=ps.length:=by rw[<-b.length];exact F.len _ _ _ _ h
 refine wpAny_call (codeAny_mono (F.run X.A X.stack s H ⟨us,[]⟩ (us++ds) (vs++dvs) Q E l I.CI (j s us I.kIn i) b h) λr g a=>?_);cases r with
 | error e=>exact hx pins σ H s e g I a
 | ok c=>
  cases c with
  | ret u=>exact I.after a
  | next=>exact False.elim a
  | brk=>exact False.elim a
  | cont=>exact False.elim a
theorem e9 (F:d6 X.prog X.w X.K X.mg X.base CX k f fd ps sp) (m:bB k X.A) (g:Gl X x) (o:X.mg x=some (.ref f)) (v:Ya5 X.K (.ref f)=true) (u:Binds X.K fd ps ds) (j:aO dvs ds) (hx:l7 CX X E)
  (l:PA X (e::es) t) (b:(x == ("__debug__" : Str))=false:=by decide) (i:Yb2 (e::es) X.env=(false,eval e X.env)::Yb2 es X.env:=by rfl) (c:(backTo pos (Yb2 es X.env)).any (·.1)=false:=by rfl) :
  PE X (.Call (.Name x p) (e::es) [] pos) (Ly sp dvs E t):=by
 intro a s n H Q I h;refine wpAny_Call_Name_kw (jq I g o ?_ b);refine W.callWith_K (h₀:=X.base) I.ok.mod.kin v (thn (l pos a s n H _ I h) λ_ _ ⟨_,_,d,r,q⟩=>⟨d.kIn,?_⟩) i c;exact Di F m u j hx d r q
theorem cO {pl:Sem Bool} (z:PE X o ta) (c:Cls X.K C) (n:ix X.K C m f) (F:d6 X.prog X.w X.K X.mg X.base CX k f fd ps sp) (O:bB k X.A) (P:Binds X.K fd ps ds) (M:aO dvs ds) (hx:l7 CX X E) (N:PA X (e::es) t)
  (d:Yb2 (e::es) X.env=(false,eval e X.env)::Yb2 es X.env:=by rfl) (g:(backTo pos (Yb2 es X.env)).any (·.1)=false:=by rfl)
  (D:eval (.Call (.Attribute o m apos) (e::es) [] pos) X.env=(do
   let ov <-eval o X.env
   standAt apos.atName
   let (f,first) <-holding [ov] (getMethod ov m pl)
   callWith pos f first (backTo pos (Yb2 (e::es) X.env)) (backToKw pos (keywordEach [] X.env))):=by rfl) :
  PE X (.Call (.Attribute o m apos) (e::es) [] pos) (Ot C m sp dvs E ta t):=by
 intro b s j H Q I h;refine W.methodCall_KW (pl:=pl) (thn (z b s j H _ I h) λu y ⟨x,v,i,G,a,_,_,B,J,l,q⟩=>?_) D;subst B;obtain rfl:u=Value.ref a:=G;refine ux i J c n l ?_;refine W.callWith_K (first:=[.ref a]) (h₀:=X.base) I.ok.mod.kin n.kp (thn (N pos b y j v _ i q) λus _ ⟨vs,_,p,r,L⟩=>⟨p.kIn,?_⟩) d g;exact Di (us:=.ref a::us) (vs:=.ref a::vs) F O P M hx p (.cons rfl r) L
theorem dW {pl:Sem Bool} (g:PE X o ta) (c:Cls X.K C) (e:ix X.K C m f) (F:d6 X.prog X.w X.K X.mg X.base CX k f fd ps sp) (v:bB k X.A) (y:Binds X.K fd ps ds) (r:aO dvs ds) (hx:l7 CX X E)
  (j:eval (.Call (.Attribute o m apos) [] [] pos) X.env=(do
   let ov <-eval o X.env
   standAt apos.atName
   let (f,first) <-holding [ov] (getMethod ov m pl)
   callWith pos f first (backTo pos (Yb2 [] X.env)) (backToKw pos (keywordEach [] X.env))):=by rfl) :
  PE X (.Call (.Attribute o m apos) [] [] pos) (Ot C m sp dvs E ta Kv):=by
 intro b s t H Q I h;refine W.methodCall_KW (pl:=pl) (thn (g b s t H _ I h) λu _ ⟨x,_,d,n,a,_,_,i,p,l,q⟩=>?_) j;subst i;obtain rfl:u=Value.ref a:=n;refine ux d p c e l ?_;exact W.callWith_K0 (first:=[.ref a]) d.kIn e.kp (Di (us:=[.ref a]) (vs:=[.ref a]) F v y r hx d (.cons rfl .nil) q)
structure Mk (K:Vzz) (C f:Yau):Prop where
 makes:W.makesIn K C=true
 init:W1 K (.ref C) "__init__" = some (some (.ref f))
 fn:W.isFn K (.ref f)=true
 kp:Ya5 K (.ref C)=true
theorem Ks {s:Vzx}{Q:VK}{vs:Qqt} (M:Mk X.K C f) (F:d6 X.prog X.w X.K X.mg X.base CX k f fd ps sp) (o:bB (k+1) X.A) (t:Binds X.K fd ps ds) (m:aO dvs ds)
  (hx:l7 CX X E) (I:Inv X pins σ H s) (r:aO vs us)
  (h:∀x dx,H x=none->H dx=none->dx≠x->sp (.ref x::(vs++dvs)) (upd (upd H dx (.own x)) x (.ins C dx [])) (λv H2=>v = .non/\Q (.ref x) H2) E) :
  Yb1 (model X.prog X.w) X.A (call (.ref C) us) (EP X pins σ Q) X.xe s:=by
 have d:=h (s.heap.objs.size+1) s.heap.objs.size (I.hok.fresh (YL _)) (I.hok.fresh (XD _)) (X3 (Zv _));have b:=Inv.made (C:=C) I;have c:aO (V.ref (s.heap.objs.size+1)::(vs++dvs)) (Value.ref (s.heap.objs.size+1)::(us++ds)):=.cons rfl (r.append m);have j:(Value.ref (s.heap.objs.size+1)::us++ds).length=ps.length:=by
  have e:=c.length;rw[F.len _ _ _ _ d]at e;exact e.symm
 refine wpAny_call (La (f:=f) I.kIn M.makes M.init (beq_iff_eq.mp M.fn) (codeAny_mono (F.run _ X.stack _ _ ⟨Value.ref (s.heap.objs.size+1)::us,[]⟩ (Value.ref (s.heap.objs.size+1)::(us++ds)) _ _ E (o.make C us [])
  (b.CI.make C us []) (t _ (Value.ref (s.heap.objs.size+1)::us) b.kIn j) c d) λr i a=>?_))
 cases r with
 | error e=>exact hx pins σ _ _ e i b a
 | ok q=>
  cases q with
  | ret u=>
   obtain⟨v,p,g,l,n,q3⟩:=b.after a;subst n;exact⟨l,⟨V.ref (s.heap.objs.size+1),p,g,rfl,q3⟩⟩
  | next=>exact False.elim a
  | brk=>exact False.elim a
  | cont=>exact False.elim a
theorem nX (M:Mk X.K C f) (F:d6 X.prog X.w X.K X.mg X.base CX k f fd ps sp) (m:bB (k+1) X.A) (g:Gl X x) (o:X.mg x=some (.ref C)) (u:Binds X.K fd ps ds) (j:aO dvs ds) (hx:l7 CX X E)
  (l:PA X (e::es) t) (b:(x == ("__debug__" : Str))=false:=by decide) (i:Yb2 (e::es) X.env=(false,eval e X.env)::Yb2 es X.env:=by rfl) (c:(backTo pos (Yb2 es X.env)).any (·.1)=false:=by rfl) :
  PE X (.Call (.Name x p) (e::es) [] pos) (Sv C sp dvs E t):=by
 intro a s n H Q I h;refine wpAny_Call_Name_kw (jq I g o ?_ b);refine W.callWith_K (h₀:=X.base) I.ok.mod.kin M.kp (thn (l pos a s n H _ I h) λ_ _ ⟨_,_,d,r,q⟩=>⟨d.kIn,?_⟩) i c;exact Ks M F m u j hx d r q
end
section
variable {CX:CXT}{k:Nat}{ks:Qqv}{E:XK}{m:Str}{p WW:Pos}{e o:Expr}{es:List Expr}{kws:List Keyword}{tk:TA}{nm:Option Str}
structure Wn (K:Vzz) (fd:Yav) (ps ks:Qqv) (g:Qqz->Qqz->Qqz) (gV:Qqt->Qqt->Qqt):Prop where
 to:∀(s:Vzx) (us ws:Qqz),K.In s.heap->(g us ws).length=ps.length->BindsTo s fd ⟨us,ks.zip ws⟩ (ps.zip (g us ws))
 rel:∀{vs:Qqt}{us:Qqz}{zs:Qqt}{ws:Qqz},aO vs us->aO zs ws->aO (gV vs zs) (g us ws)
variable {g:Qqz->Qqz->Qqz}{gV:Qqt->Qqt->Qqt}
end
structure ax (N P:Qqv) (sc:Scope):Prop where
 kind:sc.kind = .function
 co:sc.isCoroutine=false
 gen:sc.isGenerator=false
 nd:N.Nodup
 pre:N.take P.length=P
 par:∀x∈P,sc.names.lookup x=some .local\/sc.names.lookup x=some .cell
 QO:∀y∈sc.names,y.2 ≠ .free
theorem vN {a:Str->Option NameKind}{x:Str}:∀{binds:List (Str×Vzy)}{m:Str->Option Vzy},(∀v,(x,v)∉binds)->bindL a binds m x=m x
 | [],_,_=>rfl
 | (n,v)::r,m,h=>by
  unfold bindL;rw[vN λw b=>h w (XF _ b)]
  split
  ·have:x≠n:=by rintro rfl;exact h v XC
   simp[this]
  ·rfl
theorem wB {a:Str->Option NameKind}{x:Str}:∀{binds:List (Str×Vzy)}{m:Str->Option Vzy},(∀v,(x,v)∉binds)->bindC a binds m x=m x
 | [],_,_=>rfl
 | (n,v)::r,m,h=>by
  unfold bindC;rw[wB λw b=>h w (XF _ b)]
  split
  ·rfl
  ·have:x≠n:=by rintro rfl;exact h v XC
   simp[this]
theorem wV {a:Str->Option NameKind}{x:Str}{v:Vzy}:∀{P:Qqv}{vs:Qqz}{i:Nat}{m:Str->Option Vzy},P.Nodup->P[i]? = some x->vs[i]? = some v->a x=some .local ->
  bindL a (P.zip vs) m x=some v
 | [],_,_,_,_,h,_,_=>by simp at h
 | _::_,[],_,_,_,_,h,_=>by simp at h
 | p::P,w::vs,0,m,nd,h1,h2,hk=>by
  simp at h1 h2;subst h1;subst h2;show bindL a ((p,w)::P.zip vs) m p=_;unfold bindL;rw[vN λv b=>(YS.mp nd).1 (Zl b).1,Yb7 hk];simp
 | p::P,w::vs,i+1,m,nd,h1,h2,hk=>by
  show bindL a ((p,w)::P.zip vs) m x=_;unfold bindL;exact wV (i:=i) (YS.mp nd).2 (by simpa using h1) (by simpa using h2) hk
theorem wa {a:Str->Option NameKind}{x:Str}{v:Vzy}:∀{P:Qqv}{vs:Qqz}{i:Nat}{m:Str->Option Vzy},P.Nodup->P[i]? = some x->vs[i]? = some v->a x≠some .local ->
  bindC a (P.zip vs) m x=some v
 | [],_,_,_,_,h,_,_=>by simp at h
 | _::_,[],_,_,_,_,h,_=>by simp at h
 | p::P,w::vs,0,m,nd,h1,h2,hk=>by
  simp at h1 h2;subst h1;subst h2;show bindC a ((p,w)::P.zip vs) m p=_;unfold bindC;rw[wB λv b=>(YS.mp nd).1 (Zl b).1,Yb8 hk];simp
 | p::P,w::vs,i+1,m,nd,h1,h2,hk=>by
  show bindC a ((p,w)::P.zip vs) m x=_;unfold bindC;exact wa (i:=i) (YS.mp nd).2 (by simpa using h1) (by simpa using h2) hk
def start (N:Qqv) (vs:Qqt):St:=vs.map some++UF (N.length - vs.length) none
def yN (CX:CXT) (P:Yax) (w:Yay) (K:Vzz) (mg:Str->Option Vzy) (base:Heap) (N:Qqv) (qual:Str) (scope:Scope) (f:Yau) (cd:Vzy) (A:Yaw) (outer:List Env) (s:Vzx) (H:Hp) (E:XK):Cx where
 prog:=P
 w:=w
 K:=K
 mg:=mg
 base:=base
 A:=A.deeper (envOfC qual scope s.heap.objs.size f cd)
 N:=N
 s₀:=s
 H₀:=H
 env:=envOfC qual scope s.heap.objs.size f cd
 outer:=outer
 stack:=envOfC qual scope s.heap.objs.size f cd::outer
 ex:=[]
 calm:=true
 fn:=λ_=>true
 pn:=[]
 xe:=λe s'=>Yb1 (model P w) (A.deeper (envOfC qual scope s.heap.objs.size f cd)) (leaving (envOfC qual scope s.heap.objs.size f cd) e) (λ_ s''=>CX outer H s E e s'') (λe' s''=>CX outer H s E e' s'') s'
theorem A5 {a:Scope} (h:a.names.lookup x=some .cell):∃c,(cellsFrom n a.names []).lookup x=some c:=by
 have q:=W.cellsFrom_some a.names n [] (.inl h);exact Option.isSome_iff_exists.mp q
theorem FV {CX:CXT}{P:Yax}{s s1:Vzx}{E:XK}{vs:Qqt}
  (S:ax N ps scope) (F:A.handled=none) (g:uN P w K mg base A outer s H) (J:vs.length=ps.length) (r:aO vs us)
  (x:InCallC s s.heap.objs.size (bindL (envOfC qual scope s.heap.objs.size f cd).kindOf (ps.zip us) λ_=>none) (cellsFrom (s.heap.objs.size+1) scope.names []) (bindC (envOfC qual scope s.heap.objs.size f cd).kindOf (ps.zip us) λ_=>none) s1) :
  Inv (yN CX P w K mg base N qual scope f cd A outer s H E) [] (start N vs) H s1:=by
 have I:ps.length<=N.length:=by have:=congrArg List.length S.pre;rw[X4]at this;lia
 obtain⟨t,_,rfl,C⟩:=x.done;have j:∀b:Yau,b∉(yN CX P w K mg base N qual scope f cd A outer s H E).ex:=λb z=>absurd (show b∈([]:Qqx)from z) (by simp);refine⟨⟨g.mod,S.kind,rfl,rfl,XD _,λy z c t d=>?_,λy l=>?_,λy c _ h=>?_,λ_=>F,Around.frames_deeper g.frames,.inr ⟨rfl,rfl⟩,λb z=>absurd z (j b),g.bs,g.bsz,λb _ _=>j b,λb z=>absurd z (j b),g.nO,g.frf⟩,
  rfl,g.bare,Un.kept C,⟨_,x.toInCall.ns,λi y v t d _=>?_⟩,λy c h=>⟨_,x.cell y c h⟩,g.hok.fresh (XD _),λy c h=>?_,λp o=>absurd (show p∈([]:List (Yau×Obj))from o) (by simp),g.hok.kept C,?_⟩
 ·exact name_of_addr x.apart (WH t) (WH d)
 ·have l:=l;rcases l with l | l
  ·exact A5 l
  ·exact absurd rfl (S.QO _ (WH l))
 ·exact YJ (x.above y c (WH h))
 ·have hi:i<vs.length:=by
   unfold start at d;by_cases hi:i<vs.length
   ·exact hi
   ·rw[Yw (by simpa using hi)]at d;rw[ZM]at d
    split at d <;> cases d
  have G:vs[i]? = some v:=by
   unfold start at d;rw[Yp (by simpa using hi),XM]at d;cases e:vs[i]? with
   | none=>rw[e]at d;cases d
   | some a=>rw[e]at d;cases d;rfl
  obtain⟨u,B,D⟩:=r.get G;have o:ps[i]? = some y:=by
   rw[<-S.pre,List.getElem?_take_of_lt (by lia)];exact t
  have m:ps.Nodup:=by rw[<-S.pre];exact S.nd.sublist (List.take_sublist _ _)
  refine⟨u,D,?_⟩;rcases S.par y (XB o)with k | k
  ·exact .inl ⟨k,wV m o B k⟩
  ·obtain⟨c,e⟩:=A5 (n:=s.heap.objs.size+1) k;refine .inr ⟨.inl k,c,e,?_⟩;have q:=x.cell y c e;rw[wa m o B (by show scope.names.lookup y≠_;rw[k];decide)]at q;exact q
 ·exact g.hok.fresh (YJ (x.above y c (WH h)))
 ·unfold start;show _=N.length;rw[XI,XA,Zt];lia
theorem HQ {CX:CXT}{P:Yax}{k:Nat}{c:Arguments}{d:List Stmt}{O kV l L a F oc:Vzy}{M od:Option Yau}
  {B:Array (Option Vzy)}{N ps:Qqv}{sp:Sp} (lk:K.lookup f=some ⟨oc,od,.func (Ya1 name qual c d scope O kV l L M a F),B⟩) (z:Yae K a qual=true) (S:ax N ps scope)
  (m:∀vs H Q E,sp vs H Q E->vs.length=ps.length)
  (X:∀(A:Yaw) (outer:List Env) (s:Vzx) (H:Hp) (vs:Qqt) (Q:VK) (E:XK),bB k (A.deeper (envOfC qual scope s.heap.objs.size f a))->sp vs H Q E ->
   ∃t,PSs (yN CX P w K mg base N qual scope f a A outer s H E) d t/\t { nx:=λ_ H'=>Q .non H',rt:=Q } (start N vs) H) :
  d6 P w K mg base CX (k+1) f (Ya1 name qual c d scope O kV l L M a F) ps sp:=by
 refine⟨m,λA outer s H _ Y vs Q E D p hb r i=>?_⟩;have T:=m _ _ _ _ i;have G:K.In s.heap:=p.mod.kin.keeps λb o e=>(p.bs b o e).1;have lim:s.heap.NoLimit:=p.mod.nolimit.keeps λb o e=>(p.bs b o e).1;have Rj:∀y∈ps.zip Y,scope.names.lookup y.1=some .local\/(scope.names.lookup y.1=some .cell/\((cellsFrom (s.heap.objs.size+1) scope.names []).lookup y.1).isSome=true):=λ⟨n,v⟩ Z=>by
  rcases S.par n (Zl Z).1 with q | q
  ·exact .inl q
  ·exact .inr ⟨q,W.cellsFrom_some _ _ _ (.inl q)⟩
 refine codeAny_call_function D.depth (G _ _ lk) rfl S.co S.gen rfl (W.codeRec_of G z) (hb _ _ _ _ ?_);refine wpAny_newFunctionEnv_cells S.kind Rj λ_ R s1 x=>?_;subst R;refine⟨lim.keeps x.toInCall.keep,codeAny_func ?_⟩;obtain⟨t,U,hq⟩:=X A outer s H vs Q E (D.deeper _) i;have I:Inv (yN CX P w K mg base N qual scope f a A outer s H E) [] (start N vs) H s1:=FV S D.hd p T r x;refine Vzt (U [] s1 (start N vs) H _ I hq) (λfl s' h=>?_) λe s' h=>h;have j:∀{g:St}{H':Hp}{v:V}{u:Vzy},Inv (yN CX P w K mg base N qual scope f a A outer s H E) [] g H' s'->RelV v u->Q v H'->CE outer P w H s Q u s':=
  λ{g H' v u} J C q=>⟨v,H',J.os,J.bare,J.base,J.hok,C,q⟩
 cases fl with
 | ret u=>
  obtain⟨v,g,H',J,C,q⟩:=h;exact j J C q
 | next=>
  obtain⟨g,H',J,q⟩:=h;exact j (v:=V.non) (u:=Value.none) J rfl q
 | brk=>
  obtain⟨_,_,_,q⟩:=h;exact False.elim q
 | cont=>
  obtain⟨_,_,_,q⟩:=h;exact False.elim q
section
variable {p:Pos}{e:Expr}{es:List Expr}{id T:String}{r:Qqt->Hp->VK->Prop}
def tCB (r:Qqt->Hp->VK->Prop) (t:TA):TE:=λσ H Q=>t σ H λvs H1=>r vs H1 Q
theorem aE (l:fV X (.builtin id) r) (j:Gl X x) (v:X.mg x=none) (n:bootBuiltins x=some (.builtin id)) (o:PA X (e::es) t) (g:x ≠ "__name__" :=by decide) (b:(x == ("__debug__" : Str))=false:=by decide)
  (k:Yb2 (e::es) X.env=(false,eval e X.env)::Yb2 es X.env:=by rfl) (c:(backTo pos (Yb2 es X.env)).any (·.1)=false:=by rfl):PE X (.Call (.Name x p) (e::es) [] pos) (tCB r t):=by
 intro a s d H Q I h;refine wpAny_Call_Name_kw (eN I j v n ?_ g b);exact PyProof.Rows.callWith_builtin1 (thn (o pos a s d H _ I h) λm i ⟨u,f,q,w,y⟩=>l a i d f u m Q q w y) k c
theorem bI (l:fV X (.type T) r) (j:Gl X x) (v:X.mg x=none) (n:bootBuiltins x=some (.type T)) (o:PA X (e::es) t) (g:x ≠ "__name__" :=by decide) (b:(x == ("__debug__" : Str))=false:=by decide)
  (k:Yb2 (e::es) X.env=(false,eval e X.env)::Yb2 es X.env:=by rfl) (c:(backTo pos (Yb2 es X.env)).any (·.1)=false:=by rfl):PE X (.Call (.Name x p) (e::es) [] pos) (tCB r t):=by
 intro a s d H Q I h;refine wpAny_Call_Name_kw (eN I j v n ?_ g b);exact W0 (thn (o pos a s d H _ I h) λm i ⟨u,f,q,w,y⟩=>l a i d f u m Q q w y) k c
end
end L2
variable {J:L2.It}{wi:L2.TI}{st:List (L2.Key×L2.Qqt)}{kvs:List (L2.Key×L2.V)}{ks:List L2.Key}
namespace HT
open PySem PyProof.Rows
theorem Kg (A:Yaw) (s:Vzx) (a:Int) (t:Tok) (c:Int) (u:Tok) (prog:Yax) (w:Yay) (E:Vzy->Vzx->Prop) (Q:Vzy->Vzx->Prop) (h:Q (.bool (decide (a<c))) s) :
  Yb1 (model prog w) A (richCompare .Lt (.int a t) (.int c u)) Q E s:=
 (PyProof.Rows.lt_int h:Yb1 (model prog w) A (compareOp .Lt (.int a t) (.int c u)) Q E s)
section
open PySem.SeqAt
open PySem.AutoSeq1 (wpAny_loadPart')
open PySem.MeetsSeq PySem.MeetsSeq2 PySem.MeetsSeq3
end
section
variable {s:Vzx}
def sIx (n d:Nat):Option Int->Nat
 | none=>d
 | some v=>if v<0 then(v+(n:Int)).toNat else min v.toNat n
theorem Jl (n d:Nat):sIx n d none=d:=rfl
theorem qF (n d k:Nat):sIx n d (some (k:Int))=min k n:=by
 show(if (k:Int)<0 then((k:Int)+(n:Int)).toNat else min (k:Int).toNat n)=min k n;rw[Yb8 (by lia),Yv]
end
end HT
namespace L2
open PySem PySem.Spec PyProof.Rows
abbrev TO:=St->Hp->(Option Int->Hp->Prop)->Prop
def PO (X:Cx) (e:Option Expr) (t:TO):Prop:=
 ∀(pins:List (Yau×Obj)) (s:Vzx) (σ:St) (H:Hp) (Q:Option Int->Hp->Prop),Inv X pins σ H s->t σ H Q ->
  Yb1 (model X.prog X.w) X.A (evalPart e X.env) (λu s'=>∃o H',Inv X pins σ H' s'/\IsPart u o/\Q o H') X.xe s
def Mc:TO:=λ_ H Q=>Q none H
def UP (t:TE):TO:=λσ H Q=>t σ H λx H1=>∃i,x = .int i/\Q (some i) H1
section
variable {e:Expr}{lo hi:Option Expr}{tl th:TO}
theorem nI:PO X none Mc:=by
 intro pins s σ H Q I h;rw[evalPart_none];exact Vzv ⟨none,H,I,.none,h⟩
theorem jh (h:PE X e te):PO X (some e) (UP te):=by
 intro a s g H Q I b;rw[evalPart_some];refine thn (h a s g H _ I b) λu _ ⟨x,c,d,f,j⟩=>?_;obtain⟨i,rfl,q⟩:=j;obtain⟨t,rfl⟩:=f;exact⟨some i,c,d,.int i t,q⟩
def SlR (X:Cx) (r:V->Option Int->Option Int->Hp->VK->Prop):Prop:=
 ∀(pins:List (Yau×Obj)) (s:Vzx) (σ:St) (H:Hp) (x:V) (v vl vu:Vzy) (lo hi:Option Int) (sl:Yau) (Q:VK),Inv X pins σ H s->RelV x v->s.heap.IsSliceOf sl vl vu .none->IsPart vl lo->IsPart vu hi->r x lo hi H Q ->
  ∃T id,typeLookup (.type T) "__getitem__" = pure (some (.builtin id))/\s.TypeIs v T/\Yb1 (model X.prog X.w) X.A (getItem v (.ref sl)) (EP X pins σ Q) X.xe s
def tSl (r:V->Option Int->Option Int->Hp->VK->Prop) (te:TE) (tl th:TO):TE:=λσ H Q=>te σ H λx H1=>tl σ H1 λl H2=>th σ H2 λu H3=>r x l u H3 Q
theorem iN {r:V->Option Int->Option Int->Hp->VK->Prop} (G:SlR X r) (y:PE X e te) (z:PO X lo tl) (E:PO X hi th):PE X (.Subscript e (.Slice lo hi none p2) pos) (tSl r te tl th):=by
 intro a s d H Q I h;refine Subscript_ (thn (y a s d H _ I h) λv n ⟨x,j,D,L,M⟩=>?_);refine wpAny_Slice (thn (z a n d j _ D M) λf k ⟨l,F,J,K,C⟩=>thn (E a k d F _ J C) λg c ⟨u,i,p,o,q3⟩=>?_);rw[evalPart_none];refine Vzv ?_;have m:Inv X a d i { c with heap:=c.heap.push { cls:=.type "slice",data:=.fields #[f,g,.none] } }:=p.kept (t':=c.toks) λb _ q=>Vzu _ q;obtain⟨T,_,hT,B,t⟩:=G a { c with heap:=c.heap.push { cls:=.type "slice",data:=.fields #[f,g,.none] } } d i x v f g l u c.heap.objs.size Q m L (Heap.IsSliceOf.new ..) K o q3;show Yb1 (model X.prog X.w) X.A (subscriptTail e (.Slice lo hi none p2) v (.ref c.heap.objs.size)) (EP X a d Q) X.xe { c with heap:=c.heap.push { cls:=.type "slice",data:=.fields #[f,g,.none] } };exact tail_any (ops:=[.ref c.heap.objs.size,v]) B hT t (by with_unfolding_all rfl)
def ki (xs:Qqt) (lo hi:Option Int):Qqt:=(xs.drop (HT.sIx xs.length 0 lo)).take (HT.sIx xs.length xs.length hi - HT.sIx xs.length 0 lo)
theorem AS (xs:Qqt) (lo hi:Option Int):(ki xs lo hi).length<=xs.length:=by
 unfold ki;rw[X4,Y1];lia
end
def ixN (n:Nat) (i:Int):Option Nat:=if 0<=i then(if i<n then some i.toNat else none)else if -(n:Int)<=i then some (i+n).toNat else none
def atI {α:Type} (xs:List α) (i:Int):Option α:=(ixN xs.length i).bind λj=>xs[j]?
theorem Ee {i:Int} (h:ixN n i=some j):seqIndex? i n=some j/\j<n /\ -(n:Int)<=i/\i<n:=by
 unfold ixN at h;by_cases b:0<=i
 ·rw[Yb7 b]at h;by_cases a:i<n
  ·rw[Yb7 a]at h;have e:=Uf h;exact⟨by rw[seqIndex_of b a,e],by lia,by lia,a⟩
  ·rw[Yb8 a]at h;cases h
 ·rw[Yb8 b]at h;by_cases a : -(n:Int)<=i
  ·rw[Yb7 a]at h;have e:=Uf h;exact⟨by rw[seqIndex_neg (by lia) a,e],by lia,a,by lia⟩
  ·rw[Yb8 a]at h;cases h
theorem xU {xs:List α}{i:Int}{v:α} (h:atI xs i=some v):∃j,seqIndex? i xs.length=some j/\xs[j]? = some v/\j<xs.length /\ -(xs.length:Int)<=i/\i<xs.length:=by
 unfold atI at h;cases e:ixN xs.length i with
 | none=>rw[e]at h;cases h
 | some j=>
  rw[e]at h;obtain⟨a,b,d,c⟩:=Ee e;exact⟨j,a,h,b,d,c⟩
theorem d5 {xs:List α}{v:α} (h:xs[j]? = some v):atI xs (j:Int)=some v:=by
 have a:=(YG.mp h).1;have e:ixN xs.length (j:Int)=some j:=by
  unfold ixN;rw[Yb7 (by lia),Yb7 (by lia)];simp
 unfold atI;rw[e];exact h
def xn (b:Expr):Prop:=∀o i,subscripted b false o i=operate [o,i] (getItem o i)
def IxR (X:Cx) (r:R2):Prop:=
 ∀(value slice:Expr) (pins:List (Yau×Obj)) (s:Vzx) (σ:St) (H:Hp) (x y:V) (v u:Vzy) (Q:VK),Inv X pins σ H s->RelV x v->RelV y u->r x y H Q ->
  subscripted slice false v u=operate [v,u] (getItem v u)->Yb1 (model X.prog X.w) X.A (subscriptTail value slice v u) (EP X pins σ Q) X.xe s
def MtR (X:Cx) (id:String) (r:V->Qqt->Hp->VK->Prop):Prop:=
 ∀(pins:List (Yau×Obj)) (s:Vzx) (σ:St) (H:Hp) (x:V) (xs:Qqt) (v:Vzy) (us:Qqz) (Q:VK),Inv X pins σ H s->RelV x v->aO xs us->r x xs H Q ->
  Yb1 (model X.prog X.w) X.A (call (.builtin id) (v::us)) (EP X pins σ Q) X.xe s
section
variable {a b:Expr}{tb:TE}
theorem IK {r:R2} (k:IxR X r) (g:PE X a ta) (n:PE X b tb) (i:xn b):PE X (.Subscript a b pos) (tOp r ta tb):=by
 intro c s l H Q I h;exact Subscript_ (Qo g n I h λv u e x y j m f d q=>k a b c e l j x y v u Q m f d q (i _ _))
def S0 (K:Vzz):R2:=λx y H Q=>∃p xs i v,x = .ref p/\y = .int i/\SqL K H p xs/\atI xs i=some v/\Q v H
def RH (K:Vzz):R2:=λx y H Q=>∃p xs i v,x = .ref p/\y = .int i/\SqT K H p xs/\atI xs i=some v/\Q v H
def V2:R2:=λx y H Q=>∃z i c,x = .str z/\y = .int i/\z.length<=Yb0/\atI z.cps.toList i=some c/\Q (.str ⟨#[c]⟩) H
theorem Ml:IxR X (S0 X.K):=by
 intro _ _ a s n H x y v u Q I G o h l;obtain⟨p,_,i,z,rfl,rfl,J,C,q⟩:=h;cases G;obtain⟨t,rfl⟩:=o;obtain⟨e,r,f,_⟩:=I.list J;obtain⟨j,c,E,_,F,A⟩:=xU C;obtain⟨w,m,d⟩:=r.get E;have D:=r.length;have L:=l6;have b:EP X a n Q w s:=⟨z,H,I,d,q⟩;by_cases k:0<=i
 ·have g:i.toNat=j:=by
   rw[seqIndex_of k A]at c;exact Uf c
  exact item_listR f.isList k (by lia) (by rw[g];simpa using m) b l
 ·have g:(i+(e.toArray.size:Int)).toNat=j:=by
   rw[seqIndex_neg (by lia) F]at c;rw[XO,<-D];exact Uf c
  exact subscriptTail_builtinR (x:=w) f.isList.typeIs slot_list_getitem.lookup
   (wpAny_getItem_list_neg (Q:=λr B=>r=w/\EP X a n Q r B) f.isList (by lia) (by rw[XO] <;> lia) (by lia) (by rw[g];simpa using m) ⟨rfl,b⟩) l
theorem Pj:IxR X (RH X.K):=by
 intro _ _ a s e H x y v u Q I o f h A;obtain⟨p,_,i,z,rfl,rfl,C,l,q⟩:=h;cases o;obtain⟨t,rfl⟩:=f;obtain⟨_,r,d,_⟩:=I.tuple C;obtain⟨j,g,n,_,_,_⟩:=xU l;obtain⟨w,B,b⟩:=r.get n;have m:=r.length;have D:=l6;have c:EP X a e Q w s:=⟨z,H,I,b,q⟩;exact subscriptTail_builtinR (x:=w) d.typeIs slot_tuple_getitem.lookup
  (getItem_tuple (j:=j) (Q:=λr k=>r=w/\EP X a e Q r k) d (by lia) (by lia) (by rw[XO,<-m];exact g) (by simpa using B) ⟨rfl,c⟩) A
theorem OQ:IxR X V2:=by
 intro _ _ _ s _ H x y v u Q I n b h o;obtain⟨z,i,c,rfl,rfl,_,e,q⟩:=h;obtain⟨t,rfl⟩:=n;obtain⟨_,rfl⟩:=b;obtain⟨j,a,g,_,k,d⟩:=xU e;have f:z.cps.toList.length=z.length:=by simp[Str.length]
 rw[f]at a k d;have p:=l6;exact tail_any (typeIs_str s z t) slot_str_getitem.lookup (getItem_str (c:=c) (by
  have l:decide (i < -(2 ^ 63:Int))=false:=Yb5 (by lia);have m:decide (i ≥ 2 ^ 63)=false:=Yb5 (by lia);rw[l,m,Zx]) (by rw[a];simpa using g) ⟨.str ⟨#[c]⟩,H,I.tok _,⟨_,rfl⟩,q⟩) o
theorem Ce (its:Qqz) (n j:Nat) (u:Vzy):Z9 (·.setIfInBounds j u) { cls:=.type "list",data:=.seq its.toArray n }={ cls:=.type "list",data:=.seq (its.set j u).toArray n }:=by
 simp[Z9]
theorem Inv.lst {s:Vzx}{p:Yau} (I:Inv X pins σ H s) (h:H p=some (.lst xs)) :
  ∃(its:Qqz) (n:Nat),aO xs its/\s.heap.get? p=some { cls:=.type "list",data:=.seq its.toArray n }/\xs.length<=Yb0:=by
 obtain⟨z,its,n,r,e⟩:=I.hok p _ h;exact⟨its,n,r,e,z⟩
theorem Inv.QA {s:Vzx}{p:Yau}{ys:Qqt}{its jG:Qqz}{n n':Nat}{f:Obj->Obj} (I:Inv X pins σ H s) (h:H p=some (.lst xs))
  (d:s.heap.get? p=some { cls:=.type "list",data:=.seq its.toArray n }) (a:f { cls:=.type "list",data:=.seq its.toArray n }={ cls:=.type "list",data:=.seq jG.toArray n' }) (r:aO ys jG) (hz:ys.length<=Yb0) (t:Nat) :
  Inv X pins σ (upd H p (.lst ys)) { s with heap:=s.heap.update p f,toks:=t }:=by
 have e:(s.heap.update p f).get? p=some { cls:=.type "list",data:=.seq jG.toArray n' }:=by
  rw[Heap.get?_update_self f d (by rw[a] <;> rfl),a]
 refine I.write (x:=p) (e:=p) (by rw[h];trivial) (.inl rfl) (λb u c q=>(W9 _ _ (Ya4 c)).trans q) ⟨_,e⟩ ?_;exact⟨hz,jG,n',r,e⟩
def Rt:V->V->V->Hp->(Hp->Prop)->Prop:=λo i v H Q=>∃p xs k j,o = .ref p/\i = .int k/\H p=some (.lst xs)/\ixN xs.length k=some j/\Q (upd H p (.lst (xs.set j v)))
theorem set_list:T6 X Rt:=by
 intro b s C H o i v _ _ u Q I A E z h;obtain⟨p,B,k,j,rfl,rfl,x,D,q⟩:=h;cases A;obtain⟨t,rfl⟩:=E;obtain⟨a,n,r,e,y⟩:=I.lst x;obtain⟨c,_,g,m⟩:=Ee D;have d:=r.length;have F:=l6;have w:Inv X b C (upd H p (.lst (B.set j v))) { s with heap:=s.heap.update p (Z9 (·.setIfInBounds j u)) }:=
  I.QA x e (Ce a n j u) (r.set z j) (by rw[List.length_set];exact y) s.toks
 by_cases l:0<=k
 ·have f:k.toNat=j:=by
   rw[seqIndex_of l m]at c;exact Uf c
  exact W.ki_setAt e l (by lia) (by rw[XO,<-d];exact m) (by rw[f];exact⟨_,w,q⟩)
 ·have f:(k+(a.toArray.size:Int)).toNat=j:=by
   rw[seqIndex_neg (by lia) g]at c;rw[XO,<-d];exact Uf c
  exact W.ki_setBack e (by lia) (by rw[XO,<-d];exact g) (by lia) (by rw[f];exact⟨_,w,q⟩)
theorem xC (lo hi:Option Int) (n:Nat):(sliceBounds lo hi none n).1=((HT.sIx n 0 lo:Nat):Int)/\(sliceBounds lo hi none n).2.1=((HT.sIx n n hi:Nat):Int)/\(sliceBounds lo hi none n).2.2=1:=by
 refine⟨?_,?_,rfl⟩
 ·cases lo with
  | none=>simp[sliceBounds,HT.sIx]
  | some i=>
   simp only[sliceBounds,HT.sIx,Option.getD_none,show(1:Int) > 0 by decide,if_true];by_cases h:i<0
   ·simp only[h,if_true] <;> lia
   ·simp only[h,if_false] <;> lia
 ·cases hi with
  | none=>simp[sliceBounds,HT.sIx]
  | some i=>
   simp only[sliceBounds,HT.sIx,Option.getD_none,show(1:Int) > 0 by decide,if_true];by_cases h:i<0
   ·simp only[h,if_true] <;> lia
   ·simp only[h,if_false] <;> lia
theorem vc (its:Qqz) (lo hi:Option Int):slicePick its.toArray lo hi none=((its.drop (HT.sIx its.length 0 lo)).take (HT.sIx its.length its.length hi - HT.sIx its.length 0 lo)).toArray:=by
 obtain⟨a,b,c⟩:=xC lo hi its.toArray.size;unfold slicePick;rw[a,b,c];simp only[sliceRange_one,pick_run,XO] <;> rfl
def Ka (K:Vzz):V->Option Int->Option Int->Hp->VK->Prop:=λx lo hi H Q=>∃a xs,x = .ref a/\SqL K H a xs/\∀p,H p=none->Q (.ref p) (upd H p (.lst (ki xs lo hi)))
theorem qV:SlR X (Ka X.K):=by
 intro _ s _ H x v _ _ e f _ Q I k l n i h;obtain⟨a,c,rfl,m,q⟩:=h;cases k;obtain⟨_,r,g,j⟩:=I.list m;have d:=r.length;refine⟨"list",_,slot_list_getitem.lookup,g.isList.typeIs,?_⟩;refine wpAny_getItem_list_slice g.isList l n i .none (by simp) ?_ (by rw[XO] <;> lia);rw[vc,<-d];refine⟨.ref s.heap.objs.size,_,I.laid (t':=s.toks) (o:=.lst (ki c e f)) (λb _ q=>Vzu _ q) (XD _) ?_,rfl,q _ (I.hok.fresh (XD _))⟩;exact⟨XG (AS c e f) j,_,0,(r.drop (HT.sIx c.length 0 e)).take (HT.sIx c.length c.length f - HT.sIx c.length 0 e),Z0 _ rfl⟩
def gu:V->Bool
 | .non=>true
 | .bl _=>true
 | .int _=>true
 | .str _=>true
 | _=>false
def eqV:V->V->Bool
 | .non,.non=>true
 | .bl a,.bl b=>a == b
 | .bl a,.int b=>(if a then 1 else 0) == b
 | .int a,.bl b=>a == (if b then 1 else 0)
 | .int a,.int b=>a == b
 | .str a,.str b=>a == b
 | _,_=>false
theorem HK {s:Vzx}{y x:V}{v:Vzy} (e:RelV y u) (c:RelV x v) (g:gu y=true) (f:gu x=true):SeqAt.EqAt A s u v (eqV y x):=by
 cases y with
 | non=>
  cases e;cases x with
  | non=>cases c;exact SeqAt.EqAt.same _
  | bl b=>cases c;exact SeqAt.EqAt.none_bool b
  | int b=>obtain⟨t,rfl⟩:=c;exact SeqAt.EqAt.none_int b t
  | str b=>obtain⟨t,rfl⟩:=c;exact SeqAt.EqAt.none_str b t
  | _=>exact absurd (show false=true from f) XN
 | bl a=>
  cases e;cases x with
  | non=>cases c;exact SeqAt.EqAt.bool_none a
  | bl b=>cases c;exact SeqAt.EqAt.bool_bool a b
  | int b=>obtain⟨t,rfl⟩:=c;exact SeqAt.EqAt.bool_int a b t
  | str b=>obtain⟨t,rfl⟩:=c;exact SeqAt.EqAt.bool_str a b t
  | _=>exact absurd (show false=true from f) XN
 | int a=>
  obtain⟨d,rfl⟩:=e;cases x with
  | non=>cases c;exact SeqAt.EqAt.int_none a d
  | bl b=>cases c;exact SeqAt.EqAt.int_bool a d b
  | int b=>obtain⟨t,rfl⟩:=c;exact SeqAt.EqAt.int_int a d b t
  | str b=>obtain⟨t,rfl⟩:=c;exact SeqAt.EqAt.int_str a d b t
  | _=>exact absurd (show false=true from f) XN
 | str a=>
  obtain⟨d,rfl⟩:=e;cases x with
  | non=>cases c;exact SeqAt.EqAt.str_none a d
  | bl b=>cases c;exact SeqAt.EqAt.str_bool a d b
  | int b=>obtain⟨t,rfl⟩:=c;exact SeqAt.EqAt.str_int a d b t
  | str b=>obtain⟨t,rfl⟩:=c;exact SeqAt.EqAt.str_str a d b t
  | _=>exact absurd (show false=true from f) XN
 | _=>exact absurd (show false=true from g) XN
def eqU (x:V) (u:Vzy):Bool:=match u with
 | .none=>eqV .non x
 | .bool b=>eqV (.bl b) x
 | .int i _=>eqV (.int i) x
 | .str z _=>eqV (.str z) x
 | _=>false
theorem B5 {x y:V} (r:RelV y u) (f:gu y=true):eqU x u=eqV y x:=by
 cases y with
 | non=>cases r;rfl
 | bl b=>cases r;rfl
 | int i=>obtain⟨t,rfl⟩:=r;rfl
 | str z=>obtain⟨t,rfl⟩:=r;rfl
 | _=>exact absurd (show false=true from f) XN
theorem nz {x:V}:∀{xs:Qqt}{us:Qqz},aO xs us->xs.all gu=true->us.any (eqU x)=xs.any λy=>eqV y x
 | _,_,.nil,_=>rfl
 | y::xs,u::us,.cons r t,f=>by
  rw[ZK,Yd]at f;rw[Yy,Yy,B5 r f.1,nz t f.2]
theorem iK {A:Yaw}{s:Vzx}{x:V}{v:Vzy} (c:RelV x v) (b:gu x=true):∀{xs:Qqt}{us:Qqz},aO xs us->xs.all gu=true->∀u∈us,SeqAt.EqAt A s u v (eqU x u)
 | _,_,.nil,_=>λu a=>by cases a
 | y::xs,u::us,.cons r t,f=>λd a=>by
  rw[ZK,Yd]at f;rcases XQ.mp a with rfl | a
  ·rw[B5 r f.1];exact HK r c f.1 b
  ·exact iK c b t f.2 d a
def inV (x:V) (xs:Qqt):Bool:=xs.any λy=>eqV y x
def rIn (K:Vzz) (neg:Bool):R2:=λx y H Q=>∃p xs,y = .ref p/\(SqL K H p xs\/SqT K H p xs)/\gu x=true/\xs.all gu=true/\Q (.bl (if neg then !inV x xs else inV x xs)) H
theorem vY:OpR X (compareOp .In) (rIn X.K false):=by
 intro _ s _ H x y v u Q I f i h;obtain⟨p,_,rfl,b,g,c,q⟩:=h;cases i;rcases b with b | b
 ·obtain⟨a,r,d,j⟩:=I.list b;refine SeqAt.in_listAt (eqU x) d.isList (λw e=>iK f g r c w (by simpa using e)) ⟨.bl _,H,I,rfl,?_⟩;rw[show a.toArray.any (eqU x)=a.any (eqU x)by simp,nz r c];exact q
 ·obtain⟨a,r,d,j⟩:=I.tuple b;refine SeqAt.in_tupleAt (eqU x) d (λw e=>iK f g r c w (by simpa using e)) ⟨.bl _,H,I,rfl,?_⟩;rw[show a.toArray.any (eqU x)=a.any (eqU x)by simp,nz r c];exact q
theorem xS:OpR X (compareOp .NotIn) (rIn X.K true):=by
 intro _ s _ H x y v u Q I f i h;obtain⟨p,_,rfl,b,g,c,q⟩:=h;cases i;rcases b with b | b
 ·obtain⟨a,r,d,j⟩:=I.list b;refine SeqAt.notIn_listAt (eqU x) d.isList (λw e=>iK f g r c w (by simpa using e)) ⟨.bl _,H,I,rfl,?_⟩;rw[show a.toArray.any (eqU x)=a.any (eqU x)by simp,nz r c];exact q
 ·obtain⟨a,r,d,j⟩:=I.tuple b;refine SeqAt.notIn_tupleAt (eqU x) d (λw e=>iK f g r c w (by simpa using e)) ⟨.bl _,H,I,rfl,?_⟩;rw[show a.toArray.any (eqU x)=a.any (eqU x)by simp,nz r c];exact q
theorem yG:fV X (.builtin "len") (λxs H Q=>∃p ys,xs=[.ref p]/\(SqL X.K H p ys\/SqT X.K H p ys)/\Q (.int ys.length) H):=by
 intro _ s _ H xs _ Q I r h;obtain⟨p,ys,rfl,b,q⟩:=h;obtain⟨u,rfl,g⟩:=vals1 r;cases g;have i:=l6;rcases b with b | b
 ·obtain⟨c,d,e,f⟩:=I.list b;have a:=d.length;exact Calls.call_len_list e.isList (by simp only[XO] <;> lia) ⟨.int ys.length,H,I.tok _,⟨s.toks+1,by rw[XO,a]⟩,q⟩
 ·obtain⟨c,d,e,f⟩:=I.tuple b;have a:=d.length;exact len_tuple e (by simp only[XO] <;> lia) ⟨.int ys.length,H,I.tok _,⟨s.toks+1,by rw[XO,a]⟩,q⟩
theorem nv:fV X (.builtin "len") (λxs H Q=>∃z,xs=[.str z]/\z.length<=Yb0/\Q (.int z.length) H):=by
 intro _ s _ H xs _ Q I r h;obtain⟨z,rfl,_,q⟩:=h;obtain⟨u,rfl,t,rfl⟩:=vals1 r;have a:=l6;exact len_str (by lia) ⟨.int z.length,H,I.tok _,⟨_,rfl⟩,q⟩
theorem xI:fV X (.type "list") (λxs H Q=>∃p ys,xs=[.ref p]/\(SqL X.K H p ys\/SqT X.K H p ys)/\∀l,H l=none->Q (.ref l) (upd H l (.lst ys))):=by
 intro j s z H xs _ Q I r h;obtain⟨p,ys,rfl,k,q⟩:=h;obtain⟨u,rfl,y⟩:=vals1 r;cases y;have f:∀(a:Qqz),aO ys a->ys.length<=Yb0->∀(h':Heap) (c':Nat),(∀b o',s.heap.get? b=some o'->h'.get? b=some o') ->
   h'.get? s.heap.objs.size=some { cls:=.type "list",dict:=none,data:=.seq a.toArray c',slots:=#[] }->EP X j z Q (.ref s.heap.objs.size) { s with heap:=h' }:=λa c i h' c' d e=>
  ⟨.ref s.heap.objs.size,_,I.laid (t':=s.toks) d (XD _) (show bC X.prog X.w _ h' _ (.lst ys)from⟨i,a,c',c,e⟩),rfl,q _ (I.hok.fresh (XD _))⟩
 rcases k with k | k
 ·obtain⟨a,c,x,i⟩:=I.list k;have g:=c.length;obtain⟨o,v,m,n,t⟩:=x.isList;exact call_list_seq p (.inl rfl) v m t (λh' c' d e=>f a c i h' c' d e) (by simp only[XO] <;> lia)
 ·obtain⟨a,c,x,i⟩:=I.tuple k;have g:=c.length;obtain⟨o,v,m,n,t⟩:=x;exact call_list_seq p (.inr rfl) v m t (λh' c' d e=>f a c i h' c' d e) (by simp only[XO] <;> lia)
theorem iq:fV X (.type "tuple") (λxs H Q=>∃p ys,xs=[.ref p]/\((SqL X.K H p ys/\∀l,H l=none->Q (.ref l) (upd H l (.tup ys)))\/(SqT X.K H p ys/\Q (.ref p) H))):=by
 intro c s v H xs _ Q I r h;obtain⟨p,ys,rfl,h⟩:=h;obtain⟨u,rfl,t⟩:=vals1 r;cases t;rcases h with⟨g,q⟩ | ⟨g,q⟩
 ·obtain⟨a,f,i,k⟩:=I.list g;have j:=f.length;refine call_tuple_list i.isList (λd n=>?_) (by simp only[XO] <;> lia);have m:=I.kept (t':=s.toks) n;have x:Inv X c v (upd H d.objs.size (.tup ys)) { s with heap:=d.push { cls:=.type "tuple",data:=.seq a.toArray } }:=
   m.laid (t':=s.toks) (λb o e=>Vzu _ e) (XD _) (show bC X.prog X.w _ _ _ (.tup ys)from⟨k,a,f,IsTup.new _ _⟩)
  exact⟨.ref d.objs.size,_,x,rfl,q _ (m.hok.fresh (XD _))⟩
 ·obtain⟨a,f,i,k⟩:=I.tuple g;exact call_tuple_same i ⟨.ref p,H,I,rfl,q⟩
def tyV (K:Vzz) (T:String) (x:V) (H:Hp):Prop:=match x with
 | .str _=>T = "str"
 | .int _=>T = "int"
 | .ref p=>(T = "list" /\ ∃xs,SqL K H p xs)\/(T = "tuple" /\ ∃o,K.lookup p=some o/\o.cls = .type "tuple" /\ o.dict=none) \/
   (T = "dict" /\ ((∃kvs,H p=some (.dK kvs))\/∃kvs,H p=some (.dT kvs)))\/(T = "set" /\ ∃S n,H p=some (.set S n))
 | _=>False
theorem Ql {s:Vzx}{T:String}{x:V}{v:Vzy} (I:Inv X pins σ H s) (r:RelV x v) (ty:tyV X.K T x H) :
  s.TypeIs v T/\∀a,v = .ref a->∃ob,s.heap.get? a=some ob/\ob.dict=none:=by
 cases x with
 | str z=>
  obtain⟨t,rfl⟩:=r;cases(show T = "str" from ty);exact⟨typeIs_str s z t,λ_ e=>nomatch e⟩
 | int i=>
  obtain⟨t,rfl⟩:=r;cases(show T = "int" from ty);exact⟨typeIs_int s i t,λ_ e=>nomatch e⟩
 | ref p=>
  cases r;rcases ty with⟨rfl,_,l⟩ | ⟨rfl,o,b,k,h⟩ | ⟨rfl,b⟩ | ⟨rfl,S,n,b⟩
  ·obtain⟨_,_,j,_⟩:=I.list l;refine⟨j.isList.typeIs,λa e=>?_⟩;cases e;obtain⟨o,n,e,c,h,_⟩:=j;exact⟨o,e,h⟩
  ·refine⟨⟨o,I.kIn p o b,k⟩,λa e=>?_⟩;cases e;exact⟨o,I.kIn _ o b,h⟩
  ·have z:∃o,s.heap.get? p=some o/\o.ExactDict:=by
    rcases b with⟨f,b⟩ | ⟨f,b⟩
    ·obtain⟨_,_,_,_,o,_,_,e,d,_⟩:=I.hok p _ b;exact⟨o,e,d⟩
    ·obtain⟨_,_,_,_,o,_,_,e,d,_⟩:=I.hok p _ b;exact⟨o,e,d⟩
   obtain⟨o,e,d⟩:=z;refine⟨⟨o,e,d.1⟩,λa g=>?_⟩;cases g;exact⟨o,e,d.2.1⟩
  ·obtain⟨o,_,_,_,e,d,_⟩:=I.hok p _ b;refine⟨⟨o,e,d.1⟩,λa g=>?_⟩;cases g;exact⟨o,e,d.2.1⟩
 | _=>exact False.elim ty
def tBM (K:Vzz) (T:String) (r:V->Qqt->Hp->VK->Prop) (to:TE) (t:TA):TE:=λσ H Q=>to σ H λx H1=>tyV K T x H1/\t σ H1 λxs H2=>r x xs H2 Q
variable {o e:Expr}{es:List Expr}{to:TE}{T id:String}
theorem fc (pa:PlainAttrs T) (slot:Slot T name id) (c:typeOf (.builtin id)=pure (.type "method_descriptor")) (E:MtR X id r) (B:PE X o to) (w:PA X (e::es) t)
  (m:attributeBase o name X.env (eval o X.env)=eval o X.env:=by rfl)
  (u:((backTo dR (Yb2 (e::es) X.env)).all (λx=>!x.1) && (backToKw dR (keywordEach [] X.env)).all (λx=>x.1.isSome)
   && decide ((e::es).length+([]:List Keyword).length+(if ([]:List Keyword).isEmpty then 0 else 1)<30))=true:=by rfl)
  (C:(apos.endLine == dR.line)=true:=by rfl) (z:Yb2 (e::es) X.env=(false,eval e X.env)::Yb2 es X.env:=by rfl) (k:(backTo dR (Yb2 es X.env)).any (·.1)=false:=by rfl) :
  PE X (.Call (.Attribute o name apos) (e::es) [] dR) (tBM X.K T r to t):=by
 intro a s b H Q I h;refine wpAny_Call_method_late m u C rfl (thn (B a s b H _ I h) λv l ⟨x,g,d,f,G,J⟩=>?_);obtain⟨j,n⟩:=Ql d f G;refine⟨T,id,pa,slot,c,j,n,?_⟩;have hA:=w dR a l b g _ d J;rw[z]at hA ⊢;refine Calls.callWith_builtin (by show(false || (backTo dR (Yb2 es X.env)).any (·.1))=false;rw[k] <;> rfl) (Calls.evalArgs_plain ?_)
 exact thn hA λp i ⟨A,D,F,y,q⟩=>E a i b D x A v p Q F f y q
end
def MtM (X:Cx) (id:String) (r:V->Qqt->Hp->VK->Prop):Prop:=
 ∀(pins:List (Yau×Obj)) (s:Vzx) (σ:St) (H:Hp) (x:V) (xs:Qqt) (v:Vzy) (us:Qqz) (Q:VK),Inv X pins σ H s->RelV x v->aO xs us->r x xs H Q ->
  Yb1 (model X.prog X.w) X.A (call (.builtin id) (v::us)) (EP X pins σ Q) X.xe s
theorem aO.one:∀{x:V}{us:Qqz},aO [x] us->∃u,us=[u]/\RelV x u
 | _,_,.cons r .nil=>⟨_,rfl,r⟩
section
variable {s:Vzx}{l:Yau}{zs:Qqt}
theorem Inv.FX {its jG:Qqz}{n:Nat}{f:Qqw->Qqw}{t':Nat} (I:Inv X pins σ H s) (hH:H l=some (.lst xs))
  (e:s.heap.get? l=some { cls:=.type "list",data:=.seq its.toArray n }) (b:f its.toArray=jG.toArray) (a:aO ys jG) (hz:ys.length<=Yb0) :
  Inv X pins σ (upd H l (.lst ys)) { s with heap:=s.heap.update l (Z9 f),toks:=t' }:=by
 have q:=PySem.IsL.update e f;rw[b]at q;refine I.write (x:=l) (e:=l) (by rw[hH];exact trivial) (.inl rfl) (λ_ u c d=>(W9 s.heap (Z9 f) (Ya4 c)).trans d) ⟨_,q⟩ ?_;exact⟨hz,jG,_,a,q⟩
theorem Inv.WD {its:Qqz}{t':Nat} (I:Inv X pins σ H s) (a:aO ys its) (hz:ys.length<=Yb0) :
  Inv X pins σ (upd H s.heap.objs.size (.lst ys)) { s with heap:=s.heap.push { cls:=.type "list",data:=.seq its.toArray },toks:=t' }:=
 I.laid (λ_ _ q=>Vzu _ q) (XD _) ⟨hz,its,0,a,Z0 _ rfl⟩
theorem Inv.fresh (I:Inv X pins σ H s):H s.heap.objs.size=none:=I.hok.fresh (XD _)
theorem Inv.Gf (I:Inv X pins σ H s) (hH:H l=some (.lst xs)):xs.length<=Yb0/\∃(its:Qqz) (n:Nat),aO xs its/\xs.length=its.length/\s.heap.get? l=some { cls:=.type "list",data:=.seq its.toArray n }:=by
 obtain⟨z,its,n,r,e⟩:=I.hok l _ hH;exact⟨z,its,n,r,r.length,e⟩
theorem Ib (h:n<=Yb0):Builtin.List.listTooLong n=false:=by
 unfold Builtin.List.listTooLong;exact Yb5 (by lia)
end
def Np:V->Qqt->Hp->VK->Prop:=λx vs H Q=>∃l xs y,x = .ref l/\vs=[y]/\H l=some (.lst xs)/\xs.length<Yb0/\Q .non (upd H l (.lst (xs++[y])))
theorem d7:MtM X "list.append" Np:=by
 intro _ s _ H x _ v _ Q I b c h;obtain⟨l,_,y,rfl,rfl,hH,_,q⟩:=h;cases b;obtain⟨u,rfl,d⟩:=c.one;obtain⟨z,a,n,r,_,e⟩:=I.Gf hH;refine call_meets F.slot_list_append ⟨_,e,rfl⟩ F.entry_list_append (F.args_list_append_2 _ _) (PySem.list_append l a.toArray n u (by rw[XO];lia)) ⟨e,?_⟩;refine⟨.non,_,I.FX (jG:=a++[u]) hH e (by simp) (r.append (.cons d .nil)) ?_,rfl,q⟩;rw[XI,XZ];lia
def MB:V->Qqt->Hp->VK->Prop:=λx vs H Q=>∃l b xs zs,x = .ref l/\vs=[.ref b]/\H l=some (.lst xs)/\H b=some (.lst zs)/\xs.length+zs.length<=Yb0/\Q .non (upd H l (.lst (xs++zs)))
theorem wm:MtM X "list.extend" MB:=by
 intro _ s _ H x _ v _ Q I j k h;obtain⟨l,b,_,_,rfl,rfl,hH,f,_,q⟩:=h;cases j;obtain⟨u,rfl,o⟩:=k.one;cases o;obtain⟨z,a,n,r,_,e⟩:=I.Gf hH;obtain⟨_,c,p,m,_,i⟩:=I.Gf f;have d:a.toArray.size+c.toArray.size<=Yb0:=by rw[XO,XO];lia
 have g:¬ (!a.toArray.isEmpty && Builtin.List.listTooLong (a.toArray.size+c.toArray.size))=true:=by
  rw[Ib d,YO];exact XN
 refine call_meets F.slot_list_extend ⟨_,e,rfl⟩ F.entry_list_extend (F.args_list_extend_2 _ _)
  (AutoSeq1.list_extend_list_list_0 l a.toArray n b c.toArray p g (by rw[XO];lia) (by lia)) ⟨e,i,?_⟩
 refine⟨.non,_,I.FX (jG:=a++c) hH e (by simp) (r.append m) ?_,rfl,q⟩;rw[XI];lia
section
variable {s:Vzx}
end
end L2
namespace Att
open PySem PySem.W PySem.Calls PyProof.Rows
theorem qm {P:Params}:∀(ns:List Int) (vs:Qqz),WellAll P h vs (ns.map WData.int)->IntsAre vs ns:=by
 intro ns
 induction ns with
 | nil=>
  intro vs w;rw[YU]at w;cases w;exact .nil
 | cons n ns c=>
  intro vs w;rw[XS]at w;cases w with
  | cons a b=>
   cases a;exact .cons _ _ (c _ b)
theorem Gv {l:OpenLaw} (m:l.most=some n) {P:Params}{args:List WData}{b:Qqz}
  (k:l.row.toRowW.claim.pre args=true) (g:WellAll P h b args) :
  ∃a vs ns,b=[Value.ref a]/\args=[WData.list (ns.map WData.int)]/\h.get? a=some { cls:=.type "list",data:=.seq vs.toArray }/\IntsAre vs ns/\ns.length<=n:=by
 have i:=(pre_splitW k).1;have j:l.pre.holds [] { args:=args }=true:=(pre_splitW k).2;obtain⟨d,r,rfl,o,s⟩:=hasAllW_cons i;obtain rfl:=hasAllW_nil s;obtain⟨_,rfl,p⟩:=hasW_list o;obtain⟨ns,rfl⟩:=items_int p;have c:ns.length<=n:=by
  unfold OpenLaw.pre at j;have f:(WTm.not (.lt (.lit (.int (n:Int))) (.len (.arg 0)))).holds [] { args:=[.list (ns.map .int)] }=true:=by
   have f:=(holds_andW j).1;rw[m]at f;exact f
  have e:=condW_of f (w_not (w_lt w_lit (w_len_list (w_arg rfl))));rw[XA]at e;refine Nat.le_of_not_lt λq=>?_;have v:(n:Int)<((ns.length:Nat):Int):=by lia
  first
   | (rw[Yb4 v]at e;exact absurd e (by decide))
   | (simp at e;lia)
 cases g with
 | cons w1 w2=>
  cases w2;cases w1 with
  | list t u=>exact⟨_,_,ns,rfl,rfl,t,qm ns _ u,c⟩
theorem FF (l:OpenLaw) (args:List WData):l.row.toRowW.claim.post args (.bool true) args=true:=
 postW_of (r:=l.row.toRowW) (X:=(true == true))
  (show WShape.has [] (.bool true) .bool=true by first | rfl | decide | simp[WShape.has,WShape.arms,WShape.armsAll])
  (show(WTm.eq .res (.lit (.bool true))).value [] { args:=args,res:=some (.bool true),after:=args }=some (.bool (true == true))from w_eq_bool (w_res rfl) w_lit) rfl
theorem zS {l:OpenLaw}{q:Yax}{loose:Qqv}{m:(Str->Option Vzy)->Heap->Prop}{k:Yay->Heap->Prop}{d:DefRec}
  (p:l.most=some n) (g:d.params.defaults=[])
  (c:∀(w:Yay) (s₀ s₁:Vzx) (mg mb:Str->Option Vzy) (fa:Yau) (o:Obj) (pm cd doc:Vzy) (a:Yau) (vs:Qqz) (ns:List Int),
   Ground q loose [] m w s₀ mg mb s₁.heap->k w s₁.heap ->
   s₁.heap.get? fa=some o->o.data = .func (docDef d.name d.params d.body d.scope pm cd doc)->s₁.heap.CodeRec cd d.name->mg d.name=some (.ref fa) ->
   s₁.heap.get? a=some { cls:=.type "list",data:=.seq vs.toArray }->IntsAre vs ns->ns.length<=n->s₁.gens = #[] ->
   codeAny (model l.prog w) callerA (.call (.ref fa) ⟨[.ref a],[]⟩) (λr s'=>r = .ok (.ret (.bool true))/\OldK s₁.heap s'.heap/\s'.os=s₁.os/\AllBare s'.gens) s₁) :
  WalkO q loose m k l.row.toRowW d [] (λf vs=>PySem.call f vs):=by
 intro w s₀ s₁ mg mb G Y fa o pm cd doc E kV z y e j h u _ _ _ C _ _ i _;obtain rfl:E = .none:=Dflts.none j g;obtain rfl:kV = .none:=Dflts.noKw j;obtain⟨a,vs,ns,rfl,rfl,s,B,b⟩:=Gv p C i;refine enter_call (codeAny_mono (c w s₀ s₁ mg mb fa o pm cd doc a vs ns G Y z (fd_plain y) e h s B b u) λr s' D=>?_);obtain⟨rfl,v,t,x⟩:=D;exact⟨.inl ⟨.bool true,.bool true,[],rfl,λ_=>rfl,.bool true,FF l _,λ_=>⟨List.Pairwise.nil,λ_ A=>(nomatch A)⟩⟩,v,t,x⟩
section
variable {s:Vzx}{K:Frag}
end
end Att
namespace L2
open PySem PySem.Spec PyProof.Rows
theorem wC:∀{vs:Qqz}{ns:List Int},IntsAre vs ns->aO (ns.map V.int) vs
 | _,_,.nil=>.nil
 | _,_,.cons n t h=>.cons ⟨t,rfl⟩ (wC h)
abbrev CX0:CXT:=λ_ _ _ _ _ _=>False
abbrev E0:XK:=λ_ _ _=>False
theorem bu:l7 CX0 X E0:=λ_ _ _ _ _ _ _ h=>h.elim
structure Fun (K:Vzz) (x qual:Str) (st:Stmt) (f:Yau) (fd:Yav):Prop where
 ex:∃(oc:Vzy) (od:Option Yau) (kV doc pm:Vzy) (an:Option Yau) (cdv ct:Vzy) (osl:Array (Option Vzy)),
  fd=Ya1 x qual (cR st) (b6 st) (ae st) .none kV doc pm an cdv ct/\K.lookup f=some ⟨oc,od,.func fd,osl⟩/\Yae K cdv qual=true
 kp:Ya5 K (.ref f)=true
section
variable {P:Yax}
theorem Fun.ok {st:Stmt}{k:Nat} (F:Fun K x qual st f fd) (S:ax N ps (ae st)) (c:∀vs H Q E,sp vs H Q E->vs.length=ps.length)
  (e:∀(cdv:Vzy) (A:Yaw) (outer:List Env) (s:Vzx) (H:Hp) (vs:Qqt) (Q:VK) (E:XK),bB k (A.deeper (envOfC qual (ae st) s.heap.objs.size f cdv))->sp vs H Q E ->
   ∃t,PSs (yN CX0 P w K mg base N qual (ae st) f cdv A outer s H E).nox (b6 st) t/\t { nx:=λ_ H'=>Q .non H',rt:=Q } (start N vs) H):d6 P w K mg base CX0 (k+1) f fd ps sp:=by
 obtain⟨_,_,kV,_,_,_,cdv,_,_,rfl,d,a⟩:=F.ex;refine HQ d a S c λA outer s H vs Q E g b=>?_;obtain⟨t,h,q⟩:=e cdv A outer s H vs Q E g b;exact⟨t,h.nox,q⟩
theorem Fun.binds {st:Stmt} (F:Fun K x qual st f fd)
  (h:∀(kV doc pm:Vzy) (an:Option Yau) (cdv ct:Vzy) (us:Qqz),us.length=ps.length->bindArgs (Ya1 x qual (cR st) (b6 st) (ae st) .none kV doc pm an cdv ct) ⟨us,[]⟩=pure (ps.zip us)):Binds K fd ps []:=by
 obtain⟨_,_,kV,doc,pm,an,cdv,ct,_,rfl,_,_⟩:=F.ex;exact .all (h kV doc pm an cdv ct)
theorem HW {st:Stmt}{i:Vzy}{j e:Option Yau}{d:Array (Option Vzy)}{kV b g a h:Vzy} (l:K.lookup f=some ⟨i,j,.func (Ya1 x qual (cR st) (b6 st) (ae st) .none kV b g e a h),d⟩)
  (c:Yae K a qual=true) (k:Ya5 K (.ref f)=true):Fun K x qual st f (Ya1 x qual (cR st) (b6 st) (ae st) .none kV b g e a h):=⟨⟨i,j,kV,b,g,e,a,h,d,rfl,l,c⟩,k⟩
end
theorem Q8 {k:Nat} (hr:bB k A):A.units+1<cLine:=Y6 (Nat.add_le_add_left (by decide:1<=64) _) hr.units
theorem pv (i:Nat) {pos:Pos} (c:X.N[i]? = some x:=by rfl) (b:Vis X.env.scope x:=by first | exact Or.inl rfl | exact Or.inr (Or.inl rfl) | exact Or.inr (Or.inr rfl)) (d:(x == ("__debug__" : Str))=false:=by decide)
  (a:(x == ("__classdict__" : Str))=false:=by decide):PE X (.Name x pos) (o5 i):=Pc c b d a
theorem aX {A B:Prop} (h:B):if false=true then A else B:=by
 rw[Yb8 XN];exact h
theorem bN {A B:Prop} (h:A):if true=true then A else B:=by
 rw[Yb7 rfl];exact h
theorem zU {c A B:Prop} [Decidable c] (h1:c->A) (h2:¬ c->B):if c then A else B:=by
 by_cases h:c
 ·rw[Yb7 h];exact h1 h
 ·rw[Yb8 h];exact h2 h
def ab (H H':Hp):Prop:=∀b o,H b=some o->H' b=some o
theorem ab.refl (H:Hp):ab H H:=λ_ _ h=>h
theorem ab.trans (a:ab H H1) (b:ab H1 H2):ab H H2:=λc o h=>b c o (a c o h)
theorem ab.free (e:ab H H') {l:Yau} (h:H' l=Option.none):H l=Option.none:=by
 cases q:H l with
 | none=>rfl
 | some o=>
  rw[e l o q]at h;cases h
theorem ab.seq (e:ab H H') (h:SqL K H a xs):SqL K H' a xs:=by
 rcases h with(h | ⟨o,h⟩) | h
 ·exact .inl (.inl (e _ _ h))
 ·exact .inl (.inr ⟨o,e _ _ h⟩)
 ·exact .inr h
section
variable [DecidableEq κ]
def eu (kvs:List (κ×V)) (k:κ):Option V:=(kvs.find? λkv=>decide (kv.1=k)).map (·.2)
def putK (kvs:List (κ×V)) (k:κ) (v:V):List (κ×V):=
 if (kvs.any λkv=>decide (kv.1=k))=true then kvs.map (λkv=>if kv.1=k then(kv.1,v)else kv)else kvs++[(k,v)]
theorem cW {p:κ×V}{r:List (κ×V)}{k:κ} (e:p.1=k):eu (p::r) k=some p.2:=by simp[eu,Yz,e]
theorem eZ {p:κ×V}{r:List (κ×V)}{k:κ} (e:¬ p.1=k):eu (p::r) k=eu r k:=by simp[eu,Yz,e]
theorem rc (k:κ):∀kvs:List (κ×V),(kvs.any λkv=>decide (kv.1=k))=(eu kvs k).isSome
 | []=>rfl
 | p::r=>by
  rw[Yy];by_cases e:p.1=k
  ·simp only[cW e,Yb4 e,Bool.true_or,Option.isSome_some]
  ·rw[eZ e,Yb5 e,Bool.false_or];exact rc k r
theorem zN (k j:κ) (y:V):∀kvs:List (κ×V),eu (kvs.map λkv=>if kv.1=k then(kv.1,y)else kv) j=(eu kvs j).map λx=>if j=k then y else x
 | []=>rfl
 | p::r=>by
  have a:=zN k j y r;rw[XS];by_cases h:p.1=k
  ·rw[Yb7 h];by_cases e:p.1=j
   ·rw[cW (p:=(p.1,y)) e,cW e,Option.map_some,Yb7 (e.symm.trans h)]
   ·grind [eZ]
  ·rw[Yb8 h];by_cases e:p.1=j
   ·rw[cW (p:=p) e,cW e,Option.map_some,Yb8 (λz=>h (e.trans z))]
   ·grind [eZ]
theorem vH (k j:κ) (y:V):∀kvs:List (κ×V),eu kvs k=none->eu (kvs++[(k,y)]) j=if j=k then some y else eu kvs j
 | [],_=>by
  by_cases e:k=j
  ·rw[Yb7 e.symm];exact cW (p:=(k,y)) e
  ·rw[Yb8 (λz=>e z.symm)];exact eZ (p:=(k,y)) e
 | p::r,hn=>by
  rw[YB];have a:¬ p.1=k:=λz=>by grind [cW]
  rw[eZ a]at hn;by_cases e:p.1=j
  ·rw[cW e,cW e,Yb8 (λz=>a (e.trans z))]
  ·rw[eZ e,eZ e,(vH k j y r hn)]
theorem LO (kvs:List (κ×V)) (k j:κ) (y:V):eu (putK kvs k y) j=if j=k then some y else eu kvs j:=by
 unfold putK;by_cases a:(kvs.any λb=>decide (b.1=k))=true
 ·rw[Yb7 a,zN];rw[rc]at a;by_cases e:j=k
  ·obtain⟨x,_⟩:=Option.isSome_iff_exists.mp a
   simp_all
  ·simp_all
 ·rw[Yb8 a];refine vH k j y kvs ?_;rw[rc]at a
  simp_all
theorem qe (kvs:List (κ×V)) (k:κ) (v:V):(putK kvs k v).length<=kvs.length+1:=by
 unfold putK
 grind
theorem g6.Fu {o:Option V}{u:Option Vzy} (r:g6 o u):o.isSome=u.isSome:=by
 cases o with
 | none=>cases u with
  | none=>rfl
  | some _=>exact(show False from r).elim
 | some _=>cases u with
  | none=>exact(show False from r).elim
  | some _=>rfl
theorem g6.getD {o:Option V}{u:Option Vzy}{d:V}{d':Vzy} (r:g6 o u) (a:RelV d d'):RelV (o.getD d) (u.getD d'):=by
 cases o with
 | none=>cases u with
  | none=>exact a
  | some _=>exact(show False from r).elim
 | some _=>cases u with
  | none=>exact(show False from r).elim
  | some _=>exact r
theorem KV.val {kvs:List (κ×V)}{vs:List (κ×Vzy)} (r:KV kvs vs) (k:κ):g6 (eu kvs k) (valueAt vs k):=by
 induction r with
 | nil=>exact True.intro
 | @cons p q ps qs h t ih=>
  obtain⟨c,_⟩:=h;by_cases e:p.1=k
  ·have a:=c.symm.trans e;have b:valueAt (q::qs) k=some q.2:=by simp[valueAt,Yz,a]
   rwa [cW e,b]
  ·grind [valueAt,Yz,eZ]
theorem KV.any {kvs:List (κ×V)}{vs:List (κ×Vzy)} (r:KV kvs vs) (k:κ):(kvs.any λkv=>decide (kv.1=k))=vs.any λkv=>decide (kv.1=k):=by
 induction r with
 | nil=>rfl
 | cons h t ih=>rw[Yy,Yy,ih,h.1]
theorem KV.VG {kvs:List (κ×V)}{vs:List (κ×Vzy)} (r:KV kvs vs) (k:κ) {y:V} (a:RelV y u) :
  KV (kvs.map λkv=>if kv.1=k then(kv.1,y)else kv) (vs.map λkv=>if kv.1=k then(kv.1,u)else kv):=by
 induction r with
 | nil=>exact .nil
 | @cons p q ps qs h t ih=>
  rw[XS,XS];refine .cons ?_ ih;lia
theorem KV.put {kvs:List (κ×V)}{vs:List (κ×Vzy)} (r:KV kvs vs) (k:κ) {y:V} (a:RelV y u):KV (putK kvs k y) (stored vs k u):=by
 unfold putK stored;rw[r.any k];by_cases e:(vs.any λb=>decide (b.1=k))=true
 ·rw[Yb7 e,Yb7 e];exact r.VG k a
 ·rw[Yb8 e,Yb8 e];exact Paired.snoc r ⟨rfl,a⟩
theorem KV.length {kvs:List (κ×V)}{vs:List (κ×Vzy)} (r:KV kvs vs):kvs.length=vs.length:=Paired.length r
end
theorem ET {P:Yax}{k:Key} (r:RelV (kV k) u):(aQ P w).is k u=true:=by
 cases k with
 | inl i=>obtain⟨t,e⟩:=(show∃t,u=Value.int i t from r);subst e;exact AN P w i t
 | inr x=>obtain⟨t,e⟩:=(show∃t,u=Value.str x t from r);subst e;exact ic P w x t
theorem vP {P:Yax}{w:Yay}:∀{ks:List Key}{us:Qqz},aO (ks.map kV) us->ItemsAre (aQ P w) ks us
 | [],_,r=>by rw[YU]at r;cases r;exact .nil
 | k::ks,_,r=>by
  rw[XS]at r;cases r with
  | cons h t=>exact .cons (ET h) (vP t)
abbrev KT (H:Hp):List (List Key×V)->List (List Key×Yau×Vzy)->Prop:=Paired λp q=>p.1=q.1/\H q.2.1=some (.tup (p.1.map kV))/\RelV p.2 q.2.2
theorem KT.val {kvs:List (List Key×V)}{xs:List (List Key×Yau×Vzy)} (r:KT H kvs xs) (k:List Key):g6 (eu kvs k) ((atKey xs k).map (·.2)):=by
 induction r with
 | nil=>exact True.intro
 | @cons p q ps qs h t ih=>
  obtain⟨c,_,_⟩:=h;by_cases e:p.1=k
  ·have a:=c.symm.trans e;have b:atKey (q::qs) k=some q.2:=by simp[atKey,Yz,a]
   rwa [cW e,b]
  ·grind [atKey,Yz,eZ]
section
variable {P:Yax}
theorem Ol {u:HO} (ok:HOk P w H h) (e:Rd H a u):bC P w H h a u:=e.ok ok
theorem As (ok:HOk P w H h) (e:Rd H a (.dK kvs)):kvs.length<=Yb0/\(a == sysModules)=false/\∃vs,KV kvs vs/\h.DictOf (aQ P w) a vs:=
 show bC P w H h a (.dK kvs)from Ol ok e
theorem Rm (ok:HOk P w H h) (e:H a=some (.dK kvs)):kvs.length<=Yb0/\(a == sysModules)=false/\∃vs,KV kvs vs/\h.DictOf (aQ P w) a vs:=As ok (.inl e)
theorem HS (c:HOk P w H h) (e:H a=some (.tup (ks.map kV))):(tupleKind (aQ P w)).is h ks a:=by
 obtain⟨_,b,r,o,d,f,n,g⟩:=(show bC P w H h a (.tup (ks.map kV))from c a _ e);exact⟨o,b.toArray,n,d,f,g,by simpa using vP r⟩
theorem Ic {kvs:List (List Key×V)} (n:HOk P w H h) (e:Rd H a (.dT kvs)):kvs.length<=Yb0/\(a == sysModules)=false /\
  ∃xs,KT H kvs xs/\h.DictOfH (tupleKind (aQ P w)) a xs:=by
 obtain⟨z,y,xs,r,o,k,s,d,i,f,j,g⟩:=(show bC P w H h a (.dT kvs)from Ol n e);refine⟨z,y,xs,r,o,k,s,d,i,f,j,λx c=>?_,g⟩;have b:∀{l:List (List Key×V)}{m:List (List Key×Yau×Vzy)},KT H l m->∀x∈m,(tupleKind (aQ P w)).is h x.1 x.2.1:=by
  intro l m q
  induction q with
  | nil=>intro x c;exact nomatch c
  | @cons p q ps qs hq t ih=>
   grind [HS]
 exact b r x c
end
def GH (H:Hp) (a:Yau) (y:V) (r:Option V):Prop:=
 (∃kvs k,Rd H a (.dK kvs)/\y=kV k/\r=eu kvs k)\/∃kvs k b,Rd H a (.dT kvs)/\y = .ref b/\H b=some (.tup (k.map kV))/\r=eu kvs k
theorem GH.k {k:Key} (e:H a=some (.dK kvs)):GH H a (kV k) (eu kvs k):=.inl ⟨kvs,k,.inl e,rfl,rfl⟩
section
variable {s:Vzx}{y:V}{r:Vzy}{o:Option V}
theorem Inv.big (I:Inv X pins σ H s):sysModules<s.heap.objs.size:=by
 exact Nat.lt_trans (by decide) ((I.mod.glob.keeps I.bk).lt)
theorem FQ (C:A.units+1<cLine) (I:Inv X pins σ H s) (g:GH H a y (some v)) (q:RelV y u) (h:∀w' s',Inv X pins σ H s'->RelV v w'->Q w' s') :
  Yb1 (model X.prog X.w) A (getItem (.ref a) u) Q E s:=by
 rcases g with⟨i,k,e,n,l⟩ | ⟨i,k,b,e,n,r,l⟩
 ·subst n;obtain⟨z,t,x,d,f⟩:=As I.hok e;obtain⟨w',m,c⟩:=g6.some_of (v:=v) (o:=valueAt x k) (by rw[l];exact d.val k);exact wpAny_getItem_of (ET q) f.mapOf m (h w' _ (I.tok _) c)
 ·subst n;cases(show u=Value.ref b from q);obtain⟨z,t,B,d,f⟩:=Ic I.hok e;obtain⟨w',m,c⟩:=g6.some_of (v:=v) (o:=(atKey B k).map (·.2)) (by rw[l];exact d.val k)
  obtain⟨p,D,j⟩:=Option.map_eq_some_iff.mp m;refine wpAny_getItem_heap (tupleKind_room_in1 C) (HS I.hok r) f D ?_;rw[j];exact h w' _ (I.tok _) c
theorem EU {t':Nat}{c:HO} (I:Inv X pins σ H s) (mu:Mut (H a)) (h:UV a s.heap h') (f:∃q,h'.get? a=some q) (d:bC X.prog X.w (upd H a c) h' a c) :
  Inv X pins σ (upd H a c) { s with heap:=h',toks:=t' }:=
 I.write (x:=a) (e:=a) mu (.inl rfl) (λb q g z=>(h.2 b g).trans z) f d
theorem Hu {P:Yax}{vs:List (Key×Vzy)} (z:kvs.length<=Yb0) (d:(a == sysModules)=false) (b:KV kvs vs) (c:h'.DictOf (aQ P w) a vs) :
  bC P w H' h' a (.dK kvs):=⟨z,d,vs,b,c⟩
end
section
variable {s:Vzx}{k:Key}
end
def OS (i:Expr):Prop:=∀ov iv,subscripted i false ov iv=operate [ov,iv] (getItem ov iv)
theorem Ed {s:Vzx}{a:Expr}{T id:String}
  (f:typeLookup (.type T) "__getitem__" = pure (some (.builtin id))) (g:OS a)
  (h:Yb1 (model prog w) A (eval value env) (λo s₁=>Yb1 (model prog w) A (eval a env) (λi s₂=>s₂.TypeIs o T/\Yb1 (model prog w) A (getItem o i) Q E s₂) E s₁) E s) :
  Yb1 (model prog w) A (eval (.Subscript value a pos) env) Q E s:=by
 refine Subscript_ (Vzt h (λo s₁ e=>Vzt e (λi s₂ b=>?_) λ_ _ x=>x) λ_ _ x=>x);obtain⟨hT,b⟩:=b;refine Vzw ?_;rw[getitemInPython_of_ne hT.not_modules];refine Vzw (wpAny_specialOf hT f ?_);have j:Yb1 (model prog w) A (subscripted a false o i) (λr c=>Yb1 (model prog w) A (letTemporaryGo value o r >>= λ_=>pure r) Q E c) E s₂:=by
  rw[g o i];exact wpAny_operating (Vzt b (λr c d=>Vzw (wpAny_letTemporaryGo (Vzv d))) λ_ _ x=>x)
 grind [wpAny_pure,wpAny_bind]
theorem zt {s:Vzx}{y:V}{o:Option V} (I:Inv X pins σ H s) (g:GH H a y o):s.TypeIs (.ref a) "dict" :=by
 rcases g with⟨d,k,e,_,_⟩ | ⟨d,k,b,e,_,_,_⟩
 ·obtain⟨_,_,_,_,c⟩:=As I.hok e;exact c.typeIs
 ·obtain⟨_,_,_,_,c⟩:=Ic I.hok e;exact c.typeIs
def T9 (td ty:TE):TE:=λσ H Q=>td σ H λx H1=>ty σ H1 λy H2=>∃a v,x = .ref a/\GH H2 a y (some v)/\Q v H2
section
variable {o i e:Expr}{ty:TE}
theorem Nr (t:X.A.units+1<cLine) (w:PE X o td) (hi:PE X i ty) (r:OS i):PE X (.Subscript o i pos) (T9 td ty):=by
 intro b s d H Q I h;refine Ed PySem.F.slot_dict_getitem.lookup r (thn (w b s d H _ I h) λu k ⟨x,f,q,n,B⟩=>thn (hi b k d f _ q B) λ_ _ ⟨y,z,e,j,a,v,m,g,p⟩=>?_);subst m;obtain rfl:u=Value.ref a:=n;exact⟨zt e g,FQ t e g j λ_ _ l c=>⟨v,z,l,c,p⟩⟩
end
theorem JA {P:Yax} (h:Heap) (a:sysModules<h.objs.size):bC P w H (h.push { cls:=.type "dict",data:=.dict #[] }) h.objs.size (.dK []):=
 ⟨XT _,beq_eq_false_iff_ne.mpr (Ya4 (X3 a)),[],.nil,Heap.DictOf.new h⟩
def OE:TE:=λ_ H Q=>∀p,H p=none->Q (.ref p) (upd H p (.dK []))
theorem LH:PE X (.Dict [] [] pos) OE:=λ_ s _ H Q I h=>
 wpAny_Dict_empty ⟨.ref s.heap.objs.size,_,I.laid (a:=s.heap.objs.size) (o:=.dK []) (t':=s.toks) (λ_ _ q=>Vzu _ q) (XD _) (JA s.heap I.big),rfl,h _ (I.hok.fresh (XD _))⟩
def o6 (kvs more:List (Key×V)):List (Key×V):=more.foldl (λacc kv=>putK acc kv.1 kv.2) kvs
theorem KV.merge:∀{more:List (Key×V)}{rs:List (Key×Vzy)}{kvs:List (Key×V)}{vs:List (Key×Vzy)},KV more rs->KV kvs vs->KV (o6 kvs more) (merged vs rs):=by
 intro more rs kvs vs r
 induction r generalizing kvs vs with
 | nil=>intro q;exact q
 | @cons p q ps qs h t ih=>
  intro a;have e:KV (putK kvs p.1 p.2) (stored vs q.1 q.2):=by
   have:=a.put p.1 h.2
   rwa [<-h.1]
  exact ih e
theorem lS:∀(more kvs:List (Key×V)),(o6 kvs more).length<=kvs.length+more.length
 | [],kvs=>by show kvs.length<=kvs.length+0;lia
 | p::r,kvs=>by
  have a:=lS r (putK kvs p.1 p.2)
  grind [qe,o6,putK,XX]
structure M1 (X:Cx) (o:Expr) (m:Str) (apos:Pos) (e:Expr) (dR:Pos):Prop where
 base:attributeBase o m X.env (eval o X.env)=eval o X.env
 few:((backTo dR (Yb2 [e] X.env)).all (λx=>!x.1) && (backToKw dR (keywordEach [] X.env)).all (λx=>x.1.isSome)
  && decide (([e]:List Expr).length+([]:List Keyword).length+(if ([]:List Keyword).isEmpty then 0 else 1)<30))=true
 line:(apos.endLine == dR.line)=true
 Jw:backTo dR (Yb2 [e] X.env)=[(false,eval e X.env)]
structure M2 (X:Cx) (o:Expr) (m:Str) (apos:Pos) (e f:Expr) (dR:Pos):Prop where
 base:attributeBase o m X.env (eval o X.env)=eval o X.env
 few:((backTo dR (Yb2 [e,f] X.env)).all (λx=>!x.1) && (backToKw dR (keywordEach [] X.env)).all (λx=>x.1.isSome)
  && decide (([e,f]:List Expr).length+([]:List Keyword).length+(if ([]:List Keyword).isEmpty then 0 else 1)<30))=true
 line:(apos.endLine == dR.line)=true
 Jw:backTo dR (Yb2 [e,f] X.env)=[(false,eval e X.env),(false,eval f X.env)]
def IsD (H:Hp) (a:Yau):Prop:=(∃kvs,Rd H a (.dK kvs))\/∃kvs,Rd H a (.dT kvs)
theorem IU {s:Vzx} (I:Inv X pins σ H s) (d:IsD H a) :
  s.TypeIs (.ref a) "dict" /\ (∀b,Value.ref a = .ref b->∃ob,s.heap.get? b=some ob/\ob.dict=none)/\(a == sysModules)=false:=by
 rcases d with⟨i,e⟩ | ⟨i,e⟩
 ·obtain⟨_,f,_,_,c⟩:=As I.hok e;refine⟨c.typeIs,λb q=>?_,f⟩;cases q;obtain⟨ob,_,_,g,h,_⟩:=c;exact⟨ob,g,h.2.1⟩
 ·obtain⟨_,f,_,_,c⟩:=Ic I.hok e;refine⟨c.typeIs,λb q=>?_,f⟩;cases q;obtain⟨ob,_,_,g,h,_⟩:=c;exact⟨ob,g,h.2.1⟩
section
variable {s:Vzx}{y d:V}{r:Vzy}{o:Option V}
end
section
variable {o e f:Expr}{ty:TE}
end
section
variable {s:Vzx}
end
section
variable {s:Vzx}{y:V}
end
def gM (cells:List (Str×Yau)):List (Str×NameKind)->List (Str×Yau)->List (Str×Yau)
 | [],acc=>acc
 | (n,k)::r,acc=>gM cells r (if (k == NameKind.free)=true then(match cells.lookup n with | some c=>(n,c)::acc | none=>acc)else acc)
theorem fT {env:Env}:∀(names:List (Str×NameKind)) (acc:List (Str×Yau)),(∀y∈names,y.2 = .free->∃c,env.cells.lookup y.1=some c) ->
  (forIn (m:=Sem) names acc λ(x:Str×NameKind) r=>(match x with | (name,kind)=>if (kind == NameKind.free)=true then(do let a <-cellOf env name;pure (ForInStep.yield ((name,a)::r)))else pure (ForInStep.yield r)))=pure (gM env.cells names acc)
 | [],acc,_=>rfl
 | (n,k)::r,acc,h=>by
  rw[Zm];unfold gM;by_cases f:(k == NameKind.free)=true
  ·obtain⟨c,e⟩:=h (n,k) XC (by simpa using f);simp only[f,if_true];have g:cellOf env n=pure c:=by grind [cellOf]
   rw[g,show env.cells.lookup n=some c from e];exact fT r _ λy d=>h y (XF _ d)
  ·have b:(k == NameKind.free)=false:=by simpa using f
   simp only[b,Yh,if_false,pure_bind];exact fT r _ λy d=>h y (XF _ d)
theorem rG (h:∀y∈scope.names,y.2 = .free->∃c,env.cells.lookup y.1=some c):closureFor scope env=pure (gM env.cells scope.names []):=by
 grind [closureFor,bind_pure,fT]
theorem nK {a:List (Str×Yau)}{x:Str}{c:Yau}:∀(names:List (Str×NameKind)) (acc:List (Str×Yau)),(∀y d,acc.lookup y=some d->a.lookup y=some d)->(gM a names acc).lookup x=some c->a.lookup x=some c
 | [],acc,ha,h=>ha _ _ h
 | (n,k)::r,acc,ha,h=>by
  refine nK r _ (λy d _=>?_) h
  grind
theorem ot {n:Str}{c:Yau}{acc:List (Str×Yau)} (h:∃d,acc.lookup x=some d):∃d,((n,c)::acc).lookup x=some d:=by
 grind
theorem mG {a:List (Str×Yau)}{x:Str}:∀(names:List (Str×NameKind)) (acc:List (Str×Yau)),((∃d,acc.lookup x=some d)\/((x,NameKind.free)∈names/\∃d,a.lookup x=some d))->∃d,(gM a names acc).lookup x=some d
 | [],acc,h=>by
  rcases h with h | ⟨h,_⟩
  ·exact h
  ·cases h
 | (n,k)::r,acc,h=>by
  refine mG r _ ?_
  grind
theorem dq:∀(names:List (Str×NameKind)) (n:Nat) (acc:List (Str×Yau)),cellsFrom n names acc=cellsFrom n names []++acc
 | [],n,acc=>rfl
 | (x,k)::r,n,acc=>by
  unfold cellsFrom
  split
  ·rw[dq r _ ((x,n)::acc),dq r _ [(x,n)]];simp
  ·exact dq r n acc
theorem mr {x:Str}{c:Yau}:∀{l l':List (Str×Yau)},(l++l').lookup x=some c->l.lookup x=some c\/l'.lookup x=some c
 | [],_,h=>.inr h
 | (n,d)::r,l',h=>by
  rw[YB,ZL]at h;rw[ZL];cases hb:x == n with
  | true=>rw[hb]at h;exact .inl h
  | false=>rw[hb]at h;exact mr h
theorem bO {x:Str}:∀(names:List (Str×NameKind)) (n:Nat) (acc:List (Str×Yau)),((∃d,acc.lookup x=some d)\/(x,NameKind.cell)∈names)->∃d,(cellsFrom n names acc).lookup x=some d
 | [],n,acc,h=>by
  rcases h with h | h
  ·exact h
  ·cases h
 | (y,k)::r,n,acc,h=>
  by
  unfold cellsFrom;rcases h with h | h
  ·split
   ·exact bO r _ _ (.inl (ot h))
   ·exact bO r _ _ (.inl h)
  ·rcases XQ.mp h with e | h
   ·cases e;rw[Yb7 (by decide)];exact bO r _ _ (.inl ⟨n,by simp⟩)
   ·split
    ·exact bO r _ _ (.inr h)
    ·exact bO r _ _ (.inr h)
def P1 (scope:Scope) (C:Yau) (env:Env):Env:=
 { scope:=relabel scope env,locals:=C,globals:=env.globals,cells:=cellsFrom (C+1) scope.names (gM env.cells scope.names []),qual:=env.qual,func:=none,code:=env.code,frame:=env.frame,builtins:=env.builtins }
theorem pR {k:NameKind} (h:(relabel scope env).names.lookup x=some k):∃k',(x,k')∈scope.names/\(k' = k\/(k' = .free/\k = .cell/\env.kindOf x=some .cell)):=by
 obtain⟨⟨n,q⟩,_,e⟩:=(XE.mp (mem_of_lookup h));lia
def eO (X:Cx) (scope:Scope) (N':Qqv) (s:Vzx) (H:Hp) (fp:Qqx):Cx where
 prog:=X.prog
 w:=X.w
 K:=X.K
 mg:=X.mg
 base:=X.base
 A:=X.A
 N:=N'
 s₀:=s
 H₀:=H
 env:=P1 scope s.heap.objs.size X.env
 outer:=X.stack
 stack:=X.stack
 ex:=fp
 calm:=X.calm
 fn:=λx=>decide ((x,NameKind.cell)∈scope.names/\(x,NameKind.free)∉scope.names)
 pn:=[]
 xe:=λ_ _=>False
def sub (n:Nat) (fi:List Nat) (σ:St):St:=UF n none++fi.map λk=>(σ[k]?).join
theorem sub_len (n:Nat) (fi:List Nat) (σ:St):(sub n fi σ).length=n+fi.length:=by simp[sub]
structure j3 (X:Cx) (scope:Scope) (N':Qqv) (n:Nat) (fi:List Nat):Prop where
 kind:scope.kind = .function
 names:∀y∈scope.names,y.2 = .local->scope.names.lookup y.1=some .local
 free:∀y∈scope.names,y.2 = .free->X.env.kindOf y.1=some .cell\/X.env.kindOf y.1=some .free
 len:N'.length=n+fi.length
 at':∀(j:Nat) (k:Nat),fi[j]? = some k->∃x,N'[n+j]? = some x/\X.N[k]? = some x/\scope.names.lookup x=some .free/\(x,NameKind.cell)∉scope.names
theorem Ny {M:Model}{A:Yaw}{E:Vzy->Vzx->Prop}{s:Vzx}{globals:Yau}{i:List (Str×Yau)}{qual:Str}{env:Env}{Q:Env->Vzx->Prop}
  (h:∀h',h'.Ns s.heap.objs.size (λ_=>none)->(∀b o,s.heap.get? b=some o->h'.get? b=some o)->CellsOk h' (s.heap.objs.size+1) (cellsFrom (s.heap.objs.size+1) scope.names []) ->
   Q { scope,locals:=s.heap.objs.size,globals,cells:=cellsFrom (s.heap.objs.size+1) scope.names i,qual,func:=none,code:=env.code,frame:=env.frame,builtins:=env.builtins } { s with heap:=h' }) :
  Yb1 M A (newFunctionEnv scope globals i [] qual none .none (some env)) Q E s:=by
 have a:(s.heap.push { cls:=.type "dict",data:=.dict #[] }).objs.size=s.heap.objs.size+1:=Heap.size_push ..;have c:∀b o,s.heap.get? b=some o->(s.heap.push { cls:=.type "dict",data:=.dict #[] }).get? b=some o:=λb o e=>Vzu _ e;have d:=Heap.Ns.new s.heap (.type "dict");simp only[newFunctionEnv,if_true,Option.isSome_some];refine Vzw (wpAny_alloc ?_);generalize s.heap.push { cls:=.type "dict",data:=.dict #[] }=h1 at a c d;have f:=cellsFrom_ok scope.names h1 _ [] ⟨(λ_ _ z=>by cases z),List.Pairwise.nil⟩ (ZQ a.symm);have g:=pushCells_keeps scope.names h1;rw[a]at f;refine Vzw (wpAny_layCells _ (λ_ _ _=>?_) scope.names i { s with heap:=h1 } _ (Vzw (Vzv (Vzv ?_))))
 ·rfl
 ·show Q { scope,locals:=s.heap.objs.size,globals,cells:=cellsFrom h1.objs.size scope.names i,qual,func:=none,code:=env.code,frame:=env.frame,builtins:=env.builtins } _;rw[a];exact h _ (d.keeps g) (λb o e=>g b o (c b o e)) f
section
variable {s:Vzx}
theorem j3.Oi (S:j3 X scope N' n fi) (ok:X.Ok):∀y∈scope.names,y.2 = .free->∃c,X.env.cells.lookup y.1=some c:=λy hy hk=>ok.has _ (S.free y hy hk)
theorem iA {c:Yau} (h:(P1 scope C X.env).cells.lookup x=some c):(cellsFrom (C+1) scope.names []).lookup x=some c\/X.env.cells.lookup x=some c:=by
 have a:(cellsFrom (C+1) scope.names (gM X.env.cells scope.names [])).lookup x=some c:=h;rw[dq]at a;rcases mr a with z | z
 ·exact .inl z
 ·grind [nK]
theorem cellsFrom_names {x:Str}{c:Yau}:∀(names:List (Str×NameKind)) (k:Nat) (acc:List (Str×Yau)),(x,c)∈cellsFrom k names acc->(x,NameKind.cell)∈names\/(x,c)∈acc
 | [],_,_,h=>.inr h
 | (y,q)::r,k,acc,h=>by
  unfold cellsFrom at h
  split at h
  ·rename_i hq;have a:q = .cell:=by simpa using hq
   subst a;rcases cellsFrom_names r _ _ h with z | z
   ·simp_all
   ·grind
  ·rcases cellsFrom_names r _ _ h with z | z
   ·simp_all
   ·exact .inr z
theorem Gc (I:Inv X pins σ H s) (S:j3 X scope N' n fi) (C:∀b∈fp,cN X pins H b) (V:∀b∈fp,∃o,s.heap.get? b=some o)
  (N:h'.Ns s.heap.objs.size (λ_=>none)) (B:∀b o,s.heap.get? b=some o->h'.get? b=some o) (T:CellsOk h' (s.heap.objs.size+1) (cellsFrom (s.heap.objs.size+1) scope.names [])) :
  Inv (eO X scope N' s H fp) [] (sub n fi σ) H { s with heap:=h' }:=by
 have M:∀{b:Yau}{o:Obj},s.heap.get? b=some o->b<s.heap.objs.size:=λe=>Z1 e;have UT:∀{x:Str}{c:Yau},X.env.cells.lookup x=some c->c<s.heap.objs.size:=λ{x c} e=>by
  obtain⟨v,q⟩:=I.cell x c e;exact q.lt
 have U:∀{x:Str}{c:Yau},(cellsFrom (s.heap.objs.size+1) scope.names []).lookup x=some c->h'.IsCell c none/\s.heap.objs.size+1<=c:=λ{x c} e=>T.empty x c (WH e);refine⟨⟨I.ok.mod,S.kind,I.ok.glob,I.ok.blt,XD _,λx y c g J=>?_,λx A=>?_,λx c A h=>?_,I.ok.hd,I.ok.frames,.inl rfl,λb f=>?_,λb o e=>?_,?_,λb o e f=>?_,λb f hz=>?_,I.stack,I.ER⟩,
  rfl,I.bare,Un.kept B,⟨_,N,λi x v g J G=>?_⟩,λx c h=>?_,I.hok.fresh (XD _),λx c h=>?_,λp hp=>absurd (show p∈([]:List (Yau×Obj))from hp) (by simp),I.hok.kept B,?_⟩
 ·rcases iA g with z1 | z1 <;> rcases iA J with z2 | z2
  ·exact name_of_addr T.apart (WH z1) (WH z2)
  ·grind
  ·grind
  ·exact I.ok.inj x y c z1 z2
 ·have A:=A;have R:∀k,(relabel scope X.env).names.lookup x=some k->(k = .cell\/k = .free)->∃c,(cellsFrom (s.heap.objs.size+1) scope.names (gM X.env.cells scope.names [])).lookup x=some c:=λk e B=>by
   obtain⟨m,j,_⟩:=pR e;have:m = .cell\/m = .free:=by
    lia
   rcases this with z | z
   ·exact bO _ _ _ (.inr (z ▸ j))
   ·exact bO _ _ _ (.inl (mG _ _ (.inr ⟨z ▸ j,S.Oi I.ok (x,m) j z⟩)))
  rcases A with z | z
  ·exact R _ z (.inl rfl)
  ·exact R _ z (.inr rfl)
 ·have hx':=Yb6 A;have g:(cellsFrom (s.heap.objs.size+1) scope.names (gM X.env.cells scope.names [])).lookup x=some c:=h;rw[dq]at g;obtain⟨d,E⟩:=bO (x:=x) scope.names (s.heap.objs.size+1) [] (.inr hx'.1);have D:(cellsFrom (s.heap.objs.size+1) scope.names []++gM X.env.cells scope.names []).lookup x=some d:=by
   grind
  rw[g]at D;cases D;exact YJ (U E).2
 ·refine⟨?_,λx c e z=>?_⟩
  ·obtain⟨o,e⟩:=V b f;exact X3 (M e)
  ·obtain⟨o,_⟩:=V b f;rcases iA e with q | q
   ·grind
   ·exact(C b f).2.2.2.2.1 x c q z
 ·exact I.bs b o e
 ·exact XG I.ok.bsz I.sz
 ·rcases(C b f).2.2.2.1 with z | z
  ·exact I.ok.JE b o e z
  ·exact absurd (X9 (Z1 (I.ok.bs b o e).1) z) (Zj _)
 ·rcases XQ.mp (I.BZ b hz)with z | z
  ·exact(C b f).2.1 z
  ·exact(C b f).2.2.1 z
 ·have hi:n<=i:=by
   grind [sub,Yp,ZM]
  have a:(fi.map λk=>(σ[k]?).join)[i - n]? = some (some v):=by
   unfold sub at J
   grind
  rw[XM]at a;cases ek:fi[i - n]? with
  | none=>rw[ek]at a;cases a
  | some k=>
   rw[ek]at a;have Ko:(σ[k]?).join=some v:=Uf a;have P:σ[k]? = some (some v):=by
    grind
   obtain⟨x',_,D,W,Z⟩:=S.at' (i - n) k ek;have O:N'[i]? = some x':=by simp_all
   have w:N'[i]? = some x:=g;rw[O]at w;cases w;have j:(x,NameKind.free)∈scope.names:=by
    generalize scope.names=l at W
    induction l with
    | nil=>cases W
    | cons p r _=>
     grind
   have kx:=S.free _ j rfl;obtain⟨m0,_,F⟩:=I.loc;obtain⟨u,ru,lk⟩:=F k x v D P (kx.elim (λz=>.inr (.inl z)) λz=>.inr (.inr z));refine⟨u,ru,.inr ⟨?_,?_⟩⟩
   ·have G:=G;rcases G with z | z | z
    ·obtain⟨m,K,L⟩:=pR z;rcases L with q | q
     ·exfalso;have:=S.names (x,m) K (by rw[q]);lia
     ·cases q.2.1
    ·exact .inl z
    ·exact .inr z
   ·rcases lk with⟨_,_⟩ | ⟨_,c,Q,Y⟩
    ·lia
    ·refine⟨c,?_,Y.keeps B⟩;show(cellsFrom (s.heap.objs.size+1) scope.names (gM X.env.cells scope.names [])).lookup x=some c;obtain⟨d,E⟩:=bO (x:=x) scope.names (s.heap.objs.size+1) (gM X.env.cells scope.names []) (.inl (mG _ _ (.inr ⟨j,c,Q⟩)));rw[E];have t:=E;rw[dq]at t;rcases mr t with z | z
     ·rcases cellsFrom_names _ _ _ (WH z)with q | q
      ·exact absurd q Z
      ·cases q
     ·have:=nK _ _ (λ_ _ q=>by cases q) z;rw[Q]at this;exact this.symm
 ·rcases iA h with z | z
  ·grind
  ·obtain⟨v,q⟩:=I.cell x c z;exact⟨v,q.keeps B⟩
 ·rcases iA h with z | z
  ·exact I.hok.fresh (YJ (U z).2)
  ·exact I.jw x c z
 ·show(sub n fi σ).length=N'.length;rw[sub_len,S.len]
end
def FH (X:Cx) (ifs:List Expr) (t:TT):Prop:=
 ∀(pins:List (Yau×Obj)) (s:Vzx) (σ:St) (H:Hp) (Q:Bool->Hp->Prop),Inv X pins σ H s->t σ H Q ->
  Yb1 (model X.prog X.w) X.A (forIn ifs true λc r=>if r=true then do let ok <-isTrue c X.env (eval c X.env);pure (ForInStep.yield ok)else pure (ForInStep.yield r)) (TP X pins σ Q) X.xe s
def MJ:TT:=λ_ H Q=>Q true H
theorem cy:FH X [] MJ:=λ_ _ _ H _ I h=>wpAny_tests_nil ⟨H,I,h⟩
theorem cT {c:Expr}{t:TT} (h:PT X c t):FH X [c] t:=λpins s σ H Q I q=>wpAny_tests_one (h pins s σ H Q I q)
def lM (g:TG) (tt:TT) (te:TE) (J:It) (D:Yau) (Q:VK) (σ:St) (H:Hp):Prop:=
 ∃W:Nat->Nat->St->Hp->Prop,(∃m,W 0 m σ H)/\∀i m σ H,W i m σ H ->
  (J.stop i H/\Q (.ref D) H)\/(J.go i H/\∃N:St->Hp->Prop,(∀σ' H',N σ' H'->∃m',m' < m/\W (i+1) m' σ' H') /\
   ∀x H',J.yld i H x H'->g x σ H' λσ2 H2=>tt σ2 H2 λb H3=>if b=true then te σ2 H3 λv H4=>∃xs,H4 D=some (.lst xs)/\xs.length<Yb0/\N σ2 (upd H4 D (.lst (xs++[v])))else N σ2 H3)
def vR (wi:TI) (g:TG) (tt:TT) (te:TE) (n:Nat) (fi:List Nat):TE:=λσ H Q=>
 wi σ H λJ H1=>∀D,H1 D=none->lM g tt te J D Q (sub n fi σ) (upd H1 D (.lst []))
theorem E3 {Y:Cx}{g:TG}{F:Nat->Heap->Prop}{Qr:VK}{s:Vzx} (Z:Y.calm=true) (f:∀e s,¬ Y.xe e s)
  (hg:PG Y tg g) (hi:FH Y ifs tt) (he:PE Y elt te) (T:Turn Y.prog Y.w Y.K tg J fp it F) (I:Inv Y [] σ H s) (st:F 0 s.heap) (V:∀b∈fp,cN Y [] H b) (hw:lM g tt te J D Qr σ H) :
  codeAny (model Y.prog Y.w) Y.A (.compLoop (.ListComp elt [⟨tg,iter,ifs,0⟩] scope pos) 0 (.ref it) (.ref D) Y.env) (λr s'=>r = .ok .next/\∃σ' H',Inv Y [] σ' H' s'/\Qr (.ref D) H') s:=by
 obtain⟨W,⟨m0,w0⟩,B⟩:=hw;have O:∀{H':Hp},(∀b∈fp,H' b=none)->∀b∈fp,cN Y [] H' b:=λhn b j=>⟨hn b j,(V b j).2⟩;refine codeAny_loop rfl (λn s'=>∃i σ' H',Inv Y [] σ' H' s'/\F i s'.heap/\(∀b∈fp,H' b=none)/\W i n σ' H') ?_ m0 ⟨0,σ,H,I,st,λb j=>(V b j).1,w0⟩;rintro n L ⟨i,c,E,P,v,t,w3⟩;show Yb1 _ Y.A ((compTurn (.ListComp elt [⟨tg,iter,ifs,0⟩] scope pos) 0 (.ref it) (.ref D) Y.env).onRaise (λx=>do noteFrame x Y.env;theTreesLotGoes x)) _ _ L;refine wpAny_noted ?_;rw[compTurn_list]
 (refine Vzw (wpAny_standAt (Vzw ?_)))
 rcases B i n c E w3 with⟨y,qn⟩ | ⟨go,N,hN,C⟩
 ·refine thn (T.done Y rfl rfl rfl Z i [] L c E _ P (O t) v y) λr s4 ⟨G,I4⟩=>?_;subst G;exact Vzv ⟨rfl,c,E,I4,qn⟩
 ·refine thn (T.item Y rfl rfl rfl Z i [] L c E _ P (O t) v go) λr s4 ⟨u,G,h4⟩=>?_;subst G;refine Vzw (thn h4 λ_ S ⟨x,R,I5,r5,y5,l,M⟩=>?_);have Ju:∀{a:St}{k:Hp}{p:Vzx},Inv Y ([]++rm fp S.heap) a k p->N a k->∃m,m<n/\∃i σ' H',Inv Y [] σ' H' p/\F i p.heap/\(∀b∈fp,H' b=none)/\W i m σ' H':=λ{a k p} q n7=>by
   obtain⟨m',hm,w7⟩:=hN a k n7;refine⟨m',hm,i+1,a,k,q.gC,T.keep _ _ _ l λb j o e=>(q.pin (b,o) (Yb _ (Yb _ (jd j e)))).1,λb j=>?_,w7⟩;obtain⟨o,e,d⟩:=T.obj _ _ l b j;exact(q.pin (b,o) (Yb _ (Yb _ (jd j e)))).2.1
  refine Vzw (Vzt (hg _ S c R x u _ (I5.pinned (O M) (T.obj _ _ l)) r5 (C x R y5)) (λ_ s6 ⟨h,H6,I6,q6⟩=>?_) λe s' z=>(f e s' z).elim);refine Vzw (Vzt (hi _ s6 h H6 _ I6 q6) (λok p ⟨k,q,q7⟩=>?_) λe s' z=>(f e s' z).elim);cases ok with
  | false=>
   exact Vzv ⟨rfl,Ju q q7⟩
  | true=>
   refine Vzw (Vzw (Vzt (he _ p h k _ q q7) (λu8 s8 ⟨Q,H8,I8,r8,xs,e8,z8,n8⟩=>?_) λe s' z=>(f e s' z).elim));refine Vzw (Vzt (d7 (X:=Y) _ s8 h H8 (.ref D) [Q] (.ref D) [u8] (λ_ U=>N h U) I8 rfl (.cons r8 .nil) ⟨D,xs,Q,rfl,rfl,e8,z8,n8⟩) (λ_ _ h9=>?_) λe s' z=>(f e s' z).elim);obtain⟨_,U,I9,_,n9⟩:=h9;exact Vzv (Vzv ⟨rfl,Ju I9 n9⟩)
theorem Inv.letGo {s:Vzx} (I:Inv X pins σ H s) (g:UV C s.heap h') (d:H C=none) (a:X.s₀.heap.objs.size<=C) (hL:C≠X.env.locals)
  (h2:∀x c,X.env.cells.lookup x=some c->c≠C) (h:∀p∈X.pn++pins,p.1≠C):Inv X pins σ H { s with heap:=h' }:=
 I.turned (t':=s.toks) (λb o f e=>g.extBut b o f e) d hL (.inr a) h2 h
theorem wK {g:TG}{use:Option (Vzy->Sem Unit)}{Z:VK}{WE:Pos}{s:Vzx}
  (ul:X.calm=true) (S:j3 X scope N' n fi) (P:∀R,wi σ H R->Yb1 (model X.prog X.w) X.A (eval iter X.env) (λv s1=>Yb1 (model X.prog X.w) X.A (pyIter v) (PIE X pins σ tg R) X.xe s1) X.xe s)
  (hg:∀s H fp,PG (eO X scope N' s H fp) tg g) (hi:∀s H fp,FH (eO X scope N' s H fp) ifs tt) (he:∀s H fp,PE (eO X scope N' s H fp) elt te)
  (I:Inv X pins σ H s) (hw:vR wi g tt te n fi σ H Z) (hs:∀x,foldedSetIterable iter X.env x=pure x)
  (t:∀(D C:Yau) (s':Vzx) (H':Hp) (m:Str->Option Vzy),Inv X pins σ H' s'->s'.heap.Ns C m->H' C=none->X.s₀.heap.objs.size<=C->C≠X.env.locals->(∀x c,X.env.cells.lookup x=some c->c≠C)->(∀p∈X.pn++pins,p.1≠C)->Z (.ref D) H' ->
   compPost (model X.prog X.w) X.A X.xe use Q (.ref D) C (.ok .next) s') :
  Yb1 (model X.prog X.w) X.A (comprehension (.ListComp elt [⟨tg,iter,ifs,0⟩] scope pos) scope X.env WE (newList []) false (eval iter X.env) use) Q X.xe s:=by
 refine wpAny_comprehension_free (use:=use) (g:=⟨tg,iter,ifs,0⟩) (gs:=[]) rfl hs (rG (S.Oi I.ok)) S.kind S.names ?_;refine thn (P _ hw) λv s1 h1=>thn h1 λ_ s2 h2=>?_;obtain⟨it,fp,_,J,h,e,O,T,y,d,K⟩:=h2;subst e;refine wpAny_newList ?_ (XT _);have W:=O.hok.fresh (XD _);have f:Inv X pins σ (upd h s2.heap.objs.size (.lst [])) { s2 with heap:=s2.heap.push { cls:=.type "list",data:=.seq ([]:Qqz).toArray } }:=
  O.laid (t':=s2.toks) (λb u e=>Vzu _ e) (XD _) ⟨XT _,[],0,.nil,Z0 _ rfl⟩
 have M:=K _ W;have E:Un (frs X.stack) fp h (upd h s2.heap.objs.size (.lst [])) s2.heap (s2.heap.push { cls:=.type "list",data:=.seq ([]:Qqz).toArray }):=
  Un.laid (λb u e=>Vzu _ e) (XD _) W
 generalize hs3:({ s2 with heap:=s2.heap.push { cls:=.type "list",data:=.seq ([]:Qqz).toArray } }:Vzx)=s3 at f ⊢;have j:s3.heap=s2.heap.push { cls:=.type "list",data:=.seq ([]:Qqz).toArray }:=by rw[<-hs3]
 have G:s3.os=s2.os:=by rw[<-hs3]
 rw[<-j]at E;have L:∀b,b≠s2.heap.objs.size->upd h s2.heap.objs.size (.lst []) b=h b:=λb a=>ao a;generalize upd h s2.heap.objs.size (.lst [])=H3 at *;have V:∀b∈fp,∃o,s2.heap.get? b=some o:=λb a=>let ⟨o,e,_⟩:=T.obj _ _ y b a;⟨o,e⟩;have B:∀b u,s2.heap.get? b=some u->s3.heap.get? b=some u:=λb u e=>by rw[j];exact Vzu _ e
 have Q9:∀b∈fp,cN X pins H3 b:=λb a=>by
  obtain⟨o,e⟩:=V b a;exact⟨(L b (X3 (Z1 e))).trans (d b a).1,(d b a).2⟩
 refine Ny λh4 N hk hc=>?_;have F:=Gc f S Q9 (λb a=>let ⟨o,e⟩:=V b a;⟨o,B b o e⟩) N hk hc;have l:=T.keep _ _ _ y λb a o e=>hk b o (B b o e);have k:codeAny (model X.prog X.w) X.A (.compLoop (.ListComp elt [⟨tg,iter,ifs,0⟩] scope pos) 0 (.ref it) (.ref s2.heap.objs.size) (P1 scope s3.heap.objs.size X.env)) (compPost (model X.prog X.w) X.A X.xe use Q (.ref s2.heap.objs.size) s3.heap.objs.size) { s3 with heap:=h4 }:=by
  refine codeAny_mono (E3 (Y:=eO X scope N' s3 H3 fp) (elt:=elt) (tg:=tg) (iter:=iter) (ifs:=ifs) (scope:=scope) (pos:=pos) ul (λ_ _ z=>z) (hg s3 H3 fp) (hi s3 H3 fp) (he s3 H3 fp) T F l (λb a=>⟨(Q9 b a).1,(F.ok.exf b a).1,F.ok.Km b a,.inl a,(F.ok.exf b a).2,λp U=>absurd (show p∈([]:List (Yau×Obj))from U) (by simp)⟩) M) λr s' ⟨hr,_,H',i,q5⟩=>?_;subst hr;obtain⟨m,hm,_⟩:=i.loc;refine t _ _ s' H' m (O.Uz (ch:=fp) (i.os.trans G) (E.trans i.base) i.hok i.bare λb a=>⟨(d b a).2.2.2.1,(d b a).2.1,(d b a).2.2.2.2.1,(d b a).2.2.2.2.2⟩) hm i.free f.sz (Y5 f.lt) (λx c e=>?_) (λp U=>?_) q5
  ·obtain⟨v,q⟩:=f.cell x c e;exact X3 q.lt
  ·exact X3 (Z1 (f.pin p U).1)
 exact codeAny_compStart_list k (T.self _ 0 _ _ _ l k)
theorem cm {g:TG} (e:X.calm=true) (S:j3 X scope N' n fi) (c:PI X tg iter wi)
  (i:∀s H fp,PG (eO X scope N' s H fp) tg g) (hi:∀s H fp,FH (eO X scope N' s H fp) ifs tt) (j:∀s H fp,PE (eO X scope N' s H fp) elt te)
  (p:∀x,foldedSetIterable iter X.env x=pure x:=by intro _;rfl):PE X (.ListComp elt [⟨tg,iter,ifs,0⟩] scope pos) (vR wi g tt te n fi):=by
 intro a s r H Q I h;rw[eval_ListComp];refine wK (use:=none) e S (λR z=>c a s r H R I z) i hi j I h p λD C _ t m l u d o hL k f q=>⟨m,u,λ_ b=>?_⟩;exact⟨.ref D,t,l.letGo b d o hL k f,rfl,q⟩
theorem gb {g:TG}{o:Pos} (p:X.N.Nodup) (f:X.N[i]? = some x) (hx:Loc X.env.scope x) (t:X.calm=true) (S:j3 X scope N' n fi) (j:PI X tg iter wi)
  (y:∀s H fp,PG (eO X scope N' s H fp) tg g) (hi:∀s H fp,FH (eO X scope N' s H fp) ifs tt) (A:∀s H fp,PE (eO X scope N' s H fp) elt te)
  (d:swapsWith (.ListComp elt [⟨tg,iter,ifs,0⟩] scope pos) (some (.Name x pos')) o.line X.env=pure true:=by rfl)
  (J:∀x,foldedSetIterable iter X.env x=pure x:=by intro _;rfl) (B:X.fn x=true\/X.env.scope.names.lookup x=some .local:=by first | exact .inl rfl | exact .inr rfl | assumption) :
  PS X (.Assign [.Name x pos'] (.ListComp elt [⟨tg,iter,ifs,0⟩] scope pos) o) (Qp (vR wi g tt te n fi) (bf i)):=by
 intro b s K H D I h
 (rw[exec_Assign_Name_used _ _ _ _ d])
 (refine Vzw (wpAny_standAt (Vzw ?_)))
 refine Vzw (thn (wK (use:=some (assign (.Name x pos') X.env)) (Q:=λ_ c=>SP X b D .next c) t S (λR z=>j b s K H R I z) y hi A I h J λu C c L m F M r G hL E w q=>?_) λ_ c q=>Vzv (Vzv q));refine wpAny_assign_Name (wL (v:=.ref u) F p f hx rfl (λ_ O ⟨a,l,_⟩=>?_) B);have k:C≠a:=by
  grind
 exact⟨m,M.sameBut l k,λ_ e=>⟨_,L,O.letGo e r G hL E w,q⟩⟩
theorem Inv.dJ {pins:List (Yau×Obj)}{σ:St}{H:Hp}{s:Vzx}{h':Heap}{t':Nat}{wr:Qqx} (I:Inv X pins σ H s) (a:∀b∈wr,cN X pins H b) (k:∀b o,b∉wr->s.heap.get? b=some o->h'.get? b=some o) :
  Inv X pins σ H { s with heap:=h',toks:=t' }:=by
 have g:∀b u,H b=some u->b∉wr:=λb u e z=>by rw[(a b z).1]at e;cases e
 refine I.step (g':=s.gens) (d':=s.drawn) (ch:=wr) (λb f=>⟨(a b f).2.2.2.1,(a b f).2.1,(a b f).2.2.2.2.1,(a b f).2.2.2.2.2⟩) (λb o _ _ d e _=>k b o d e) (λb o _ _ d e _=>⟨o.slots,k b o d e⟩) (λ_ _ _ _ n=>n)
  (λb o d e=>⟨o,k b o d e⟩) (λ_ _ e=>e) (λ_ _ _ e=>e) (λb _ e=>⟨#[],by rw[e];simp⟩) (λm j=>?_) (λb u e=>?_) I.bare
 ·obtain⟨o,h,l,i,r⟩:=j;exact⟨o,h,l,k _ o (λz=>(a _ z).2.1 rfl) i,r⟩
 ·refine(I.hok b u e).uI (λc v d q=>k c v ?_ q) (λ_ q=>q) λ_ _ q=>q
  grind
theorem Inv.kG {pins:List (Yau×Obj)}{σ:St}{H:Hp}{s:Vzx}{h':Heap}{t':Nat}{wr:Qqx}{a:Yau}{o:HO} (I:Inv X pins σ H s) (f:∀b∈wr,cN X pins H b) (k:∀b o,b∉wr->s.heap.get? b=some o->h'.get? b=some o)
  (i:s.heap.objs.size<=a) (p:bC X.prog X.w (upd H a o) h' a o):Inv X pins σ (upd H a o) { s with heap:=h',toks:=t' }:=by
 have j:∀b u,H b=some u->b∉wr:=λb u e z=>by rw[(f b z).1]at e;cases e
 have d:=I.hok.fresh i;refine I.step (g':=s.gens) (d':=s.drawn) (ch:=wr) (λb h=>⟨(f b h).2.2.2.1,(f b h).2.1,(f b h).2.2.2.2.1,(f b h).2.2.2.2.2⟩) (λb o _ _ g e _=>k b o g e) (λb o _ _ g e _=>⟨o.slots,k b o g e⟩)
  (λb l _ e n=>by rwa [ao (X3 (X9 (Z1 e) i))])
  (λb o g e=>⟨o,k b o g e⟩) (λb x e=>by rwa [ao (aw e d)]) (λb l u e=>by rwa [ao (aw e d)]) (λb _ e=>⟨#[],by rw[ao (aw e d),e];simp⟩) (λm A=>?_) (λb u e=>?_) I.bare
 ·obtain⟨o,t,B,y,r⟩:=A;exact⟨o,t,B,k _ o (λz=>(f _ z).2.1 rfl) y,r⟩
 ·by_cases h:b=a
  ·grind [aa]
  ·rw[ao h]at e;refine(I.hok b u e).uI (λc v g q=>k c v ?_ q) (λc q=>by rwa [ao (aw q d)]) λc x q=>by rwa [ao (aw q d)]
   grind
def Its (z:Str):It:=⟨λi _=>i<z.length,λi H x H'=>H' = H/\∃c,z.cps[i]? = some c/\x = .str ⟨#[c]⟩,λi _=>z.length<=i⟩
theorem y4 {P:Yax}{ty:String} (it:Yau) (z:Str) (t:Tok)
  (B:∀A:Yaw,A.handled=none->Walks P w A it [it] [it] z.cps.size (SignAt z) (λi h=>h.IsStrIter it ty z t i))
  (y:["enumerate","zip","dict_itemiterator","dict_reverseitemiterator","odict_iterator","itertools.zip_longest","itertools.pairwise"].contains ty=false)
  (F:∀(A:Yaw) (i:Nat) (s:Vzx) (Q:Vzy->Vzx->Prop) (E:Vzy->Vzx->Prop),s.heap.IsStrIter it ty z t i->Q (.ref it) s->Yb1 (model P w) A (pyIter (.ref it)) Q E s) :
  Turn P w K tg (Its z) [it] it (λi h=>i<=z.length/\h.IsStrIter it ty z t i) where
 mem:=by simp
 obj:=λi h a b x=>by
  have e:b=it:=by simpa using x
  subst e;obtain⟨_,o,e,c,d⟩:=a
  simp_all
 keep:=λi h r a k=>by
  obtain⟨M,o,e,c,d⟩:=a;exact⟨M,o,k it (by simp) o e,c,d⟩
 item:=by
  intro X m q hK p i g s L H E I l a j;subst m q hK;refine(B X.A (I.ok.hd p)).item i s _ _ j a.2 λv r C J f n=>?_;obtain⟨c,u,D,rfl⟩:=J;obtain⟨o,e,G,d⟩:=id f;exact⟨_,rfl,Ey (s:={ s with heap:=r,toks:=C }) e G d y ⟨.str ⟨#[c]⟩,H,(I.dJ l n),⟨u,rfl⟩,⟨rfl,c,D,rfl⟩,⟨j,f⟩,λb x=>(l b x).1⟩⟩
 done:=by
  intro X m q hK p i g s L H E I l a j;subst m q hK;have e:i=z.cps.size:=Nat.le_antisymm a.1 j;subst e;exact(B X.A (I.ok.hd p)).done s _ _ a.2 λr C n=>⟨rfl,I.dJ l n⟩
 self:=λA i s Q E a h=>F A i s Q E a.2 h
def Qh (tl:TE):TI:=λσ H R=>tl σ H λx H1=>∃z,x = .str z/\R (Its z) H1
theorem JK {t:Tok}{s:Vzx}{R:It->Hp->Prop} (I:Inv X pins σ H s) (q:R (Its z) H):Yb1 (model X.prog X.w) X.A (pyIter (.str z t)) (PIE X pins σ tg R) X.xe s:=by
 have c:∀b∈[s.heap.objs.size],cN X pins H b:=λb d=>by
  have e:b=s.heap.objs.size:=by simpa using d
  subst e;exact I.nG (XD _) (I.hok.fresh (XD _))
 cases ha:z.cps.all (· < 128)with
 | false=>
  refine wpAny_pyIter_wide ha ?_;exact⟨s.heap.objs.size,[s.heap.objs.size],_,_,H,rfl,I.kept (t':=s.toks) λb o e=>Vzu _ e,y4 (ty:= "str_iterator") _ z t (λA hA=>Walks.strWide hA _ z t) (by decide) (λA i s Q E a h=>wpAny_pyIter_striter_wide a h),
   ⟨XT _,_,Z0 _ rfl,rfl,rfl⟩,c,q⟩
 | true=>
  refine wpAny_pyIter_ascii ha ?_;exact⟨s.heap.objs.size,[s.heap.objs.size],_,_,H,rfl,I.kept (t':=s.toks) λb o e=>Vzu _ e,y4 (ty:= "str_ascii_iterator") _ z t (λA hA=>Walks.strAscii hA _ z t) (by decide) (λA i s Q E a h=>wpAny_pyIter_striter_ascii a h),
   ⟨XT _,_,Z0 _ rfl,rfl,rfl⟩,c,q⟩
theorem Io {l:Expr} (hl:PE X l tl):PI X tg l (Qh tl):=by
 intro pins s σ H R I h;refine thn (hl pins s σ H _ I h) λv s1 ⟨x,H1,I1,r1,z,e,q⟩=>?_;subst e;obtain⟨t,rfl⟩:=r1;exact JK I1 q
def Ite (K:Vzz) (a:Yau):It:=
 ⟨λi H=>∃xs x,SqL K H a xs/\xs[i]? = some x,λi H x H'=>∃p v,H p=none/\(∀xs,SqL K H a xs->xs[i]? = some v)/\x = .ref p/\H' = upd H p (.tup [.int i,v]),λi H=>∃xs,SqL K H a xs/\xs.length<=i⟩
theorem F5 {P:Yax}{k:Nat} (a it e:Yau) (n:e≠it):Turn P w K (.Tuple BX k pos) (Ite K a) [e,it] e (λi h=>(∃old,IsEnum h e it i old)/\h.IsListIter it a i) where
 mem:=by simp
 obj:=λi h g b m=>by
  obtain⟨⟨old,l⟩,o,r,c,d⟩:=g
  grind
 keep:=λi h h' g v=>by
  obtain⟨⟨old,l⟩,o,r,c,d⟩:=g;exact⟨⟨old,v e (by simp) _ l⟩,o,v it (by simp) o r,c,d⟩
 item:=by
  intro X G L hK Q i j s R H E I t g F;subst G L hK;obtain⟨xs,x,y,S⟩:=F;obtain⟨B,J,p,V⟩:=I.list y;obtain⟨u,hu,ru⟩:=J.get S;obtain⟨⟨old,l⟩,f⟩:=g;refine wpAny_pyNext_enum_item l f p.isList (x:=u) (by simpa using hu) n λ_ ho T W _ v=>?_;refine⟨_,rfl,?_⟩;refine wpAny_letOwnedTupleGo_enum ho λU O M=>?_;have A:∀{b:Yau}{o:Obj},s.heap.get? b=some o->b<s.heap.objs.size:=λe=>Z1 e;have C:e<s.heap.objs.size:=A l;obtain⟨_,_,_⟩:=f;have I2:Inv X j R (upd H s.heap.objs.size (.tup [.int i,x])) { s with heap:=U,toks:=s.toks+1 }:=I.kG (wr:=[e,it]) t (λb o m D=>by
    have q:b≠e:=λz=>m (by simp[z]);exact(M.2 b q).trans (v b o q (λz=>m (by simp[z])) D)) (XD _) ⟨by show 2<=Yb0;decide,[.int i s.toks,u],.cons ⟨_,rfl⟩ (.cons ru .nil),⟨_,((M.2 _ (Y5 C)).trans W),rfl,_,rfl⟩⟩
  refine⟨.ref s.heap.objs.size,_,I2,rfl,⟨_,x,(I.hok.fresh (XD _)),λ_ Y=>by rwa [I.mU Y y],rfl,rfl⟩,⟨⟨_,by simpa using O⟩,?_⟩,λb m=>?_⟩
  ·obtain⟨o,r,c,d⟩:=T;exact⟨o,(M.2 it (Ya4 n)).trans r,c,d⟩
  ·have N:b≠s.heap.objs.size:=by
    grind
   rw[ao N];exact(t b m).1
 done:=by
  intro X G L hK Q i j s R H E I t g F;subst G L hK;obtain⟨xs,y,S⟩:=F;obtain⟨B,J,p,V⟩:=I.list y;have hl:=J.length;obtain⟨⟨old,l⟩,f⟩:=g;exact wpAny_pyNext_enum_end (I.ok.hd Q) l f p.isList (by simp;lia) λh' D=>⟨rfl,I.dJ (t':=s.toks) (wr:=[e,it]) t λb o m Z=>D b o (λz=>m (by simp[z])) Z⟩
 self:=λ_ _ _ _ _ g h=>by
  grind [wpAny_pyIter_enum]
def SX (K:Vzz) (ta:TA):TI:=λσ H R=>ta σ H λvs H1=>∃a,vs=[.ref a]/\(∃xs,SqL K H1 a xs)/\R (Ite K a) H1
theorem Ez {w:List Expr}{k:Nat}{K1:Pos}{a:Expr}{ta:TA}{p pos:Pos} (m:Gl X "enumerate") (v:X.mg "enumerate" = none) (o:PA X [a] ta) (t:Yb2 [a] X.env=[(false,eval a X.env)]:=by rfl):PI X (.Tuple w k K1) (.Call (.Name "enumerate" p) [a] [] pos) (SX X.K ta):=by
 intro d s u H R I h;refine Call_ (eN I m v boot_enumerate (W0 (thn (o pos d s u H _ I h) λ_ c ⟨_,l,g,z,B⟩=>?_) t rfl));obtain⟨a,e,⟨_,x⟩,q⟩:=B;subst e;cases z with
 | cons r n=>
  cases n;cases r;obtain⟨_,_,y,_⟩:=g.list x;refine call_enumerate_list y.isList λ_ j i _ A=>wpAny_pyIter_enum j ?_;refine⟨c.heap.objs.size+1,[c.heap.objs.size+1,c.heap.objs.size],_,_,l,rfl,g.kept (t':=c.toks) A,F5 a c.heap.objs.size (c.heap.objs.size+1) (Nat.succ_ne_self _),⟨⟨_,by simpa using j⟩,i⟩,λb _=>?_,q⟩;have f:c.heap.objs.size<=b:=by
   grind
  exact g.nG f (g.hok.fresh f)
mutual
inductive Den (K:Vzz) (H:Hp):V->Yaz->Prop
 | non:Den K H .non .none
 | bl (b:Bool):Den K H (.bl b) (.bool b)
 | int (i:Int):Den K H (.int i) (.int i)
 | str {x:Str} (h:Z2 x=true):Den K H (.str x) (.str x)
 | lst {a:Yau}{xs:Qqt}{ds:Qqy} (h:SqL K H a xs) (t:ay K H xs ds):Den K H (.ref a) (.list ds)
 | tup {a:Yau}{xs:Qqt}{ds:Qqy} (h:SqT K H a xs) (t:ay K H xs ds):Den K H (.ref a) (.tuple ds)
inductive ay (K:Vzz) (H:Hp):Qqt->Qqy->Prop
 | nil:ay K H [] []
 | cons {x:V}{xs:Qqt}{d:Yaz}{ds:Qqy} (h:Den K H x d) (t:ay K H xs ds):ay K H (x::xs) (d::ds)
end
theorem ay.length:∀{xs:Qqt}{ds:Qqy},ay K H xs ds->xs.length=ds.length
 | _,_,.nil=>rfl
 | _,_,.cons _ t=>by rw[XX,XX,t.length]
theorem ay.append:∀{xs ys:Qqt}{ds es:Qqy},ay K H xs ds->ay K H ys es->ay K H (xs++ys) (ds++es)
 | _,_,_,_,.nil,s=>s
 | _,_,_,_,.cons r t,s=>.cons r (t.append s)
theorem ay.get:∀{xs:Qqt}{ds:Qqy}{i:Nat}{x:V},ay K H xs ds->xs[i]? = some x->∃d,ds[i]? = some d/\Den K H x d
 | _,_,_,_,.nil,e=>by simp at e
 | _,_,0,_,.cons r _,e=>by simp_all
 | _,_,i+1,x,.cons _ t,e=>by
  obtain⟨u,_,_⟩:=ay.get (i:=i) (x:=x) t (by simpa using e)
  simp_all
theorem ay.getD:∀{xs:Qqt}{ds:Qqy}{i:Nat}{d:Yaz},ay K H xs ds->ds[i]? = some d->∃x,xs[i]? = some x/\Den K H x d
 | _,_,_,_,.nil,e=>by simp at e
 | _,_,0,_,.cons r _,e=>by simp_all
 | _,_,i+1,x,.cons _ t,e=>by
  obtain⟨u,_,_⟩:=ay.getD (i:=i) t (by simpa using e)
  simp_all
mutual
theorem Den.keep (h1:∀a xs,SqL K H a xs->SqL K H' a xs) (h2:∀a xs,SqT K H a xs->SqT K H' a xs):∀{v:V}{d:Yaz},Den K H v d->Den K H' v d
 | _,_,.non=>.non
 | _,_,.bl b=>.bl b
 | _,_,.int i=>.int i
 | _,_,.str h=>.str h
 | _,_,.lst h t=>.lst (h1 _ _ h) (ay.keep h1 h2 t)
 | _,_,.tup h t=>.tup (h2 _ _ h) (ay.keep h1 h2 t)
theorem ay.keep (h1:∀a xs,SqL K H a xs->SqL K H' a xs) (h2:∀a xs,SqT K H a xs->SqT K H' a xs):∀{v:Qqt}{d:Qqy},ay K H v d->ay K H' v d
 | _,_,.nil=>.nil
 | _,_,.cons r t=>.cons (Den.keep h1 h2 r) (ay.keep h1 h2 t)
end
theorem ab.eQ (e:ab H H') (h:SqT K H a xs):SqT K H' a xs:=by
 rcases h with(h | ⟨o,h⟩) | h
 ·exact .inl (.inl (e _ _ h))
 ·exact .inl (.inr ⟨o,e _ _ h⟩)
 ·exact .inr h
theorem Den.same {d:Yaz} (e:ab H H') (h:Den K H v d):Den K H' v d:=h.keep (λ_ _ q=>e.seq q) λ_ _ q=>e.eQ q
theorem ay.same {v:Qqt}{d:Qqy} (e:ab H H') (h:ay K H v d):ay K H' v d:=h.keep (λ_ _ q=>e.seq q) λ_ _ q=>e.eQ q
mutual
theorem Den.lay:∀{v:V}{d:Yaz},Den K H v d->d.canLay0=true
 | _,_,.non=>rfl
 | _,_,.bl b=>rfl
 | _,_,.int i=>rfl
 | _,_,.str h=>h
 | _,_,.lst h t=>ay.lay t
 | _,_,.tup h t=>ay.lay t
theorem ay.lay:∀{v:Qqt}{d:Qqy},ay K H v d->Z4 d=true
 | _,_,.nil=>rfl
 | _,_,.cons r t=>by rw[Z4,Den.lay r,ay.lay t];rfl
end
section
variable {s:Vzx}
mutual
theorem Inv.reads (I:Inv X pins σ H s):∀{v:V}{d:Yaz}{u:Vzy},Den X.K H v d->RelV v u->∃as,Reads s.heap u d as
 | _,_,_,.non,r=>by cases r;exact⟨_,.none⟩
 | _,_,_,.bl b,r=>by cases r;exact⟨_,.bool b⟩
 | _,_,_,.int i,r=>by obtain⟨t,rfl⟩:=r;exact⟨_,.int i t⟩
 | _,_,_,.str (x:=x) h,r=>by obtain⟨t,rfl⟩:=r;exact⟨_,.str x t⟩
 | _,_,_,.lst h t,r=>by
  cases r;obtain⟨f,a,⟨o,n,e,c,_,d⟩,_⟩:=I.list h;obtain⟨as,g⟩:=I.readsAll t a;exact⟨_,.list e c d (by simpa using g)⟩
 | _,_,_,.tup h t,r=>by
  cases r;obtain⟨f,a,⟨o,e,c,n,d⟩,_⟩:=I.tuple h;obtain⟨as,g⟩:=I.readsAll t a;exact⟨_,.tuple e c d (by simpa using g)⟩
theorem Inv.readsAll (I:Inv X pins σ H s):∀{vs:Qqt}{ds:Qqy}{us:Qqz},ay X.K H vs ds->aO vs us->∃as,ReadsAll s.heap us ds as
 | _,_,_,.nil,.nil=>⟨_,.nil⟩
 | _,_,_,.cons h t,.cons r rr=>by
  obtain⟨as,b⟩:=I.reads h r;obtain⟨_,a⟩:=I.readsAll t rr;exact⟨_,.cons b a⟩
end
def nH (K:Vzz):R2:=λx y H Q=>∃d e,Den K H x d/\Den K H y e/\d.depth<=100/\Q (.bl (Z7 d e)) H
def yw (K:Vzz):R2:=λx y H Q=>∃d e,Den K H x d/\Den K H y e/\d.depth<=100/\Q (.bl (!PyData.eqv d e)) H
theorem qd {k a b:Nat} (hr:bB k A) (h:a<=100):A.units+min a b<cLine:=by
 have:=hr.un;lia
theorem gy {k:Nat} (i:bB k X.A):OpR X (compareOp .Eq) (nH X.K):=by
 intro _ s _ H x y v u Q I g c h;obtain⟨d,e,b,a,f,q⟩:=h;obtain⟨_,l⟩:=I.reads b g;obtain⟨_,j⟩:=I.reads a c;exact SeqAt.compareEq_reads l j b.lay a.lay (qd i f) ⟨.bl _,H,I,rfl,q⟩
theorem jT {k:Nat} (i:bB k X.A):OpR X (compareOp .NotEq) (yw X.K):=by
 intro _ s _ H x y v u Q I g c h;obtain⟨d,e,b,a,f,q⟩:=h;obtain⟨_,l⟩:=I.reads b g;obtain⟨_,j⟩:=I.reads a c;exact SeqAt.compareNe_reads l j b.lay a.lay (qd i f) ⟨.bl _,H,I,rfl,q⟩
theorem kO:OpR X (compareOp .LtE) (λx y H Q=>∃i j,x = .str i/\y = .str j/\Q (.bl (!decide (j.cps.toList<i.cps.toList))) H):=by
 intro _ s _ H x y v u Q I b a h;obtain⟨i,j,rfl,rfl,q⟩:=h;obtain⟨t,rfl⟩:=b;obtain⟨_,rfl⟩:=a;exact PySem.P.le_str ⟨.bl _,H,I,rfl,q⟩
def WG:V->Option Int->Option Int->Hp->VK->Prop:=λx lo hi H Q=>∃z,x = .str z/\z.length<=Yb0/\Q (.str (Yac z lo hi)) H
theorem LX:SlR X WG:=by
 intro b s o H x v _ _ m p _ Q I n d r e h;obtain⟨z,rfl,c,q⟩:=h;obtain⟨t,rfl⟩:=n;refine⟨"str",_,F.slot_str_getitem.lookup,typeIs_str _ _ _,?_⟩;have a:∀g k,EP X b o Q (.str (Yac z m p) g) { s with toks:=k }:=λg k=>⟨.str _,H,I.tok _,⟨_,rfl⟩,q⟩;cases r with
 | none=>
  cases e with
  | none=>exact wpAny_getItem_str_slice (l:=none) (u:=none) (st:=none) d rfl (post_val_or_str ⟨XG (Txt.slice_le z _ _) c,a⟩)
  | int j u=>exact wpAny_getItem_str_slice (l:=none) (u:=some (j,u)) (st:=none) d rfl (post_val_or_str ⟨XG (Txt.slice_le z _ _) c,a⟩)
 | int i f=>
  cases e with
  | none=>exact wpAny_getItem_str_slice (l:=some (i,f)) (u:=none) (st:=none) d rfl (post_val_or_str ⟨XG (Txt.slice_le z _ _) c,a⟩)
  | int j u=>exact wpAny_getItem_str_slice (l:=some (i,f)) (u:=some (j,u)) (st:=none) d rfl (post_val_or_str ⟨XG (Txt.slice_le z _ _) c,a⟩)
theorem wQ:∀(l:List (Str×Tok)),aO ((l.map (·.1)).map V.str) (strValues l)
 | []=>.nil
 | p::r=>.cons ⟨p.2,rfl⟩ (wQ r)
def OY:V->Qqt->Hp->VK->Prop:=λx vs H Q=>∃z y,x = .str z/\vs=[.str y]/\y.length≠0/\z.length+2<=Yb0/\∀l,H l=none->Q (.ref l) (upd H l (.lst ((Z5 z y).map V.str)))
theorem split_len (z y:Str) (hz:z.length+2<=Yb0):(Builtin.Str.partsBetween z (Builtin.Str.occurrences z y 0 z.length (z.length+1)) y.length).length<=Yb0:=by
 grind [StrLaws.occ_length_le,length_partsBetween]
theorem tX:MtR X "str.split" OY:=by
 intro c s w H x _ v _ Q I m n h;obtain⟨z,y,rfl,rfl,p,k,q⟩:=h;obtain⟨t,rfl⟩:=m;obtain⟨u,rfl,r⟩:=n.one;obtain⟨f,rfl⟩:=r;have i:=split_len z y k;have a:∀(l:List (Str×Tok)) (g:Nat),l.map (·.1)=Z5 z y->EP X c w Q (.ref s.heap.objs.size) { s with heap:=s.heap.push { cls:=.type "list",data:=.seq (strValues l).toArray },toks:=g }:=λl g e=>by
  have j:((Z5 z y).map V.str).length<=Yb0:=by
   grind [XA,Z5,Yb0]
  refine⟨.ref s.heap.objs.size,_,I.laid (o:=.lst ((Z5 z y).map V.str)) (λb _ e=>Vzu _ e) (XD _) ⟨j,strValues l,0,?_,Z0 _ rfl⟩,rfl,q _ (I.hok.fresh (XD _))⟩
  grind [wQ]
 have d:(y.length == 0)=false:=by simpa using p
 cases h1:(decide (z.length<y.length) || decide (Builtin.Str.strKind z<Builtin.Str.strKind y))
 ·cases hf:(Builtin.Str.occurrences z y 0 z.length (z.length+1)).isEmpty
  ·refine call_meets F.slot_str_split (typeIs_str _ _ _) F.entry_str_split (F.args_str_split_2 _ _) (meets_str_split_sep z y t f h1 d hf (by lia) i) ?_;rw[strsFrom_eq];exact a (numbered s.toks _) _ ((numbered_texts _ _).trans ((Yb8 (ne_true_of_eq_false h1)).trans (Yb8 (ne_true_of_eq_false hf))).symm)
  ·exact call_meets F.slot_str_split (typeIs_str _ _ _) F.entry_str_split (F.args_str_split_2 _ _) (meets_str_split_not_found z y t f h1 d hf)
    (a [(z,t)] s.toks ((Yb8 (ne_true_of_eq_false h1)).trans (Yb7 hf)).symm)
 ·exact call_meets F.slot_str_split (typeIs_str _ _ _) F.entry_str_split (F.args_str_split_2 _ _) (meets_str_split_cannot_occur z y t f h1)
   (a [(z,t)] s.toks (Yb7 h1).symm)
theorem EH:∀{ys:Qqv}{us:Qqz},aO (ys.map V.str) us->∃l:List (Str×Tok),us=strValues l/\l.map (·.1)=ys
 | [],_,.nil=>⟨[],rfl,rfl⟩
 | y::ys,_,.cons r t=>by
  obtain⟨a,rfl⟩:=r;obtain⟨l,rfl,rfl⟩:=EH t;exact⟨(y,a)::l,rfl,rfl⟩
def rJoin (K:Vzz):V->Qqt->Hp->VK->Prop:=λx vs H Q=>∃z l ys,x = .str z/\vs=[.ref l]/\SqL K H l (ys.map V.str)/\JoinOk z ys=true/\Q (.str (Ya6 z ys)) H
theorem ya:MtR X "str.join" (rJoin X.K):=by
 intro _ s _ H x _ v _ Q I c d h;obtain⟨z,l,_,rfl,rfl,b,a,q⟩:=h;obtain⟨t,rfl⟩:=c;obtain⟨u,rfl,f⟩:=d.one;cases f;obtain⟨_,r,g,_⟩:=I.list b;obtain⟨_,rfl,e⟩:=EH r;exact SC.join g.isList e a λ_ k=>⟨.str _,H,I.tok _,⟨_,rfl⟩,q⟩
end
mutual
def ltv:Yaz->Yaz->Bool
 | .int a,.int b=>decide (a<b)
 | .str x,.str y=>decide (x.cps.toList<y.cps.toList)
 | .list xs,.list ys=>aP xs ys
 | .tuple xs,.tuple ys=>aP xs ys
 | _,_=>false
def aP:Qqy->Qqy->Bool
 | [],[]=>false
 | [],_::_=>true
 | _::_,[]=>false
 | x::xs,y::ys=>if Z7 x y=true then aP xs ys else ltv x y
end
mutual
def mF:Yaz->Yaz->Bool
 | .int _,.int _=>true
 | .str _,.str _=>true
 | .list xs,.list ys=>cU xs ys
 | .tuple xs,.tuple ys=>cU xs ys
 | _,_=>false
def cU:Qqy->Qqy->Bool
 | [],_=>true
 | _::_,[]=>true
 | x::xs,y::ys=>if Z7 x y=true then cU xs ys else mF x y
end
theorem cK (x y:Yaz) (xs ys:Qqy):aP (x::xs) (y::ys)=if Z7 x y=true then aP xs ys else ltv x y:=by rw[aP]
theorem fR (x y:Yaz) (xs ys:Qqy):cU (x::xs) (y::ys)=if Z7 x y=true then cU xs ys else mF x y:=by rw[cU]
def C7 (A:Yaw) (s:Vzx) (y x:Vzy) (b:Bool):Prop:=
 ∀(prog:Yax) (w:Yay) (E:Vzy->Vzx->Prop) (Q:Vzy->Vzx->Prop),Q (.bool b) s->Yb1 (model prog w) A (richCompare .Lt y x) Q E s
def oh (xs ys:Qqy):Prop:=∀x y,x∈xs->y∈ys->mF x y=true->∀(A:Yaw) (s:Vzx) (a b:Vzy) (as bs:Qqx),Reads s.heap a x as->Reads s.heap b y bs->x.canLay0=true->y.canLay0=true->A.units+x.depth<cLine->C7 A s a b (ltv x y)
theorem oh.tail {x y:Yaz}{xs ys:Qqy} (h:oh (x::xs) (y::ys)):oh xs ys:=λa b ha hb=>h a b (XF _ ha) (XF _ hb)
section
open PySem.SeqAt
open PySem.AutoSeq1 (wpAny_loadPart')
open PySem.MeetsSeq PySem.MeetsSeq2 PySem.MeetsSeq3
theorem fG {x:Yaz}{xs:Qqy}{k:Nat} (h:k+Z3 (x::xs)<cLine):k+x.depth<cLine:=by
 rw[Z3]at h;have:=Nat.le_max_left x.depth (Z3 xs);lia
theorem l4 {x:Yaz}{xs:Qqy}{k:Nat} (h:k+Z3 (x::xs)<cLine):k+Z3 xs<cLine:=by
 rw[Z3]at h;have:=Nat.le_max_right x.depth (Z3 xs);lia
theorem wY {k a b:Nat} (h:k+a<cLine):k+min a b<cLine:=by
 have:=Nat.min_le_left a b;lia
def Sq (T:String) (hp:Heap) (a:Yau) (its:Qqw):Prop:=∃n dd sl,hp.get? a=some { cls:=.type T,dict:=dd,data:=.seq its n,slots:=sl }
structure Sqs (hp:Heap) (i:Nat) (its fP:Qqw) (xs ys:Qqy):Prop where
 in1:i<=its.size
 in2:i<=fP.size
 r1:∃as,ReadsAll hp (its.toList.drop i) xs as
 r2:∃bs,ReadsAll hp (fP.toList.drop i) ys bs
theorem Ea (h:its.size<=i):its[((i:Nat):Int).toNat]? = none:=by
 rw[Yv];exact ZS h
theorem some_at (h:i<its.size):its[((i:Nat):Int).toNat]? = some its[i]:=by
 rw[Yv];exact YR h
theorem Lo (i:Nat):((i:Int)+1)=((i+1:Nat):Int):=rfl
theorem Sqs.Ra {a:Heap}{b:Qqw}{xs ys:Qqy} (q:Sqs a i its b xs ys):xs.length=its.size - i:=by
 obtain⟨_,r⟩:=q.r1;have:=ReadsAll.length _ _ _ r;rw[Y1,X6]at this;exact this.symm
theorem Sqs.RT {b:Heap}{a:Qqw}{xs ys:Qqy} (q:Sqs b i its a xs ys):ys.length=a.size - i:=by
 obtain⟨_,r⟩:=q.r2;have:=ReadsAll.length _ _ _ r;rw[Y1,X6]at this;exact this.symm
theorem Sqs.over {d:Heap}{b:Qqw}{xs ys:Qqy} (q:Sqs d i its b xs ys) (h:its.size<=i\/b.size<=i):aP xs ys=decide (its.size<b.size)/\aP ys xs=decide (its.size > b.size):=by
 have c:=q.Ra;have a:=q.RT;have f:=q.in1;have e:=q.in2;cases xs with
 | nil=>
  rw[YE]at c;cases ys with
  | nil=>
   rw[YE]at a;rw[aP];exact⟨(Yb5 (by lia)).symm,(Yb5 (by lia)).symm⟩
  | cons y ys=>
   rw[XX]at a;rw[aP,aP];exact⟨(Yb4 (by lia)).symm,(Yb5 (by lia)).symm⟩
 | cons x xs=>
  rw[XX]at c;cases ys with
  | nil=>
   rw[YE]at a;rw[aP,aP];exact⟨(Yb5 (by lia)).symm,(Yb4 (by lia)).symm⟩
  | cons y ys=>
   rw[XX]at a;lia
theorem Sqs.next {a:Heap}{b:Qqw}{xs ys:Qqy} (q:Sqs a i its b xs ys) (h1:i<its.size) (h2:i<b.size):∃x xs' y ys',xs=x::xs'/\ys=y::ys'/\(∃as,Reads a its[i] x as)/\(∃bs,Reads a b[i] y bs)/\Sqs a (i+1) its b xs' ys':=by
 obtain⟨_,_,⟨as,d⟩,bs,c⟩:=q;rw[Yj (by rw[X6];exact h1),Array.getElem_toList]at d;rw[Yj (by rw[X6];exact h2),Array.getElem_toList]at c;cases d with
 | cons h f=>
  cases c with
  | cons g e=>exact⟨_,_,_,_,rfl,rfl,⟨_,h⟩,⟨_,g⟩,h1,h2,⟨_,f⟩,⟨_,e⟩⟩
theorem AY {x:Yaz}{xs:Qqy} (h:Z4 (x::xs)=true):x.canLay0=true/\Z4 xs=true:=by simpa[Z4]using h
theorem uM (l b:Yau) (items r:Qqw) (xs ys:Qqy) (S:oh xs ys) (N:cU xs ys=true) (D:Z4 xs=true) (F:Z4 ys=true) :
  Meets (Builtin.«tuple.__lt__» ⟨[.ref l,.ref b],[]⟩)
   (λA R s=>Sq "tuple" s.heap l items/\Sq "tuple" s.heap b r/\Sqs s.heap 0 items r xs ys/\A.in1.units+Z3 xs<cLine/\R (.ok (.ret (.bool (aP xs ys)))) s):=
 .of_wp λi w A R s h=>by
  obtain⟨t,g,d,C,B⟩:=s;obtain⟨⟨n,_,_,L⟩,⟨_,_,_,Q⟩,⟨_,_,⟨u,o⟩,v,k⟩,P,h⟩:=h;rw[List.drop_zero]at o k;have T:=AutoSeq1.sub_tuple_tuple;have U:items.size=xs.length:=by rw[<-ReadsAll.length _ _ _ o];simp
  have V:r.size=ys.length:=by rw[<-ReadsAll.length _ _ _ k];simp
  wp_walk using wpAny_loadPart' L,wpAny_loadPart' Q,wpAny_forIn_list _ (λrest b E=>b.1=none/\E = ⟨t,g,d,C,B⟩/\∃(vs ws:Qqz) (xs' ys':Qqy) (u v:Qqx),rest=vs.zip ws /\
   ReadsAll t vs xs' u/\ReadsAll t ws ys' v/\oh xs' ys'/\cU xs' ys' = true/\Z4 xs' = true/\Z4 ys' = true/\A.in1.units+Z3 xs' < cLine/\xs'.length+r.size=ys'.length+items.size/\R (.ok (.ret (.bool (aP xs' ys')))) ⟨t,g,d,C,B⟩) _
  case turn=>
   rintro⟨y,x⟩ rest b E ⟨q,rfl,vs,ws,xs',ys',u,v,f,p,e,z,c,J,M,m,a,j⟩;cases p with
   | nil=>rw[List.zip_nil_left]at f;cases f
   | @cons v0 vs0 d0 ds0 as0 as1 r1 hvi'=>
    cases e with
    | nil=>rw[List.zip_nil_right]at f;cases f
    | @cons w0 ws0 e0 es0 bs0 bs1 r2 hwi'=>
     rw[YN]at f;injection f with hyx hrest;injection hyx with hy hx;subst hy hx;rw[cK]at j;rw[fR]at c;have I:d0.canLay0=true/\Z4 ds0=true:=by simpa[Z4]using J
     have G:e0.canLay0=true/\Z4 es0=true:=by simpa[Z4]using M
     simp only[XX]at a;have K:=eqAt_reads d0 e0 A.in1 ⟨t,g,d,C,B⟩ y x as0 bs0 r1 r2 I.1 G.1 (wY (fG m));refine Vzw (K i w _ _ ?_);cases hq:Z7 d0 e0 with
     | true=>
      rw[hq,Yb7 rfl]at j c
      wp_walk
      exact⟨rfl,rfl,_,_,_,_,_,_,hrest,hvi',hwi',z.tail,c,I.2,G.2,l4 m,by lia,j⟩
     | false=>
      rw[hq,Yb8 XN]at j c;have H:=z d0 e0 XC XC c A.in1 ⟨t,g,d,C,B⟩ y x as0 bs0 r1 r2 I.1 G.1 (fG m) i w
      wp_walk using H
      exact⟨_,rfl,by simpa using j⟩
  case fin=>
   rintro⟨_,_⟩ E ⟨q,rfl,vs,ws,xs',ys',u,v,f,p,e,_,_,_,_,_,a,j⟩;simp only at q;subst q;have O:aP xs' ys' = decide (items.size<r.size):=by
    cases p with
    | nil=>
     cases e with
     | nil=>
      simp only[YE]at a;rw[aP];exact(Yb5 (by lia)).symm
     | cons _ _=>
      simp only[YE,XX]at a;rw[aP];exact(Yb4 (by lia)).symm
    | cons _ _=>
     cases e with
     | nil=>
      simp only[YE,XX]at a;rw[aP];exact(Yb5 (by lia)).symm
     | cons _ _=>
      rw[YN]at f;cases f
   rw[O]at j
   wp_walk
   exact⟨_,rfl,by simpa[Builtin.Tuple.tupleCompareSizes]using j⟩
  case h=>
   exact⟨rfl,rfl,items.toList,r.toList,xs,ys,u,v,rfl,o,k,S,N,D,F,P,by lia,h⟩
theorem xG (l b:Yau) (items o:Qqw) (k:Nat):∀(i:Nat) (xs ys:Qqy),items.size - i=k->oh xs ys->cU xs ys=true->Z4 xs=true->Z4 ys=true ->
  Meets (Builtin.«list.__eq__.loop» ⟨[.ref l,.ref b,rawInt i,rawInt 0],[]⟩)
   (λA R s=>Sq "list" s.heap l items/\Sq "list" s.heap b o/\Sqs s.heap i items o xs ys/\A.in1.units+Z3 xs<cLine/\R (.ok (.ret (.bool (aP xs ys)))) s):=by
 induction k with
 | zero=>
  intro i xs ys U _ _ _ _ a w A R s h;obtain⟨M,g,d,O,K⟩:=s;obtain⟨⟨n,Q,S,c⟩,⟨T,t,p,e⟩,m,_,h⟩:=h;rw[(m.over (.inl (by lia))).1]at h
  wp_walk using wpAny_loadPart' c,wpAny_loadPart' e
  rw[Ea (its:=items) (i:=i) (by lia)]
  wp_walk using wpAny_loadPart' c,wpAny_loadPart' e
  exact h
 | succ k C=>
  intro i xs ys U N f r z a w A R s h;obtain⟨M,g,d,O,K⟩:=s;obtain⟨H,F,m,B,h⟩:=h;obtain⟨n,Q,S,c⟩:=id H;obtain⟨T,t,p,e⟩:=id F;have lt1:i<items.size:=by lia
  wp_walk using wpAny_loadPart' c,wpAny_loadPart' e
  rw[some_at lt1];rcases ZC i o.size with lt2 | ge2
  ·obtain⟨x,xs,y,ys,rfl,rfl,⟨J,G⟩,⟨L,E⟩,v⟩:=m.next lt1 lt2;obtain⟨D,u⟩:=AY r;obtain⟨I,q⟩:=AY z;rw[cK]at h;rw[fR]at f;rw[some_at lt2];refine Vzw (eqAt_reads x y A.in1 _ _ _ J L G E D I (wY (fG B)) a w _ _ ?_);cases hq:Z7 x y
   ·simp only[hq,Yh,if_false]at h f;have j:=N x y XC XC f A.in1 ⟨M,g,d,O,K⟩ _ _ J L G E D I (fG B) a w
    wp_walk using wpAny_loadPart' c,wpAny_loadPart' e
    rw[some_at lt1,some_at lt2]
    wp_walk using j
    exact h
   ·simp only[hq,if_true]at h f
    wp_walk
    rw[Lo];have P:=C (i+1) xs ys (by lia) N.tail f u q a w A R _ ⟨H,F,v,l4 B,h⟩;exact⟨plainId_quiet plain_eq_loop _,codeAny_builtin entry_eq_loop (by rw[ZB plain_eq_loop];exact P)⟩
  ·rw[(m.over (.inr ge2)).1]at h;rw[Ea (its:=o) (i:=i) ge2]
   wp_walk using wpAny_loadPart' c,wpAny_loadPart' e
   exact h
theorem xD (l b:Yau) (items e:Qqw) (xs ys:Qqy) (p:oh xs ys) (m:cU xs ys=true) (c:Z4 xs=true) (f:Z4 ys=true) :
  Meets (Builtin.«list.__lt__» ⟨[.ref l,.ref b],[]⟩)
   (λA R s=>Sq "list" s.heap l items/\Sq "list" s.heap b e/\Sqs s.heap 0 items e xs ys/\A.in1.units+Z3 xs<cLine/\R (.ok (.ret (.bool (aP xs ys)))) s):=by
 intro a w A R s h;have j:=xG l b items e _ 0 xs ys rfl p m c f a w A R s h;obtain⟨_,g,d,_,_⟩:=s;obtain⟨⟨n,_,_,k⟩,⟨_,_,_,o⟩,_⟩:=h;have i:=AutoSeq1.sub_list_list
 wp_walk using wpAny_loadPart' k,wpAny_loadPart' o
 exact⟨plainId_quiet plain_eq_loop _,codeAny_builtin entry_eq_loop (by rw[ZB plain_eq_loop];exact j)⟩
theorem oC {x:Yaz}:∀{xs:Qqy},x∈xs->x.depth<=Z3 xs
 | y::ys,h=>by
  rw[Z3]
  (rcases XQ.mp h with e | h)
  ·subst e;exact Nat.le_max_left _ _
  ·exact XG (oC h) (Nat.le_max_right _ _)
end
section
open PySem.SeqAt
open PySem.MeetsSeq PySem.MeetsSeq2 PySem.MeetsSeq3
theorem Dd {s:Vzx}{l:Yau}{o a:Obj}{vs ws:Qqw}{xs ys:Qqy}{i bs:Qqx} (h1:s.heap.get? l=some o) (f:o.cls = .type "list") (d1:o.data = .seq vs n) (h2:s.heap.get? b=some a) (e:a.cls = .type "list") (d2:a.data = .seq ws n2)
  (k:ReadsAll s.heap vs.toList xs i) (j:ReadsAll s.heap ws.toList ys bs) (m:oh xs ys) (g:cU xs ys=true) (c:Z4 xs=true) (d:Z4 ys=true) (p:A.units+(Z3 xs+1)<cLine):C7 A s (.ref l) (.ref b) (aP xs ys):=λ_ w E Q h=>by
 obtain⟨_,_,_,_⟩:=o;obtain⟨_,_,_,_⟩:=a;subst f d1 e d2;exact richCompare_meets_room (op:=.Lt) ⟨_,h1,rfl⟩ ⟨_,h2,rfl⟩ F.slot_list_lt F.entry_list_lt (F.args_list_lt_2 _ _) (xD l b vs ws xs ys m g c d)
  ⟨⟨_,_,_,h1⟩,⟨_,_,_,h2⟩,⟨XT _,XT _,⟨_,k⟩,⟨_,j⟩⟩,by lia,show Value.bool (aP xs ys)≠Value.notImplemented/\Q (.bool (aP xs ys)) s from⟨(λx=>nomatch x),h⟩⟩ (by lia)
theorem Bm {s:Vzx}{l:Yau}{o a:Obj}{vs ws:Qqw}{xs ys:Qqy}{i bs:Qqx} (h1:s.heap.get? l=some o) (f:o.cls = .type "tuple") (d1:o.data = .seq vs n) (h2:s.heap.get? b=some a) (e:a.cls = .type "tuple") (d2:a.data = .seq ws n2)
  (k:ReadsAll s.heap vs.toList xs i) (j:ReadsAll s.heap ws.toList ys bs) (m:oh xs ys) (g:cU xs ys=true) (c:Z4 xs=true) (d:Z4 ys=true) (p:A.units+(Z3 xs+1)<cLine):C7 A s (.ref l) (.ref b) (aP xs ys):=λ_ w E Q h=>by
 obtain⟨_,_,_,_⟩:=o;obtain⟨_,_,_,_⟩:=a;subst f d1 e d2;exact richCompare_meets_room (op:=.Lt) ⟨_,h1,rfl⟩ ⟨_,h2,rfl⟩ F.slot_tuple_lt F.entry_tuple_lt (F.args_tuple_lt_2 _ _) (uM l b vs ws xs ys m g c d)
  ⟨⟨_,_,_,h1⟩,⟨_,_,_,h2⟩,⟨XT _,XT _,⟨_,k⟩,⟨_,j⟩⟩,by lia,show Value.bool (aP xs ys)≠Value.notImplemented/\Q (.bool (aP xs ys)) s from⟨(λx=>nomatch x),h⟩⟩ (by lia)
theorem Az {s:Vzx}{a b:Vzy}{i j:Int}{e bs:Qqx} (f:Reads s.heap a (.int i) e) (d:Reads s.heap b (.int j) bs):C7 A s a b (ltv (.int i) (.int j)):=by
 cases f with
 | int i t=>
  cases d with
  | int j u=>intro c w E Q h;exact HT.Kg A s i t j u c w E Q (by rwa [ltv]at h)
theorem zo {s:Vzx}{a b:Vzy}{e bs:Qqx} (f:Reads s.heap a (.str x) e) (d:Reads s.heap b (.str y) bs):C7 A s a b (ltv (.str x) (.str y)):=by
 cases f with
 | str x t=>
  cases d with
  | str y u=>intro c w E Q h;exact(PyProof.Rows.lt_str (by rwa [ltv]at h):Yb1 (model c w) A (compareOp .Lt (.str x t) (.str y u)) Q E s)
theorem vQ {a b:Yaz} (h:mF a b=true):(∃i j,a = .int i/\b = .int j)\/(∃x y,a = .str x/\b = .str y)\/(∃xs ys,a = .list xs/\b = .list ys/\cU xs ys=true)\/∃xs ys,a = .tuple xs/\b = .tuple ys/\cU xs ys=true:=by
 unfold mF at h
 grind
theorem rS:∀(n:Nat) (da db:Yaz),da.depth<=n->mF da db=true->∀(A:Yaw) (s:Vzx) (a b:Vzy) (as bs:Qqx),Reads s.heap a da as->Reads s.heap b db bs->da.canLay0=true->db.canLay0=true->A.units+da.depth<cLine->C7 A s a b (ltv da db):=by
 intro n
 induction n with
 | zero=>
  intro da db q c A s a b as bs p l C G t;rcases vQ c with⟨i,j,rfl,rfl⟩ | ⟨x,y,rfl,rfl⟩ | ⟨r,u,rfl,rfl,c⟩ | ⟨r,u,rfl,rfl,c⟩
  ·exact Az p l
  ·exact zo p l
  ·rw[ZT]at q;lia
  ·rw[ZT]at q;lia
 | succ n H=>
  intro da db q c A s a b as bs p l C G t;rcases vQ c with⟨i,j,rfl,rfl⟩ | ⟨x,y,rfl,rfl⟩ | ⟨r,u,rfl,rfl,c⟩ | ⟨r,u,rfl,rfl,c⟩
  ·exact Az p l
  ·exact zo p l
  ·rw[ZT]at q t;cases p with
   | @list a o vs k r as1 h1 c1 d1 r1=>
    cases l with
    | @list b o2 ws k2 u bs1 h2 c2 d2 r2=>
     rw[ltv];exact Dd h1 c1 d1 h2 c2 d2 r1 r2 (λx y D I f F z w B g m d e v E h=>H x y (by have:=oC D;lia) f F z w B g m d e v E h) c C G t
  ·rw[ZT]at q t;cases p with
   | @tuple a o vs k r as1 h1 c1 d1 r1=>
    cases l with
    | @tuple b o2 ws k2 u bs1 h2 c2 d2 r2=>
     rw[ltv];exact Bm h1 c1 d1 h2 c2 d2 r1 r2 (λx y D I f F z w B g m d e v E h=>H x y (by have:=oC D;lia) f F z w B g m d e v E h) c C G t
variable {s:Vzx}
theorem Ho {x y:Vzy}{b:Bool}{Q:Bool->Vzx->Prop} (h:C7 A s x y b) (q:Q b s):Yb1 (model prog w) A (oneLt' false x y) Q E s:=
 W.kat_one x y (h prog w E _ q)
theorem oneLt_str {t u:Tok}{Q:Bool->Vzx->Prop} (q:Q (decide (x.cps.toList<y.cps.toList)) s):Yb1 (model prog w) A (oneLt' true (.str x t) (.str y u)) Q E s:=by
 have:=W.kas_lt_str (prog:=prog) (w:=w) (A:=A) (E:=E) (s:=s) (a:=x) (c:=y) (t:=t) (u:=u) (Q:=Q) q
 rwa [keyLt'_oneType]at this
theorem BS {b:Bool}{x y:Yau}{M:Obj}{B t:Qqw}{k:Nat}{xs ys:Qqy}{C bs:Qqx}{Q:Bool->Vzx->Prop} (hx:s.heap.get? x=some ox) (dx:ox.data = .seq B n) (R:s.heap.get? y=some M) (S:M.data = .seq t k)
  (V:ReadsAll s.heap B.toList xs C) (U:ReadsAll s.heap t.toList ys bs) (ha:Z4 xs=true) (hb:Z4 ys=true) (Y:cU xs ys=true) (N:∀d e,xs.head? = some d->ys.head? = some e->(b=true->(∃i j,d = .int i/\e = .int j)\/∃i j,d = .str i/\e = .str j))
  (hu:A.units+Z3 xs<cLine) (q:Q (aP xs ys) s):Yb1 (model prog w) A (keyLt' (tuples' b) (.ref x) (.ref y)) Q E s:=by
 refine W.kat_lt hx dx R S ?_;have Z:B.size=xs.length:=by rw[<-ReadsAll.length _ _ _ V];simp
 have z2:t.size=ys.length:=by rw[<-ReadsAll.length _ _ _ U];simp
 have T:∀(D G:Qqz) (a f:Qqy) (C bs:Qqx) (i:Nat),ReadsAll s.heap D a C->ReadsAll s.heap G f bs->Z4 a = true->Z4 f = true->cU a f = true->A.units+Z3 a < cLine ->
   a.length+t.size=f.length+B.size->(i=0->a = xs/\f = ys)->Q (aP a f) s->W.KatLex prog w A b (decide (B.size<t.size)) Q (D.zip G) i s:=by
  intro D
  induction D with
  | nil=>
   intro G a f C bs i m l K L c u F J h;cases m;rw[List.zip_nil_left];refine W.kat_nil ?_;cases l with
   | nil=>
    rw[aP]at h
    rwa [Yb5 (by lia)]
   | cons _ _=>
    rw[aP]at h;simp only[YE,XX]at F
    rwa [Yb4 (by lia)]
  | cons v D H=>
   intro G a f C bs i m l K L c u F J h;cases m with
   | @cons _ _ d0 ds0 as0 as1 m r1'=>
   cases l with
   | nil=>
    rw[List.zip_nil_right];refine W.kat_nil ?_;rw[aP]at h;simp only[YE,XX]at F
    rwa [Yb5 (by lia)]
   | @cons w0 ws0 e0 es0 bs0 bs1 l r2'=>
    rw[YN];rw[cK]at h;rw[fR]at c;have r:d0.canLay0=true/\Z4 ds0=true:=by simpa[Z4]using K
    have o:e0.canLay0=true/\Z4 es0=true:=by simpa[Z4]using L
    refine W.kat_cons (eqAt_reads d0 e0 A s v w0 as0 bs0 m l r.1 o.1 (wY (fG u)) prog w _ _ ?_);cases hq':Z7 d0 e0 with
    | true=>
     rw[hq',Yb7 rfl]at h c;refine W.kat_yes (H ws0 ds0 es0 _ _ (i+1) r1' r2' r.2 o.2 c (l4 u) ?_ (λz=>by lia) h);simp only[XX]at F;lia
    | false=>
     rw[hq',Yb8 XN]at h c;refine W.kat_no ?_;by_cases g:(b && i == 0)=true
     ·have I:b=true:=by simp at g;exact g.1
      obtain⟨O,P⟩:=J (by simp at g;exact g.2);rw[g];rcases N d0 e0 (by rw[<-O];rfl) (by rw[<-P];rfl) I with⟨p,X,rfl,rfl⟩ | ⟨p,X,rfl,rfl⟩
      ·cases m;cases l;rw[ltv]at h;exact oneLt_int h
      ·cases m;cases l;rw[ltv]at h;exact oneLt_str h
     ·have:(b && i == 0)=false:=by simpa using g
      rw[this];exact Ho (rS _ d0 e0 (XD _) c A s v w0 as0 bs0 m l r.1 o.1 (fG u)) h
 grind
end
section
open PySem.W
structure qh (n:Nat) (lt:Nat->Nat->Bool):Prop where
 irrefl:∀a,a<n->lt a a=false
 negTrans:∀a b c,a<n->b<n->c<n->lt a c=true->lt a b=true\/lt b c=true
 asymm:∀a b,a<n->b<n->lt a b=true->lt b a=false
def AllLt (n:Nat) (p:Array Nat):Prop:=∀i,p.getD i 0<n
def qt (lt:Nat->Nat->Bool) (p:Array Nat) (k:Nat):Prop:=∀i j,i<=j->j<k->lt (p.getD j 0) (p.getD i 0)=false
def ku (lt:Nat->Nat->Bool) (p:Array Nat) (k:Nat):Prop:=∀i j,i<=j->j<k->lt (p.getD i 0) (p.getD j 0)=false
theorem AllLt.perm {p q:Array Nat} (h:AllLt n p) (g:0<n) (r:q.Perm p):AllLt n q:=by
 intro i;by_cases a:i<q.size
 ·have e:q.getD i 0=q[i]:=by simp[Array.getD,a]
  rw[e];have b:q[i]∈p.toList:=(ZG.mp r).mem_iff.mp (by simp);obtain⟨j,d,_⟩:=Ze.mp b;have:=h j;have c:p.getD j 0=q[i]:=by
   have f:j<p.size:=by simpa using d
   simp_all
  rwa [<-c]
 ·lia
section
variable {lt:Nat->Nat->Bool}{cmp:Nat->Nat->(Bool->Vzx->Prop)->Vzx->Prop}{P:Vzx->Prop}
theorem qh.trans (W:qh n lt) {a b c:Nat} (f:a<n) (d:b<n) (e:c<n) (h1:lt b a=false) (h2:lt c b=false):lt c a=false:=by
 cases q:lt c a with
 | false=>rfl
 | true=>
  rcases W.negTrans c b a e d f q with z | z
  ·rw[h2]at z;cases z
  ·rw[h1]at z;cases z
theorem qt.DO (W:qh n lt) {p:Array Nat} (b:AllLt n p) {k:Nat} (h:qt lt p k) (o:1<=k) (g:∀i,k<=i->i<m->lt (p.getD i 0) (p.getD (i - 1) 0)=false):qt lt p m:=by
 have f:∀d i j,j=i+d->j<m->lt (p.getD j 0) (p.getD i 0)=false:=by
  intro d
  induction d with
  | zero=>intro i j e a;rw[e];exact W.irrefl _ (b _)
  | succ d l=>
   intro i j e a;by_cases c:j<k
   ·exact h i j (by lia) c
   ·exact W.trans (b _) (b (j - 1)) (b _) (l i (j - 1) (by lia) (by lia)) (g j (by lia) a)
 intro i j _ a;exact f (j - i) i j (by lia) a
theorem pM {p:Array Nat}{k l:Nat} (a:k<p.size) (b:l<=k) (i:Nat):(bubble p k (k - l)).getD i 0=if i<l then p.getD i 0 else if i=l then p.getD k 0 else if i<=k then p.getD (i - 1) 0 else p.getD i 0:=by
 rw[YK,(getElem?_bubble (xs:=p) a (k - l) (by lia) i)]
 grind [YK]
theorem eB {p:Array Nat} (a:j<=p.size) (k:Nat):(kas_rev p i j).getD k 0=if i<=k/\k<j then p.getD (i+j - 1 - k) 0 else p.getD k 0:=by
 unfold kas_rev;rw[YK,(getElem?_mirror_all (xs:=p) (i:=i) a k)]
 grind [YK]
theorem Bt (l:∀i j C s,i<n->j<n->P s->(∀s',P s'->C (lt i j) s')->cmp i j C s) {p:Array Nat} (d:AllLt n p) {Q:Nat->Vzx->Prop}:∀(f k:Nat) (s:Vzx),P s ->
  (∀m s',P s'->k<=m->m<=k+f->(∀i,k<=i->i<m->lt (p.getD i 0) (p.getD (i - 1) 0)=false)->(m<k+f->lt (p.getD m 0) (p.getD (m - 1) 0)=true)->Q m s')->(kas_asc p f k).kasWp cmp Q s
 | 0,k,s,hs,h=>h k s hs (XD _) (XD _) (λi c g=>by lia) λc=>by lia
 | f+1,k,s,hs,h=>by
  refine l _ _ _ s (d _) (d _) hs λs' a=>?_;cases hc:lt (p.getD k 0) (p.getD (k - 1) 0)with
  | true=>
   show Yaq cmp (if true=true then KasT.ret k else kas_asc p f (k+1)) Q s';rw[Yb7 rfl];exact h k s' a (XD _) (by lia) (λi c g=>by lia) λ_=>hc
  | false=>
   show Yaq cmp (if false=true then KasT.ret k else kas_asc p f (k+1)) Q s';rw[Yb8 XN];refine(Bt l d f (k+1) s' a λm b q c g u t=>h m b q (by lia) (by lia) (λi o r=>?_) λo=>t (by lia));by_cases e:i=k
   ·rwa [e]
   ·exact u i (by lia) r
def Alike (lt:Nat->Nat->Bool) (p:Array Nat) (k q:Nat):Prop:=∀i,k - (q+1)<=i->i<k->lt (p.getD (k - 1) 0) (p.getD i 0)=false
theorem vz (W:qh n lt) {p:Array Nat}{k:Nat} (d:AllLt n p) (h:k<=p.size) (t:q+1<=k) (c:ku lt p k) (l:Alike lt p k q):ku lt (kas_rev p (k - (q+1)) k) k:=by
 intro i j e g;rw[eB h,eB h];have o:∀a b,k - (q+1)<=a->a<k->k - (q+1)<=b->b<k->lt (p.getD a 0) (p.getD b 0)=false:=λa b _ _ r m=>
  W.trans (d b) (d (k - 1)) (d a) (l b r m) (c a (k - 1) (by lia) (by lia))
 by_cases s:k - (q+1)<=i
 ·grind
 ·rw[Yb8 (by lia)];by_cases f:k - (q+1)<=j
  ·rw[Yb7 ⟨f,g⟩];exact c _ _ (by lia) (by lia)
  ·rw[Yb8 (by lia)];exact c i j e g
theorem iP (W:qh n lt) {p:Array Nat}{k:Nat} (a:AllLt n p) (h1:1<=k) (c:ku lt p k) (h:lt (p.getD (k - 1) 0) (p.getD k 0)=false):ku lt p (k+1):=by
 intro i j b _;by_cases e:j=k
 ·subst e;by_cases d:i=j
  ·subst d;exact W.irrefl _ (a _)
  ·exact W.trans (a _) (a (j - 1)) (a _) h (c i (j - 1) (by lia) (by lia))
 ·exact c i j b (by lia)
theorem qN (W:qh n lt) (t:∀i j C s,i<n->j<n->P s->(∀s',P s'->C (lt i j) s')->cmp i j C s) (u:0<n) {Q:Array Nat×Nat×Nat->Vzx->Prop}:∀(f:Nat) (p:Array Nat) (k q:Nat) (s:Vzx),P s->AllLt n p->k+f<=p.size->q+1<=k->ku lt p k->Alike lt p k q ->
  (∀p' k' q' s',P s'->p'.Perm p->k<=k'->k'<=k+f->q' + 1<=k'->ku lt p' k'->Alike lt p' k' q'->Q (p',k',q') s')->(kas_desc f p k q).kasWp cmp Q s
 | 0,p,k,q,s,hs,hp,hz,hq,hd,ha,h=>h p k q s hs (Array.Perm.refl _) (XD _) (XD _) hq hd ha
 | f+1,p,k,q,s,hs,hp,hz,hq,hd,ha,h=>by
  refine t _ _ _ s (hp _) (hp _) hs λs' l=>?_;cases hc:lt (p.getD k 0) (p.getD (k - 1) 0)with
  | true=>
   have o:=W.asymm _ _ (hp _) (hp _) hc;show Yaq cmp (if true=true then(if q > 0 then kas_desc f (kas_rev p (k - (q+1)) k) (k+1) 0 else kas_desc f p (k+1) 0)else _) Q s';rw[Yb7 rfl]
   split
   ·have x:(kas_rev p (k - (q+1)) k).Perm p:=mirror_perm _ _ _ _;have m:=hp.perm u x;have w:(kas_rev p (k - (q+1)) k).size=p.size:=mirror_size _ _ _ _;refine qN W t u f _ (k+1) 0 s' l m (by rw[w];lia) (by lia) (iP W m (by lia) (vz W hp (by lia) hq hd ha) ?_) (λi y z=>?_) λp' k' q' g a b c d e=>h p' k' q' g a (b.trans x) (by lia) (by lia) e
    ·rw[eB (by lia),eB (by lia),Yb7 ⟨by lia,by lia⟩,Yb8 (by lia)];refine W.trans (hp _) (hp (k - 1)) (hp _) o ?_;exact hd _ _ (by lia) (by lia)
    ·have:i=k+1 - 1:=by lia
     rw[this];exact W.irrefl _ (m _)
   ·refine qN W t u f _ (k+1) 0 s' l hp (by lia) (by lia) (iP W hp (by lia) hd o) (λi y z=>?_) λp' k' q' g a b c d e=>h p' k' q' g a b (by lia) (by lia) e;have:i=k+1 - 1:=by lia
    rw[this];exact W.irrefl _ (hp _)
  | false=>
   show Yaq cmp (if false=true then _ else KasT.ask (p.getD (k - 1) 0) (p.getD k 0) λd=>if d=true then KasT.ret (p,k,q)else kas_desc f p (k+1) (q+1)) Q s';rw[Yb8 XN];refine t _ _ _ s' (hp _) (hp _) l λv r=>?_;cases hc2:lt (p.getD (k - 1) 0) (p.getD k 0)with
   | true=>
    show Yaq cmp (if true=true then KasT.ret (p,k,q)else _) Q v;rw[Yb7 rfl];exact h p k q v r (Array.Perm.refl _) (XD _) (by lia) hq hd ha
   | false=>
    show Yaq cmp (if false=true then _ else kas_desc f p (k+1) (q+1)) Q v;rw[Yb8 XN];refine qN W t u f _ (k+1) (q+1) v r hp (by lia) (by lia) (iP W hp (by lia) hd hc2) (λi y z=>?_) λp' k' q' g a b c d e=>h p' k' q' g a b (by lia) (by lia) e;rw[show k+1 - 1=k by lia];by_cases e:i=k
    ·rw[e];exact W.irrefl _ (hp _)
    ·exact W.trans (hp _) (hp (k - 1)) (hp _) (ha i (by lia) (by lia)) hc
theorem zX (W:qh n lt) (w:∀i j C s,i<n->j<n->P s->(∀s',P s'->C (lt i j) s')->cmp i j C s) (o:0<n) {p:Array Nat}{k f:Nat}{s:Vzx}{Q:Nat×Array Nat->Vzx->Prop} (r:P s) (v:AllLt n p) (x:k<=f) (h1:1<=k) (hz:f<=p.size) (q:ku lt p k)
  (h:∀m p' s',P s'->p'.Perm p->1<=m->m<=f->qt lt p' m->Q (m,p') s'):(kas_tail3 k f p).kasWp cmp Q s:=by
 unfold kas_tail3;rw[KasT.kasWp_bind];have l:(kas_rev p 0 k).Perm p:=mirror_perm _ _ _ _;have e:=v.perm o l;have t:qt lt (kas_rev p 0 k) k:=λi j _ u=>by
  rw[eB (by lia),eB (by lia),Yb7 ⟨by lia,u⟩,Yb7 ⟨by lia,by lia⟩];exact q _ _ (by lia) (by lia)
 refine Bt w e _ _ s r λm s' g a b c d=>?_;exact h m _ s' g l (by lia) (by lia) (t.DO W e h1 c)
theorem pY (W:qh n lt) (B:∀i j C s,i<n->j<n->P s->(∀s',P s'->C (lt i j) s')->cmp i j C s) (g:0<n) {p:Array Nat}{k r:Nat}{s:Vzx}{Q:Nat×Array Nat->Vzx->Prop} (H:P s) (A:AllLt n p) (J:k+1<=r) (h1:1<=k) (hz:r<=p.size) (G:ku lt p (k+1))
  (h:∀m p' s',P s'->p'.Perm p->1<=m->m<=r->qt lt p' m->Q (m,p') s'):(kas_descPart k r p).kasWp cmp Q s:=by
 unfold kas_descPart;rw[KasT.kasWp_bind];refine qN W B g _ p (k+1) 0 s H A (by lia) (by lia) G (λi _ _=>?_) λp' q E s' l o a b c d e=>?_
 ·have:i=k+1 - 1:=by lia
  rw[this];exact W.irrefl _ (A _)
 ·have F:=o.size_eq;have f:=A.perm g o;dsimp only
  split
  ·have D:(kas_rev p' (q - (E + 1)) q).Perm p':=mirror_perm _ _ _ _;have I:(kas_rev p' (q - (E + 1)) q).size=p'.size:=mirror_size _ _ _ _;exact zX W B g l (f.perm g D) (by lia) (by lia) (by lia) (vz W f (by lia) c d e) λm u t x y z w v=>h m u t x (y.trans (D.trans o)) z w v
  ·exact zX W B g l f (by lia) (by lia) (by lia) d λm u t x y z w v=>h m u t x (y.trans o) z w v
theorem HU (W:qh n lt) (A:∀i j C s,i<n->j<n->P s->(∀s',P s'->C (lt i j) s')->cmp i j C s) (B:0<n) {p:Array Nat}{k:Nat}{s:Vzx}{Q:Nat×Array Nat->Vzx->Prop} (N:P s) (f:AllLt n p) (h1:1<=k) (hz:k<=p.size)
  (h:∀m p' s',P s'->p'.Perm p->1<=m->m<=k->qt lt p' m->Q (m,p') s'):(kas_count k p).kasWp cmp Q s:=by
 unfold kas_count;rw[KasT.kasWp_bind];refine Bt A f _ _ s N λm s' g a b c d=>?_;have F:qt lt p 1:=λi j t E=>by
  have:i=0:=by lia
  have:j=0:=by lia
  subst_vars;exact W.irrefl _ (f _)
 have u:=F.DO W f (XD _) c;by_cases e:m=k
 ·rw[Yb7 (by simpa using e)];exact h m p s' g (Array.Perm.refl _) a (by lia) u
 ·rw[Yb8 (by simpa using e)];have r:=W.asymm _ _ (f _) (f _) (d (by lia))
  split
  ·refine A _ _ _ s' (f _) (f _) g λD l=>?_;cases hc:lt (p.getD 0 0) (p.getD (m - 1) 0)with
   | true=>
    show Yaq cmp (if true=true then KasT.ret (m,p)else _) Q D;rw[Yb7 rfl];exact h m p D l (Array.Perm.refl _) a (by lia) u
   | false=>
    show Yaq cmp (if false=true then _ else kas_descPart m k (kas_rev p 0 m)) Q D;rw[Yb8 XN];have H:(kas_rev p 0 m).Perm p:=mirror_perm _ _ _ _;have L:(kas_rev p 0 m).size=p.size:=mirror_size _ _ _ _;have o:=f.perm B H;have G:∀i j,i<m->j<m->lt (p.getD i 0) (p.getD j 0)=false:=λi j O E=>by
     have J:=W.trans (f _) (f 0) (f _) hc (by
      cases q:lt (p.getD i 0) (p.getD 0 0)with
      | false=>rfl
      | true=>
       rw[(u 0 i (XT _) O)]at q;cases q)
     exact W.trans (f _) (f (m - 1)) (f _) (u j (m - 1) (by lia) (by lia)) J
    refine pY W A B l o (by lia) a (by lia) (iP W o a (λi j t E=>?_) ?_) λK M I x y z w v=>h K M I x (y.trans H) z w v
    ·rw[eB (by lia),eB (by lia),Yb7 ⟨by lia,by lia⟩,Yb7 ⟨by lia,by lia⟩];exact G _ _ (by lia) (by lia)
    ·rw[eB (by lia),eB (by lia),Yb7 ⟨by lia,by lia⟩,Yb8 (by lia)];exact W.trans (f _) (f (m - 1)) (f _) r (G _ _ (by lia) (by lia))
  ·have R:m=1:=by lia
   refine pY W A B g f (by lia) a hz (iP W f a (λi j t E=>?_) r) h;have:i=0:=by lia
   have:j=0:=by lia
   subst_vars;exact W.irrefl _ (f _)
theorem tJ (W:qh n lt) (o:∀i j C s,i<n->j<n->P s->(∀s',P s'->C (lt i j) s')->cmp i j C s) {p:Array Nat} (c:AllLt n p) {k:Nat} (g:qt lt p k) {Q:Nat->Vzx->Prop}:∀(f l r:Nat) (s:Vzx),P s->l<=r->r<=k->r - l<=f ->
  (∀i,i<l->lt (p.getD k 0) (p.getD i 0)=false)->(∀i,r<=i->i<k->lt (p.getD k 0) (p.getD i 0)=true) ->
  (∀m s',P s'->m<=k->(∀i,i<m->lt (p.getD k 0) (p.getD i 0)=false)->(∀i,m<=i->i<k->lt (p.getD k 0) (p.getD i 0)=true)->Q m s')->(kas_place p k f l r).kasWp cmp Q s
 | 0,l,r,s,hs,h1,h2,h3,h4,h5,h=>h l s hs (by lia) h4 λi a b=>h5 i (by lia) b
 | f+1,l,r,s,hs,h1,h2,h3,h4,h5,h=>by
  unfold kas_place;by_cases e:l ≥ r
  ·rw[Yb7 e];exact h l s hs (by lia) h4 λi a b=>h5 i (by lia) b
  ·rw[Yb8 e];refine o _ _ _ s (c _) (c _) hs λs' d=>?_;cases hc:lt (p.getD k 0) (p.getD ((l+r) / 2) 0)with
   | true=>
    show Yaq cmp (if true=true then kas_place p k f l ((l+r) / 2)else _) Q s';rw[Yb7 rfl];refine tJ W o c g f l ((l+r) / 2) s' d (by lia) (by lia) (by lia) h4 (λi a b=>?_) h;rcases W.negTrans _ (p.getD i 0) _ (c _) (c _) (c _) hc with z | z
    ·exact z
    ·have:=g ((l+r) / 2) i a b;rw[this]at z;cases z
   | false=>
    show Yaq cmp (if false=true then _ else kas_place p k f ((l+r) / 2+1) r) Q s';rw[Yb8 XN];refine tJ W o c g f ((l+r) / 2+1) r s' d (by lia) (by lia) (by lia) (λi a=>?_) h5 h;exact W.trans (c _) (c ((l+r) / 2)) (c _) (g i ((l+r) / 2) (by lia) (by lia)) hc
theorem Lw (W:qh n lt) (v:∀i j C s,i<n->j<n->P s->(∀s',P s'->C (lt i j) s')->cmp i j C s) (q:0<n) {Q:Array Nat->Vzx->Prop}:∀(f:Nat) (p:Array Nat) (k:Nat) (s:Vzx),P s->AllLt n p->k+f<=p.size->qt lt p k ->
  (∀p' s',P s'->p'.Perm p->qt lt p' (k+f)->Q p' s')->(kas_bin f p k).kasWp cmp Q s
 | 0,p,k,s,hs,hp,hz,up,h=>h p s hs (Array.Perm.refl _) up
 | f+1,p,k,s,hs,hp,hz,up,h=>by
  unfold kas_bin;rw[KasT.kasWp_bind];refine tJ W v hp up k 0 k s hs (XT _) (XD _) (by lia) (λi a=>by lia) (λi a b=>by lia) λl s' g r w y=>?_;have o:(bubble p k (k - l)).Perm p:=bubble_perm _ _ _;refine Lw W v q f _ (k+1) s' g (hp.perm q o) (by rw[(bubble_size _ _ _)];lia) (λi j m _=>?_) λp' x a b c=>h p' x a (b.trans o) (by lia);rw[pM (by lia) r,pM (by lia) r];by_cases e:i<l
  ·rw[Yb7 e];by_cases t:j<l
   ·rw[Yb7 t];exact up i j m (by lia)
   ·rw[Yb8 t];by_cases d:j=l
    ·rw[Yb7 d];exact w i e
    ·rw[Yb8 d,Yb7 (by lia)];exact up i (j - 1) (by lia) (by lia)
  ·rw[Yb8 e,Yb8 (show¬ j<l by lia)];by_cases u:i=l
   ·rw[Yb7 u];by_cases d:j=l
    ·rw[Yb7 d];exact W.irrefl _ (hp _)
    ·rw[Yb8 d,Yb7 (by lia)];exact W.asymm _ _ (hp _) (hp _) (y (j - 1) (by lia) (by lia))
   ·rw[Yb8 u,Yb7 (show i<=k by lia),Yb8 (show¬ j=l by lia),Yb7 (show j<=k by lia)];exact up (i - 1) (j - 1) (by lia) (by lia)
theorem Er (W:qh n lt) (o:∀i j C s,i<n->j<n->P s->(∀s',P s'->C (lt i j) s')->cmp i j C s) (f:0<n) {s:Vzx}{Q:Array Nat->Vzx->Prop} (w:P s)
  (h:∀p s',P s'->p.toList.Perm (Z6 n)->qt lt p n->Q p s'):(kas_sort n).kasWp cmp Q s:=by
 unfold kas_sort;rw[KasT.kasWp_bind];have l:AllLt n (Ya8 (Z6 n)):=λi=>by
  by_cases A:i<n
  ·simp[Array.getD,A]
  ·simp_all
 have B:(Ya8 (Z6 n)).size=n:=by simp
 refine HU W o f w l (by lia) (by lia) λm g s' d e a b k=>?_;have u:g.size=n:=by rwa [e.size_eq]
 have c:∀{q:Array Nat},q.Perm (Ya8 (Z6 n))->q.toList.Perm (Z6 n):=λr=>by simpa using ZG.mp r
 split
 ·rw[show max m 1=m by lia];exact Lw W o f _ g m s' d (l.perm f e) (by lia) k λv t x y z=>h v t x (c (y.trans e)) (by simp_all)
 ·have:m=n:=by lia
  subst this;exact h g s' d (c e) k
end
inductive Sh where
 | int | str | list (e:Sh) | lH | bE (a r:Sh)
def Sh.has:Sh->Yaz->Prop
 | .int,d=>∃i,d = .int i
 | .str,d=>∃x,d = .str x
 | .list e,d=>∃ds,d = .list ds/\∀x∈ds,Sh.has e x
 | .lH,d=>d = .tuple []
 | .bE a r,d=>∃x ds,d = .tuple (x::ds)/\Sh.has a x/\Sh.has r (.tuple ds)
structure tM (S:Yaz->Prop):Prop where
 cmp:∀d e,S d->S e->mF d e=true
 eqv:∀d e,S d->S e->(Z7 d e=true↔d=e)
 irr:∀d,S d->ltv d d=false
 tot:∀d e,S d->S e->ltv d e=false->ltv e d=false->d=e
 trans:∀d e f,S d->S e->S f->ltv d e=true->ltv e f=true->ltv d f=true
theorem tM.asymm (o:tM S) {d e:Yaz} (a:S d) (b:S e) (h:ltv d e=true):ltv e d=false:=by
 cases q:ltv e d with
 | false=>rfl
 | true=>
  have:=o.trans d e d a b a h q;rw[o.irr d a]at this;cases this
theorem tM.neg (o:tM S) {a b c:Yaz} (e:S a) (d:S b) (f:S c) (h:ltv a c=true):ltv a b=true\/ltv b c=true:=by
 cases q:ltv a b with
 | true=>exact .inl rfl
 | false=>
  cases q2:ltv b a with
  | true=>exact .inr (o.trans b a c d e f q2 h)
  | false=>
   have:=o.tot a b e d q q2;subst this;exact .inr h
structure QY (S:Yaz->Prop) (L:Qqy->Prop):Prop where
 cmp:∀d e,L d->L e->cU d e=true
 eqv:∀d e,L d->L e->(Yak d e=true↔d=e)
 irr:∀d,L d->aP d d=false
 tot:∀d e,L d->L e->aP d e=false->aP e d=false->d=e
 trans:∀d e f,L d->L e->L f->aP d e=true->aP e f=true->aP d f=true
theorem LV {a b:Yaz} (o:tM S):QY S (λl=>∀x∈l,S x) where
 cmp:=by
  intro d
  induction d with
  | nil=>intro e _ _;rw[cU]
  | cons x q p=>
   intro e i k;cases e with
   | nil=>rw[cU]
   | cons y n=>
    rw[fR]
    split
    ·simp_all
    ·exact o.cmp x y (i x XC) (k y XC)
 eqv:=by
  intro d
  induction d with
  | nil=>
   intro e _ _;cases e with
   | nil=>simp[Yak]
   | cons y n=>simp[Yak]
  | cons x q p=>
   intro e i k;cases e with
   | nil=>simp[Yak]
   | cons y n=>
    rw[Yak,Yd,o.eqv x y (i x XC) (k y XC),p n (λz r=>i z (XF _ r)) λz r=>k z (XF _ r)];simp
 irr:=by
  intro d
  induction d with
  | nil=>intro _;rw[aP]
  | cons x q p=>
   intro i;rw[cK,Yb7 ((o.eqv x x (i x XC) (i x XC)).mpr rfl)]
   simp_all
 tot:=by
  intro d
  induction d with
  | nil=>
   intro e _ _ g c;cases e with
   | nil=>rfl
   | cons y n=>rw[aP]at g;cases g
  | cons x q p=>
   intro e i k g c;cases e with
   | nil=>rw[aP]at c;cases c
   | cons y n=>
    have h:=i x XC;have j:=k y XC;rw[cK]at g c;by_cases m:x=y
    ·subst m;rw[Yb7 ((o.eqv x x h h).mpr rfl)]at g c
     grind
    ·rw[Yb8 (λz=>m ((o.eqv x y h j).mp z))]at g;rw[Yb8 (λz=>m ((o.eqv y x j h).mp z).symm)]at c;exact absurd (o.tot x y h j g c) m
 trans:=by
  intro d
  induction d with
  | nil=>
   intro e f _ _ _ g c;cases f with
   | nil=>cases e <;> (rw[aP]at c;cases c)
   | cons z A=>rw[aP]
  | cons x q p=>
   intro e f i k v g c;cases e with
   | nil=>rw[aP]at g;cases g
   | cons y n=>
    cases f with
    | nil=>rw[aP]at c;cases c
    | cons z A=>
     have h:=i x XC;have j:=k y XC;have s:=v z XC;rw[cK]at g c ⊢;by_cases m:x=y
     ·subst m;rw[Yb7 ((o.eqv x x h h).mpr rfl)]at g
      grind
     ·rw[Yb8 (λw=>m ((o.eqv x y h j).mp w))]at g;by_cases t:y=z
      ·subst t
       rwa [Yb8 (λw=>m ((o.eqv x y h j).mp w))]
      ·rw[Yb8 (λw=>t ((o.eqv y z j s).mp w))]at c;by_cases u:x=z
       ·subst u;have:=o.asymm h j g;rw[this]at c;cases c
       ·rw[Yb8 (λw=>u ((o.eqv x z h s).mp w))];exact o.trans x y z h j s g c
theorem CZ (h1:decide (x.cps.toList<y.cps.toList)=false) (h2:decide (y.cps.toList<x.cps.toList)=false):x=y:=by
 cases x;cases y
 grind
theorem Sh.ok:∀sh:Sh,tM sh.has
 | .int=>by
  refine⟨?_,?_,?_,?_,?_⟩
  ·rintro _ _ ⟨i,rfl⟩ ⟨j,rfl⟩;rw[mF]
  ·rintro _ _ ⟨i,rfl⟩ ⟨j,rfl⟩;simp[Z7]
  ·rintro _ ⟨i,rfl⟩;rw[ltv];simp
  ·rintro _ _ ⟨i,rfl⟩ ⟨j,rfl⟩ c d
   grind [ltv]
  ·rintro _ _ _ ⟨i,rfl⟩ ⟨j,rfl⟩ ⟨k,rfl⟩ c d
   grind [ltv]
 | .str=>by
  refine⟨?_,?_,?_,?_,?_⟩
  ·rintro _ _ ⟨i,rfl⟩ ⟨j,rfl⟩;rw[mF]
  ·rintro _ _ ⟨i,rfl⟩ ⟨j,rfl⟩;simp[Z7]
  ·rintro _ ⟨i,rfl⟩;rw[ltv];exact Yb5 (List.lt_irrefl _)
  ·rintro _ _ ⟨i,rfl⟩ ⟨j,rfl⟩ c d;rw[ltv]at c d;rw[CZ c d]
  ·rintro _ _ _ ⟨i,rfl⟩ ⟨j,rfl⟩ ⟨k,rfl⟩ c d;rw[ltv]at c d ⊢
   grind
 | .list e=>by
  have L:=LV (a:=.none) (b:=.none) (Sh.ok e);refine⟨?_,?_,?_,?_,?_⟩
  ·rintro _ _ ⟨i,rfl,n⟩ ⟨j,rfl,p⟩;rw[mF];exact L.cmp i j n p
  ·rintro _ _ ⟨i,rfl,n⟩ ⟨j,rfl,p⟩;rw[Z7,L.eqv i j n p];simp
  ·rintro _ ⟨i,rfl,n⟩;rw[ltv];exact L.irr i n
  ·rintro _ _ ⟨i,rfl,n⟩ ⟨j,rfl,p⟩ c d;rw[ltv]at c d;rw[L.tot i j n p c d]
  ·rintro _ _ _ ⟨i,rfl,n⟩ ⟨j,rfl,p⟩ ⟨k,rfl,C⟩ c d;rw[ltv]at c d ⊢;exact L.trans i j k n p C c d
 | .lH=>by
  refine⟨?_,?_,?_,?_,?_⟩
  ·rintro _ _ rfl rfl;rw[mF,cU]
  ·rintro _ _ rfl rfl;simp[Z7,Yak]
  ·rintro _ rfl;rw[ltv,aP]
  ·rintro _ _ rfl rfl _ _;rfl
  ·rintro _ _ _ rfl rfl rfl c d;rw[ltv,aP]at c;cases c
 | .bE a r=>by
  have l:=Sh.ok a;have or:=Sh.ok r;refine⟨?_,?_,?_,?_,?_⟩
  ·rintro _ _ ⟨x,q,rfl,f,g⟩ ⟨y,v,rfl,m,h⟩;have:=or.cmp _ _ g h;rw[mF]at this ⊢;rw[fR]
   split
   ·exact this
   ·exact l.cmp x y f m
  ·rintro _ _ ⟨x,q,rfl,f,g⟩ ⟨y,v,rfl,m,h⟩;have:=or.eqv _ _ g h;rw[Z7]at this ⊢;rw[Yak,Yd,l.eqv x y f m,this];simp
  ·rintro _ ⟨x,q,rfl,f,g⟩;have:=or.irr _ g;rw[ltv]at this ⊢
   rwa [cK,Yb7 ((l.eqv x x f f).mpr rfl)]
  ·rintro _ _ ⟨x,q,rfl,f,g⟩ ⟨y,v,rfl,m,h⟩ c d;have s:=or.tot _ _ g h;rw[ltv]at c d s;rw[ltv]at s;rw[cK]at c d;by_cases o:x=y
   ·subst o;rw[Yb7 ((l.eqv x x f f).mpr rfl)]at c d;lia
   ·rw[Yb8 (λw=>o ((l.eqv x y f m).mp w))]at c;rw[Yb8 (λw=>o ((l.eqv y x m f).mp w).symm)]at d;exact absurd (l.tot x y f m c d) o
  ·rintro _ _ _ ⟨x,q,rfl,f,g⟩ ⟨y,v,rfl,m,h⟩ ⟨z,_,rfl,u,t⟩ c d;have s:=or.trans _ _ _ g h t;rw[ltv,ltv,ltv]at s;rw[ltv]at c d ⊢;rw[cK]at c d ⊢;by_cases o:x=y
   ·subst o;rw[Yb7 ((l.eqv x x f f).mpr rfl)]at c;lia
   ·rw[Yb8 (λw=>o ((l.eqv x y f m).mp w))]at c;by_cases A:y=z
    ·subst A
     rwa [Yb8 (λw=>o ((l.eqv x y f m).mp w))]
    ·rw[Yb8 (λw=>A ((l.eqv y z m u).mp w))]at d;by_cases B:x=z
     ·subst B;have:=l.asymm f m c;rw[this]at d;cases d
     ·rw[Yb8 (λw=>B ((l.eqv x z f u).mp w))];exact l.trans x y z f m u c d
theorem lT (o:tM S):∀{l l':Qqy},(∀x∈l,S x)->l.Perm l'->l.Pairwise (λa b=>ltv b a=false)->l'.Pairwise (λa b=>ltv b a=false)->l=l':=by
 intro l l' hS c f g;refine List.Perm.eq_of_pairwise (le:=λa b=>ltv b a=false) ?_ f g c;intro a b d e x y;exact o.tot a b (hS a d) (hS b (c.mem_iff.mpr e)) y x
inductive gw:Sh->Bool->Prop
 | int:gw .int true
 | str:gw .str true
 | lH:gw .lH false
 | bE (a r:Sh):gw (.bE a r) false
section
variable {s:Vzx}
theorem iD (r:aO xs us) (i:Nat):RelV (xs.getD i .non) (us.getD i .none):=by
 rw[Yl,Yl];cases e:xs[i]? with
 | none=>rw[r.none_of e];rfl
 | some x=>
  obtain⟨u,a,_⟩:=r.get e
  rwa [a]
theorem ay.Lm (h:ay K H xs ds) (i:Nat) (hi:i<ds.length):Den K H (xs.getD i .non) (ds.getD i .none):=by
 have e:ds[i]? = some ds[i]:=by simp[hi]
 obtain⟨x,_,_⟩:=h.getD e
 simp_all
theorem Lc {a r:Sh}:∀{ks:Qqt}{us:Qqz}{kds:Qqy},Inv X pins σ H s->aO ks us->ay X.K H ks kds->(∀d∈kds,(Sh.bE a r).has d) ->
  ∃fs:Qqz,KatTups s.heap us fs/\fs.length=us.length/\∀f∈fs,∃d as,a.has d/\Reads s.heap f d as
 | _,_,_,I,.nil,.nil,_=>⟨[],.nil,rfl,λ_ h=>by cases h⟩
 | _,_,_,I,.cons rv rr,.cons g ht,hs=>by
  obtain⟨fs,j,m,_⟩:=Lc I rr ht λd g=>hs d (XF _ g);obtain⟨x,_,e,_,_⟩:=hs _ XC;subst e;cases g with
  | tup p t=>
   cases rv;obtain⟨_,i,⟨o,l,c,n,k⟩,_⟩:=I.tuple p;cases t with
   | cons b _=>
    cases i with
    | @cons v0 u0 vs0 us0 r0 rr0=>
     obtain⟨as,_⟩:=I.reads b r0;refine⟨u0::fs,.cons l c k (by simp) j,by simp[m],λf _=>?_⟩
     grind
theorem Bf {a:Sh}{b:Bool} (k:gw a b):∃T:Vzy,(T == T)=true/\(T != Value.type "tuple")=b/\∀(M:Model) (h:Heap) (f:Vzy) (d:Yaz) (as:Qqx),a.has d->Reads h f d as->Looks M h (typeOf f) T:=by
 cases k with
 | int=>exact⟨.type "int",by decide,by decide,λM h f d as c r=>by obtain⟨i,rfl⟩:=c;cases r;exact .of_pure rfl⟩
 | str=>exact⟨.type "str",by decide,by decide,λM h f d as c r=>by obtain⟨i,rfl⟩:=c;cases r;exact .of_pure rfl⟩
 | lH=>exact⟨.type "tuple",by decide,by decide,λM h f d as c r=>by
   subst c;cases r with
   | tuple e g j l=>rw[<-g];exact(Looks.ld e).andThen .now⟩
 | bE a r=>exact⟨.type "tuple",by decide,by decide,λM h f d as c r=>by
   obtain⟨x,_,rfl,_⟩:=c;cases r with
   | tuple e g j l=>rw[<-g];exact(Looks.ld e).andThen .now⟩
theorem A2 {a r:Sh}{b:Bool} (S:gw a b) {ks:Qqt} (I:Inv X pins σ H s) (D:aO ks us) (J:ay X.K H ks kds) (hs:∀d∈kds,(Sh.bE a r).has d) (Au:∀d∈kds,d.depth<=100)
  (h2:2<=us.length) (hu:A.units+101<cLine) {G:Array Nat->Vzx->Prop}
  (h:∀p:Array Nat,p.toList.Perm (Z6 us.length)->(∀i j,i<=j->j<us.length->ltv (kds.getD (p.getD j 0) .none) (kds.getD (p.getD i 0) .none)=false)->G p s) :
  Yb1 (model X.prog X.w) A (keyKind' us.toArray) (λκ s'=>(kas_sort us.length).kasWp (kas_ask X.prog X.w A κ us) G s') (λ_ _=>False) s:=by
 obtain⟨_,t1,_,_⟩:=Lc I D J hs;obtain⟨T,M,U,_⟩:=Bf S;refine kat_kind t1 (by lia) (λf S=>?_) M ?_
 ·grind
 rw[U];have l1:us.length=kds.length:=by rw[<-D.length];exact J.length
 have o:=Sh.ok (.bE a r);have m:∀i,i<us.length->(Sh.bE a r).has (kds.getD i .none):=λi c=>by
  simp_all
 have L:∀i,i<us.length->(kds.getD i .none).depth<=100:=λi c=>by
  simp_all
 refine Er (n:=us.length) (lt:=λi j=>ltv (kds.getD i .none) (kds.getD j .none)) (P:=λs'=>s' = s) ⟨λi c=>o.irr _ (m i c),λi j k c B hk q=>o.neg (m i c) (m j B) (m k hk) q,λi j c B q=>o.asymm (m i c) (m j B) q⟩
  (λi j C s' c B e q=>?_) (by lia) rfl λp s' e hp up=>by subst e;exact h p hp up
 subst e;show Yb1 (model X.prog X.w) A (keyLt' (tuples' b) (us.getD i .none) (us.getD j .none)) C (λ_ _=>False) s';have v:=J.Lm i (by lia);have z:=J.Lm j (by lia);have O:=iD D i;have N:=iD D j;have g:=m i c;have l:=m j B;have R:=L i c;have F:=q s' rfl;have E:=o.cmp _ _ g l;have t:=v.lay;have u:=z.lay;revert v z g l R F E t u;generalize kds.getD i .none=d;generalize kds.getD j .none=e;intro v z g l R F E t u;obtain⟨x,_,rfl,Y,_⟩:=g;obtain⟨y,_,rfl,Z,_⟩:=l;revert v z O N;generalize ks.getD i .non=vi;generalize ks.getD j .non=vj;generalize us.getD i .none=ui;generalize us.getD j .none=uj;intro O N v z;cases v with
 | tup qi ti=>
  cases z with
  | tup qj tj=>
   cases O;cases N;obtain⟨_,rv,⟨_,ei,_,_,W⟩,_⟩:=I.tuple qi;obtain⟨_,Q,⟨oj,ej,cj,nj,dtj⟩,_⟩:=I.tuple qj;obtain⟨_,ra⟩:=I.readsAll ti rv;obtain⟨_,rb⟩:=I.readsAll tj Q;rw[ltv]at F;rw[mF]at E;rw[ZT]at R;refine BS ei W ej dtj (by simpa using ra) (by simpa using rb) t u E (λd0 e0 h1 h3 hb=>?_) (by lia) F;have e1:x=d0:=by simpa using h1
   have e2:y=e0:=by simpa using h3
   subst e1 e2;cases S with
   | int=>obtain⟨p,rfl⟩:=Y;obtain⟨q,rfl⟩:=Z;exact .inl ⟨p,q,rfl,rfl⟩
   | str=>obtain⟨p,rfl⟩:=Y;obtain⟨q,rfl⟩:=Z;exact .inr ⟨p,q,rfl,rfl⟩
   | lH=>cases hb
   | bE _ _=>cases hb
theorem Inv.adopt {h':Heap}{t':Nat}{wr:Qqx}{a:Yau}{o:HO} (I:Inv X pins σ H s) (f:∀b∈wr,cN X pins H b) (t:a∈wr) (k:∀b o,b∉wr->s.heap.get? b=some o->h'.get? b=some o)
  (l:bC X.prog X.w (upd H a o) h' a o):Inv X pins σ (upd H a o) { s with heap:=h',toks:=t' }:=by
 have i:∀b u,H b=some u->b∉wr:=λb u e z=>by rw[(f b z).1]at e;cases e
 have d:=(f a t).1;refine I.step (g':=s.gens) (d':=s.drawn) (ch:=wr) (λb h=>⟨(f b h).2.2.2.1,(f b h).2.1,(f b h).2.2.2.2.1,(f b h).2.2.2.2.2⟩) (λb o _ _ g e _=>k b o g e) (λb o _ _ g e _=>⟨o.slots,k b o g e⟩)
  (λb j g e n=>by grind [ao])
  (λb o g e=>⟨o,k b o g e⟩) (λb x e=>by rwa [ao (aw e d)]) (λb j u e=>by rwa [ao (aw e d)]) (λb _ e=>⟨#[],by rw[ao (aw e d),e];simp⟩) (λm A=>?_) (λb u e=>?_) I.bare
 ·obtain⟨o,p,B,y,r⟩:=A;exact⟨o,p,B,k _ o (λz=>(f _ z).2.1 rfl) y,r⟩
 ·by_cases h:b=a
  ·grind [aa]
  ·rw[ao h]at e;refine(I.hok b u e).uI (λc v g q=>k c v ?_ q) (λc q=>by rwa [ao (aw q d)]) λc x q=>by rwa [ao (aw q d)]
   grind
def picked (xs:Qqt) (p:List Nat):Qqt:=p.map λi=>xs.getD i .non
theorem kD {xs:Qqt}{us:Qqz} (r:aO xs us):∀p:List Nat,aO (picked xs p) (p.map λi=>us.getD i .none)
 | []=>.nil
 | i::p=>.cons (iD r i) (kD r p)
theorem lZ (xs:Qqt) (p:List Nat):(picked xs p).length=p.length:=by simp[picked]
theorem jf (us:List α) (d:α):(Z6 us.length).map (λi=>us.getD i d)=us:=by
 apply ZN
 ·simp
 ·intro i h1 h2;simp[h2]
def eW (kds:Qqy) (p:List Nat):Prop:=(p.map λi=>kds.getD i .none).Pairwise λa b=>ltv b a=false
theorem Am {p:Array Nat} (c:p.toList.length=n) (h:∀i j,i<=j->j<n->ltv (kds.getD (p.getD j 0) .none) (kds.getD (p.getD i 0) .none)=false):eW kds p.toList:=by
 unfold eW
 (rw[ZH])
 intro i j _ b _;have a:j<p.size:=by simpa using b
 have:=h i j (by lia) (by simp at c;lia);have e:p.getD i 0=p[i]:=by simp_all
 have d:p.getD j 0=p[j]:=by simp[Array.getD,a]
 simp_all
theorem pU (hn:n<2):eW kds (Z6 n):=by
 unfold eW
 match n,hn with
 | 0,_=>simp
 | 1,_=>simp
theorem o9 {h:Nat} (I:Inv X pins σ H s) (f:s.heap.get? D=some (seqObj "list" vs.toArray h)) (i:cN X pins H D) :
  ∃e1,(s.heap.update D (Z9 λ_=>(#[]:Qqw))).get? D=some (seqObj "list" #[] e1) /\
   ∀h3,h3=((s.heap.update D (Z9 λ_=>(#[]:Qqw))).push (seqObj "tuple" vs.toArray 0)).push (seqObj "list" #[] 0)->h3.get? D=some (seqObj "list" #[] e1)/\Inv X pins σ H { s with heap:=h3 }:=by
 have a:=get?_update_seq f λ_=>(#[]:Qqw);have rest:=(ZW s.heap D (Z9 λ_=>(#[]:Qqw))).2;generalize s.heap.update D (Z9 λ_=>(#[]:Qqw))=h1 at a rest;refine⟨_,a,λh3 g=>?_⟩;have b:∀c o,h1.get? c=some o->h3.get? c=some o:=λc o e=>g ▸ Vzu _ (Vzu _ e);refine⟨b D _ a,I.dJ (t':=s.toks) (wr:=[D]) (λc d=>?_) λc o d e=>b c o ((rest c λz=>d (z ▸ XR.mpr rfl)).trans e)⟩
 simp_all
theorem zC {O:Nat}{P:PySem.Fin->Vzx->Prop}{E:Vzy->Vzx->Prop} (I:Inv X pins σ H s) (F:s.heap.get? D=some (seqObj "list" vs.toArray O)) (W:cN X pins H D)
  (L:aO xs vs) (u:∀(s':Vzx) (G:Array Nat->Vzx->Prop),Inv X pins σ H s'->2<=vs.length->(∀p:Array Nat,p.toList.Perm (Z6 vs.length)->(∀i j,i<=j->j<vs.length->ltv (ds.getD (p.getD j 0) .none) (ds.getD (p.getD i 0) .none)=false)->G p s')->Yb1 (model X.prog X.w) A (keyKind' vs.toArray) (λκ s''=>(kas_sort vs.length).kasWp (kas_ask X.prog X.w A κ vs) G s'') (λ_ _=>False) s') (B:vs.length<64)
  (h:∀(p:List Nat) (h':Heap),p.Perm (Z6 xs.length)->eW ds p->Inv X pins σ (upd H D (.lst (picked xs p))) { s with heap:=h' }->P (.done (.ret .none)) { s with heap:=h' }) :
  Yb1 (model X.prog X.w) A (Builtin.«list.sort» ⟨[.ref D],[]⟩) P E s:=by
 have k:=L.length;obtain⟨_,t,q⟩:=o9 I F W;rw[list_sort_plain];refine Vzw (listItems_at F rfl (Vzw (listUpdate_at F rfl (Vzw (seqEpoch_at t rfl (Vzw (wpAny_newTuple (Vzw (wpAny_newList (Vzs ?main) (XT _))) ?short)))) ?few (XT _))))
 case short=>show vs.length<=_;rw[sizeLine_eq];lia
 case few=>rw[XO,sizeLine_eq];lia
 case main=>
 generalize hh3:((s.heap.update D (Z9 λ_=>(#[]:Qqw))).push (seqObj "tuple" vs.toArray 0)).push (seqObj "list" #[] 0)=h3;obtain⟨f,J⟩:=q h3 hh3.symm;have m:∀(p:List Nat) (b:Qqw),p.Perm (Z6 xs.length)->eW ds p->b=Ya8 (p.map λi=>vs.getD i Value.none) ->
   P (.done (.ret .none)) { s with heap:=h3.update D (Z9 λ_=>b) }:=λp b l v R=>by
  obtain⟨n,C⟩:∃n,(h3.update D (Z9 λ_=>b)).get? D=some (seqObj "list" b n):=⟨_,get?_update_seq f λ_=>b⟩;have Z:p.length=xs.length:=by rw[l.length_eq];simp
  refine h p _ l v (J.adopt (t':=s.toks) (wr:=[D]) (a:=D) (λc z=>by rwa [show c=D by simpa using z]) (by simp) (λc o z e=>((ZW h3 D (Z9 λ_=>b)).2 c (by simpa using z)).trans e) ?_);refine⟨by rw[lZ,Z,sizeLine_eq];lia,p.map λi=>vs.getD i Value.none,n,kD L p,?_⟩;rw[C,R]
 by_cases d:vs.toArray.size<2
 ·rw[Yb7 d,Yb7 d];refine Vzw (Vzv ?_);refine Vzw ?_;rw[StateT.run_pure];refine Vzv ?_;refine Vzw (seqEpoch_at f rfl ?_);have M:(arrOf (SortSt.mk' general' (vs.toArray.zip vs.toArray) #[] 7 none)).map (·.2)=vs.toArray:=by
   apply ZO.mp;simp[List.map_snd_zip]
  rw[M];refine Vzw (listUpdate_at f rfl ?_ (XT _) (by lia))
  (simp only[bne_self_eq_false,Yh,if_false])
  refine Vzv (m (Z6 xs.length) _ (Yas _) (pU (by rw[XO]at d;lia)) ?_);rw[k,jf]
 ·rw[Yb8 d,Yb8 d];have K:2<=vs.length:=by rw[XO]at d;lia
  refine Vzw (Vzt (u _ (λp s'=>s' = { s with heap:=h3 }/\p.toList.Perm (Z6 vs.length)/\eW ds p.toList) J K λp l U=>⟨rfl,l,Am (by rw[l.length_eq];simp) U⟩) (λκ _ hk=>?_) λ_ _ x=>x.elim);refine Vzw (Vzt (kat_run (Q:=λg s'=>∃p:Array Nat,arrOf g = p.map (kas_item (vs.toArray.zip vs.toArray))/\failedOf g = none/\s' = { s with heap:=h3 }/\p.toList.Perm (Z6 vs.length)/\eW ds p.toList)
   rfl K B (λS g s' _ T N Y=>⟨S,T,N,Y⟩) hk) ?_ λ_ _ e=>e)
  rintro⟨⟨⟩,g⟩ s' ⟨p,r,y,rfl,l,v⟩;dsimp only;rw[(kat_snds rfl r)];refine Vzw (seqEpoch_at f rfl ?_);refine Vzw (listUpdate_at f rfl ?_ (XT _) (by rw[XO,XA,l.length_eq,YV,sizeLine_eq];lia));rw[y]
  (simp only[bne_self_eq_false,Yh,if_false])
  exact Vzv (m p.toList _ (by rwa [k]) v rfl)
def i0 (h:Heap) (vs:Qqz):Heap:=(h.push (seqObj "list" #[] 0)).update h.objs.size (Z9 (· ++ vs.toArray))
theorem j8 (h:Heap) (vs:Qqz):(i0 h vs).objs.size=h.objs.size+1:=(Heap.size_update ..).trans (size_push' _ _)
theorem wG (h:Heap) (vs:Qqz):((i0 h vs).push (seqObj "list" vs.toArray 0)).get? (h.objs.size+1)=some (seqObj "list" vs.toArray 0):=by
 have q:((i0 h vs).push (seqObj "list" vs.toArray 0)).get? (i0 h vs).objs.size=some (seqObj "list" vs.toArray 0):=Z0 _ rfl
 rwa [j8]at q
theorem pW (h:Heap) (vs:Qqz):∀b o,h.get? b=some o->((i0 h vs).push (seqObj "list" vs.toArray 0)).get? b=some o:=λb o q=>
 Vzu _ (((ZW (h.push (seqObj "list" #[] 0)) h.objs.size (Z9 (· ++ vs.toArray))).2 b (X3 (Z1 q))).trans (Vzu _ q))
def pL (sp:Sp):Qqt->Qqt->Hp->(Qqt->Hp->Prop)->Prop
 | [],ks,H,Q=>Q ks H
 | x::r,ks,H,Q=>sp [x] H (λk H'=>pL sp r (ks++[k]) H' Q) E0
theorem CA {k:Nat}{kS:Yau}{oD:Obj}{xs:Qqt}{vs:Qqz}{L:Qqt->Hp->Prop}{e0:Nat}{h:Vzy->PUnit->Sem (ForInStep PUnit)}{E:Vzy->Vzx->Prop}{R:PUnit->Vzx->Prop}
  (F:d6 X.prog X.w X.K X.mg X.base CX0 k f fd ps sp) (hr:bB (k+2) X.A) (hb:Binds X.K fd ps []) (P:D≠kS) (hD:∀v,oD.data ≠ .cell v)
  (iG:∀x (us:Qqz) e (s:Vzx) (C:Vzy->Vzx->Prop),us.length<64->s.heap.get? kS=some (seqObj "list" us.toArray e)->Yb1 (model X.prog X.w) X.A.in1.in1 (call (.ref f) [x]) (λk s'=>∃(us':Qqz) (e':Nat),us'.length<64/\s'.heap.get? kS=some (seqObj "list" us'.toArray e')/\C k s') (λ_ _=>False) s ->
   Yb1 (model X.prog X.w) X.A.in1.in1 (h x ⟨⟩) (λr s'=>r = .yield ⟨⟩/\∃k s1,C k s1/\s' = { s1 with heap:=s1.heap.update kS (Z9 (·.push k)) }) E s)
  (hv:aO xs vs) (a0:vs.length<64) (I:Inv X pins σ H s) (fD:cN X pins H D) (fK:cN X pins H kS) (gD:s.heap.get? D=some oD) (gK:s.heap.get? kS=some (seqObj "list" ([]:Qqz).toArray e0)) (hk:pL sp xs [] H L)
  (n:∀s' H' ks us e,Inv X pins σ H' s'->cN X pins H' D->cN X pins H' kS->s'.heap.get? D=some oD->s'.heap.get? kS=some (seqObj "list" us.toArray e)->aO ks us->ks.length=xs.length->L ks H'->R ⟨⟩ s') :
  Yb1 (model X.prog X.w) X.A.in1.in1 (forIn vs PUnit.unit h) R E s:=by
 have Y:=hv.length;refine ksk_fold (λj s'=>∃H' ks us e,Inv X pins σ H' s'/\cN X pins H' D/\cN X pins H' kS/\s'.heap.get? D=some oD/\s'.heap.get? kS=some (seqObj "list" us.toArray e)/\aO ks us/\ks.length=j/\pL sp (xs.drop j) ks H' L) vs 0 s
  ⟨H,[],[],e0,I,fD,fK,gD,gK,.nil,rfl,hk⟩ (λj x s' hx ⟨H',ks,us,e,t,b,a,l,g,G,J,i⟩=>?_) λs' ⟨H',ks,us,e,t,b,a,l,g,G,J,i⟩=>?_
 ·rw[Nat.zero_add]at i J
  (have hj:=(YG.mp hx).1)
  have y:j<xs.length:=by lia
  have ex:xs[j]? = some xs[j]:=by simp[y]
  obtain⟨u,hu,ru⟩:=hv.get ex;rw[hx]at hu;cases hu;rw[Yj y]at i;have hl:=G.length;have Ip:Inv X (pins++[(D,oD),(kS,seqObj "list" us.toArray e)]) σ H' s':=t.nZ λp hp=>by
   (rcases XU.mp hp with z | z)
   ·exact t.pin p (Yb _ z)
   ·rcases XQ.mp z with z | z
    ·subst z;exact⟨l,b.1,b.2.1,b.2.2.1,hD⟩
    ·have z':p=(kS,seqObj "list" us.toArray e):=by simpa using z
     subst z';exact⟨g,a.1,a.2.1,a.2.2.1,λv q=>by cases q⟩
  refine Vzt (iG x us e s' (λd s1=>∃v H1,Inv X (pins++[(D,oD),(kS,seqObj "list" us.toArray e)]) σ H1 s1/\RelV v d/\pL sp (xs.drop (j+1)) (ks++[v]) H1 L) (by lia) g (wpAny_call (codeAny_mono (F.run X.A.in1.in1 X.stack s' H' ⟨[x],[]⟩ [x] [xs[j]] _ E0 (hr.in1.in1) (Ip.CI.in1.in1) (by have:=hb s' [x] t.kIn (by simpa using(F.len _ _ _ _ i));simpa using this) (.cons ru .nil) i) λr s1 B=>?_))) (λr _ T=>?_) λ_ _ z=>z
  ·cases r with
   | error Z=>exact B.elim
   | ok fl=>
    cases fl with
    | ret d=>
     obtain⟨v,H1,m,S,W⟩:=Ip.after B;refine⟨us,e,by lia,(m.pin (kS,seqObj "list" us.toArray e) (by simp)).1,v,H1,m,S,W⟩
    | next=>exact False.elim B
    | brk=>exact False.elim B
    | cont=>exact False.elim B
  ·obtain⟨Z,d,s1,⟨v,H1,m,S,W⟩,es⟩:=T;refine⟨Z,?_⟩;subst es;have pD:=m.pin (D,oD) (by simp);have U:=m.pin (kS,seqObj "list" us.toArray e) (by simp);have N:cN X pins H1 kS:=⟨U.2.1,a.2⟩;have sb:=ZW s1.heap kS (Z9 (·.push d))
   have ea:us.toArray.push d=(us++[d]).toArray:=by simp
   obtain⟨M,Q⟩:∃M,(s1.heap.update kS (Z9 (·.push d))).get? kS=some (seqObj "list" (us++[d]).toArray M):=⟨_,by rw[<-ea];exact get?_update_seq U.1 (·.push d)⟩
   refine⟨H1,ks++[v],us++[d],M,(m.gC.dJ (t':=s1.toks) (wr:=[kS]) (λc O=>by rwa [show c=kS by simpa using O]) λc o O e=>(sb.2 c (by simpa using O)).trans e),⟨pD.2.1,b.2⟩,N,(sb.2 D P).trans pD.1,Q,G.append (.cons S .nil),by simp[J],?_⟩
   rwa [Nat.zero_add]
 ·rw[Nat.zero_add]at i J;rw[Y8 (by lia)]at i;exact n s' H' ks us e t b a l g G (by lia) i
theorem rA {a r:Sh}{b:Bool}{k:Nat}{n0:Nat} (hf:gw a b) {P:PySem.Fin->Vzx->Prop}
  (F:d6 X.prog X.w X.K X.mg X.base CX0 k f fd ps sp) (hr:bB (k+2) X.A) (hb:Binds X.K fd ps []) (I:Inv X pins σ H s) (S:s.heap.get? D=some (seqObj "list" vs.toArray n0)) (fD:cN X pins H D)
  (U:aO xs vs) (y:vs.length<64)
  {Qk:Qqt->Hp->Prop} (h:pL sp xs [] H Qk) (hQ:∀ks H1,Qk ks H1->∃kds,ay X.K H1 ks kds/\(∀d∈kds,(Sh.bE a r).has d)/\(∀d∈kds,d.depth<=100) /\
   ∀(p:List Nat) (s':Vzx),p.Perm (Z6 xs.length)->eW kds p->H1 D=none->Inv X pins σ (upd H1 D (.lst (picked xs p))) s'->P (.done (.ret .none)) s') :
  Yb1 (model X.prog X.w) X.A.in1.in1 (ksk_tree D (.ref f) false) P E s:=by
 have a8:=U.length;obtain⟨e1,T,a5⟩:=o9 I S fD;refine Vzw (listItems_at S rfl (Vzw (listUpdate_at S rfl (Vzw (seqEpoch_at T rfl (Vzw (wpAny_newTuple (Vzw (wpAny_newList (Vzs ?main) (XT _))) ?short)))) ?few (XT _))))
 case short=>show vs.length<=_;rw[sizeLine_eq];lia
 case few=>rw[XO,sizeLine_eq];lia
 case main=>
 have J:((s.heap.update D (Z9 λ_=>(#[]:Qqw))).push (seqObj "tuple" vs.toArray 0)).objs.size=s.heap.objs.size+1:=by simp
 have gK:(((s.heap.update D (Z9 λ_=>(#[]:Qqw))).push (seqObj "tuple" vs.toArray 0)).push (seqObj "list" #[] 0)).get? (s.heap.objs.size+1)=some (seqObj "list" ([]:Qqz).toArray 0):=by
  (rw[<-J];exact Z0 _ rfl)
 rw[J];generalize hh3:((s.heap.update D (Z9 λ_=>(#[]:Qqw))).push (seqObj "tuple" vs.toArray 0)).push (seqObj "list" #[] 0)=h3 at gK;obtain⟨Y,I3⟩:=a5 h3 hh3.symm;have u:D≠s.heap.objs.size+1:=X3 (Nat.lt_succ_of_lt (Z1 S));have fK:cN X pins H (s.heap.objs.size+1):=I.nG (YL _) (I.hok.fresh (YL _));generalize s.heap.objs.size+1=kS at *;refine Vzw (wpAny_rule ?_)
 first | rw[List.forIn_toArray] | (rw[<-Y9];simp only[List.toList_toArray])
 refine Vzw (CA (R:=λ_ s'=>Yb1 (model X.prog X.w) X.A.in1.in1 (Builtin.List.listItems (.ref kS) >>= λM=>ksk_end D false vs.toArray e1 (.ref kS) M) P E s') F hr hb u (λv z=>by cases z) (λx us e s' C _ _ hx=>?_) U y I3 fD fK Y gK h λs' _ ks us e I' Z _ W n rk _ qk=>?_)
 ·refine Vzw (wpAny_attempt (Vzt hx (λkv a7 O=>?_) λ_ _ hF=>hF.elim));obtain⟨_,_,_,a0,c⟩:=O
  try dsimp only
  refine Vzw (listUpdate_at a0 rfl ?_ (by rw[XO,sizeLine_eq];lia) (XG (ZQ (Array.size_push ..)) (by rw[XO,sizeLine_eq];lia)));exact Vzv ⟨rfl,kv,a7,c,rfl⟩
 ·obtain⟨kds,hd,hs,Au,q⟩:=hQ _ _ qk;refine Vzw (listItems_at n rfl ?_);have t:us.length=vs.length:=by rw[<-rk.length];lia
  have Vh:∀(N:SortSt) (p:List Nat),(arrOf N).map (·.2)=Ya8 (p.map λi=>vs.getD i Value.none)->failedOf N=none->p.Perm (Z6 xs.length)->eW kds p->Yb1 (model X.prog X.w) X.A.in1.in1 (ksk_tail D false e1 (.ref kS) N) P E s':=λN p lr L m iy=>by
   have sk:=ZW s'.heap kS (Z9 λ_=>(#[]:Qqw));have l:=(sk.2 D u).trans W;have pl:p.length=xs.length:=by rw[m.length_eq];simp
   unfold ksk_tail
   try dsimp only
   rw[lr];refine Vzw (listUpdate_at n rfl ?_ (by rw[XO,sizeLine_eq];lia) (XT _));refine Vzw (wpAny_letGo ?_);refine Vzw (seqEpoch_at l rfl ?_);refine Vzw (listUpdate_at l rfl ?_ (XT _) (by simp only[Yh,if_false];rw[XO,XA,pl,sizeLine_eq];lia));rw[L]
   (simp only[bne_self_eq_false,Yh,if_false])
   refine Vzv ?_;obtain⟨c2,a6⟩:∃c2,((s'.heap.update kS (Z9 λ_=>(#[]:Qqw))).update D (Z9 λ_=>Ya8 (p.map λi=>vs.getD i Value.none))).get? D=some (seqObj "list" (Ya8 (p.map λi=>vs.getD i Value.none)) c2):=⟨_,get?_update_seq l λ_=>Ya8 (p.map λi=>vs.getD i Value.none)⟩;refine q p _ m iy Z.1 (I'.adopt (t':=s'.toks) (wr:=[D,kS]) (a:=D) (λc hc=>?_) (by simp) (λc o hc e=>?_) ⟨by rw[lZ,pl,sizeLine_eq];lia,p.map λi=>vs.getD i Value.none,c2,kD U p,a6⟩)
   ·grind
   ·exact((ZW (s'.heap.update kS (Z9 λ_=>(#[]:Qqw))) D (Z9 λ_=>Ya8 (p.map λi=>vs.getD i Value.none))).2 c (λz=>hc (by simp[z]))).trans ((sk.2 c (λz=>hc (by simp[z]))).trans e)
  unfold ksk_end
  try dsimp only
  (simp only[Yh,if_false])
  by_cases g:vs.toArray.size<2
  ·rw[Yb7 g,Yb7 g];refine Vzw (Vzv ?_);refine Vzw ?_;rw[StateT.run_pure];refine Vzv ?_;refine Vh _ (Z6 xs.length) ?_ rfl (Yas _) (pU (by rw[XO]at g;lia))
   grind
  ·rw[Yb8 g,Yb8 g];have h2:2<=us.length:=by rw[XO]at g;lia
   refine Vzw (Vzt (A2 (A:=X.A.in1.in1) (G:=λp B=>B=s'/\p.toList.Perm (Z6 us.length)/\eW kds p.toList) hf I' rk hd hs Au h2 (by show X.A.units+1+1+101<cLine;have:=hr.un;lia) λp m up=>⟨rfl,m,Am (by rw[m.length_eq];simp) up⟩) (λ_ _ O=>?_) λ_ _ x=>x.elim);rw[t]at O;refine Vzw (Vzt (kat_run (ks:=us) (vs:=vs) (Q:=λj B=>∃p:Array Nat,arrOf j = p.map (kas_item (us.toArray.zip vs.toArray))/\failedOf j = none/\B=s'/\p.toList.Perm (Z6 vs.length)/\eW kds p.toList)
    t (by lia) y (λp' j B _ a2 a3 a4=>⟨p',a2,a3,a4⟩) O) ?_ λ_ _ e=>e)
   rintro⟨⟨⟩,j⟩ B ⟨p,_,L,rfl,m,iy⟩
   grind [kat_snds]
def Ji (K:Vzz) (a r:Sh) (sp:Sp):V->Hp->VK->Prop:=λx H Q=>∃l xs,x = .ref l/\SqL K H l xs/\xs.length<64/\pL sp xs [] H λks H1=>
 ∃kds,ay K H1 ks kds/\(∀d∈kds,(Sh.bE a r).has d)/\(∀d∈kds,d.depth<=100)/\∀(D:Yau) (p:List Nat),H1 D=none->p.Perm (Z6 xs.length)->eW kds p->Q (.ref D) (upd H1 D (.lst (picked xs p)))
theorem Cv {a r:Sh}{b:Bool}{k:Nat}{x:V}{Q:VK} (n:gw a b) (F:d6 X.prog X.w X.K X.mg X.base CX0 k f fd ps sp) (C:bB (k+2) X.A) (D:Binds X.K fd ps []) (I:Inv X pins σ H s) (v:RelV x u) (h:Ji X.K a r sp x H Q) :
  Yb1 (model X.prog X.w) X.A (call (.builtin "sorted") [u] [(WU "key",.ref f)]) (EP X pins σ Q) X.xe s:=by
 obtain⟨l,_,rfl,G,_,q⟩:=h;cases v;obtain⟨d,r,L,_⟩:=I.list G;have i:=r.length;refine call_function_entry_kw kind_sorted plain_sorted entry_sorted (ksk_s1 _ _) ?_
 (refine Vzw (m:=checkCount "sorted" 1 1 _) (Vzv ?_))
 refine Vzw (collect_list L.isList ?_ (by lia))
 (refine Vzw (wpAny_newList ?_ (by lia)))
 have e:=wG s.heap d;have c:=pW s.heap d;show Yb1 _ _ (_ >>= λ_=>_) _ _ { s with heap:=(i0 s.heap d).push (seqObj "list" d.toArray 0) };rw[show((s.heap.push (seqObj "list" #[] 0)).update s.heap.objs.size (Z9 (· ++ d.toArray))).objs.size=s.heap.objs.size+1 from(j8 s.heap d)]
 generalize(i0 s.heap d).push (seqObj "list" d.toArray 0)=h2 at e c ⊢;refine Vzw (Vzs (wpAny_call_entry_kw slot_list_sort ⟨_,e,rfl⟩ entry_list_sort ?body (ksk_l1 _ _)))
 case body=>
  rw[ksk_t1];refine rA (s:={ s with heap:=h2 }) n F C D (I.kept (t':=s.toks) c) e (I.nG (YL _) (I.hok.fresh (YL _))) r (by lia) q λ_ _ ⟨g,z,B,E,y⟩=>⟨g,z,B,E,λp _ J o j t=>?_⟩;refine⟨_,rfl,Vzv ⟨_,rfl,?_⟩⟩;exact⟨.ref _,_,t,rfl,y _ p j J o⟩
def O7 (K:Vzz) (a r:Sh) (sp:Sp) (ta:TA):TE:=λσ H Q=>ta σ H λvs H1=>∃x,vs=[x]/\Ji K a r sp x H1 Q
theorem Lh {a r:Sh}{b:Bool}{k:Nat}{e:Expr}{ta:TA}{p j pos d:Pos} (z:gw a b) (F:d6 X.prog X.w X.K X.mg X.base CX0 k f fd ps sp) (E:bB (k+2) X.A) (L:Binds X.K fd ps [])
  (t:Gl X "sorted") (G:X.mg "sorted" = none) (g:Gl X y) (i:X.mg y=some (.ref f)) (B:PA X [e] ta) (m:(y == ("__debug__" : Str))=false:=by decide)
  (v:backTo pos (Yb2 [e] X.env)=(false,eval e X.env)::backTo pos (Yb2 [] X.env):=by rfl) (o:(backTo pos (Yb2 [e] X.env)).any (·.1)=false:=by rfl)
  (J:(backToKw pos (keywordEach [⟨some "key",.Name y j,d⟩] X.env)).all (·.1.isSome)=true:=by rfl) (l:(backToKw pos (keywordEach [⟨some "key",.Name y j,d⟩] X.env)).any (·.1.isNone)=false:=by rfl) :
  PE X (.Call (.Name "sorted" p) [e] [⟨some "key",.Name y j,d⟩] pos) (O7 X.K a r sp ta):=by
 intro c s D H Q I h;refine wpAny_Call_Name_kw (eN I t G boot_sorted ?_);refine callWith_kw (thn (B pos c s D H _ I h) λ_ _ ⟨_,_,n,M,N⟩=>?_) v o J l;obtain⟨x,rfl,q⟩:=N;obtain⟨u,rfl,C⟩:=M.one;refine kws_cons (jq n g i (kws_nil ?_) m);exact Cv z F E L n C q
end
section
open PySem.SeqAt
open PySem.AutoSeq1 (wpAny_loadPart')
open PySem.MeetsSeq PySem.MeetsSeq2 PySem.MeetsSeq3
theorem index_loop {prog:Yax}{w:Yay}{E:Vzy->Vzx->Prop}{s:Vzx}{x:Vzy}{e:Nat->Bool} (t:j<items.size) (l:e j=true) (o:∀m,m<j->e m=false) (g:∀i (h:i<items.size),EqAt A s items[i] x (e i))
  {a:Nat->Option PySem.Fin×PUnit->Sem (ForInStep (Option PySem.Fin×PUnit))} (n:∀i u,a i u=(match items[i]? with
   | some y=>do
    let c <-eqBool y x
    if c=true then do
     let r <-retInt i
     pure (ForInStep.done (some r,⟨⟩))
    else pure (ForInStep.yield (none,⟨⟩))
   | _=>pure (ForInStep.yield (none,⟨⟩)))) {Q:Option PySem.Fin×PUnit->Vzx->Prop} (q:Q (some (.done (.ret (.int j s.toks))),⟨⟩) { s with toks:=s.toks+1 }) :
  ∀(k i:Nat) (u:Option PySem.Fin×PUnit),i<=j->k=items.size - i->Yb1 (model prog w) A (forIn (List.range' i k 1) u a) Q E s:=by
 intro k
 induction k with
 | zero=>intro i u f p;lia
 | succ k _=>
  intro i u f p;rw[List.range'_succ,Zm,n]
  (have b:i<items.size:=by lia)
  have d:items[i]? = some items[i]:=by simp[b]
  rw[d];refine Vzw (Vzw (g i b prog w _ _ ?_));cases hei:e i with
  | true=>
   have:i=j:=by
    grind
   subst this;rw[Yb7 rfl];refine Vzw ?_
   (refine Vzw (wpAny_mkInt ?_))
   (exact Vzv (Vzv (Vzv q)))
  | false=>
   have:i≠j:=λz=>by lia
   rw[Yb8 XN]
   grind [wpAny_pure]
end
def Le (K:Vzz):V->Qqt->Hp->VK->Prop:=λx vs H Q=>∃p xs y j,x = .ref p/\vs=[y]/\SqT K H p xs/\gu y=true/\xs.all gu=true/\j<xs.length/\eqV (xs.getD j .non) y=true/\(∀m,m<j->eqV (xs.getD m .non) y=false)/\Q (.int j) H
theorem K4:MtR X "tuple.index" (Le X.K):=by
 intro _ s _ H x _ v _ Q I z B h;obtain⟨p,a,y,j,rfl,rfl,D,_,_,_,o,t,q⟩:=h;cases z;obtain⟨u,rfl,_⟩:=B.one;obtain⟨its,r,⟨⟨_,_,_,_⟩,l,c,n,d⟩,_⟩:=I.tuple D;subst c d;have m:=r.length;have k:∀i (b:i<its.toArray.size) (A:Yaw),SeqAt.EqAt A s its.toArray[i] u (eqV (a.getD i .non) y):=λi b A=>by
  have f:i<its.length:=by simpa using b
  have C:a[i]? = some a[i]:=by simp[m,f]
  obtain⟨w,_,_⟩:=r.get C
  grind [Uf,Yl,HK,YH]
 refine wpAny_call_entry F.slot_tuple_index ⟨_,l,rfl⟩ F.entry_tuple_index ?_ (F.args_tuple_index_2 _ _);show Yb1 _ _ (Builtin.Tuple.tupleItemsOf (.ref p) >>= _) _ _ s;refine Vzw ?_
 (unfold Builtin.Tuple.tupleItemsOf)
 refine Vzw (wpAny_seqItems l rfl (Vzv ?_));show Yb1 _ _ (forIn [0:min its.toArray.size its.toArray.size] ((none:Option PySem.Fin),PUnit.unit) _ >>= _) _ _ s;rw[Std.Legacy.Range.forIn_eq_forIn_range'];have g:([0:min its.toArray.size its.toArray.size]:Std.Legacy.Range).size=its.toArray.size:=by simp
 rw[g];refine Vzw (index_loop (items:=its.toArray) (x:=u) (e:=λi=>eqV (a.getD i .non) y) (j:=j) (by simp_all) o t (λi b=>k i b _) (λi u=>?_) ?_ _ 0 _ (XT _) rfl)
 ·rfl
 ·refine Vzv ⟨_,rfl,?_⟩;exact⟨.int j,H,I.tok _,⟨_,rfl⟩,q⟩
def OL (K:Vzz):Qqt->Hp->VK->Prop:=λvs H Q=>∃x n t b,vs=[x,.ty n]/\jI K H x t/\kitOne K t (.type n)=some b/\Q (.bl b) H
theorem zJ:fV X (.builtin "isinstance") (OL X.K):=by
 intro _ s _ H _ _ Q I a h;obtain⟨x,n,t,b,rfl,g,e,q⟩:=h;obtain⟨u,d,rfl,f,c⟩:=vals2 a;obtain rfl:d = Value.type n:=c;exact vw I f g e λ_=>⟨.bl b,H,I.tok _,rfl,q⟩
end
structure bj (K:Vzz) (mg:Str->Option Vzy) (x:Str) (st:Stmt) (ps:Qqv) (f:Yau) (fd:Yav):Prop where
 fn:Fun K x x st f fd
 bd:Binds K fd ps []
 mg:mg x=some (.ref f)
theorem ab.new {p:Yau}{o:HO} (h:H p=none):ab H (upd H p o):=λb u e=>by rw[ao (aw e h)];exact e
def CN (D:Yau) (Pv:Qqt->St->Hp->Prop):St->Hp->Prop:=λσ H=>∃acc,H D=some (.lst acc)/\Pv acc σ H
section
variable {g:TG}{Q:VK}
theorem iJ (n:Nat) (a:Nat->Qqt->St->Hp->Prop) (h:H D=some (.lst [])) (f:a 0 [] σ H)
  (d:∀i acc σ H,i<n->H D=some (.lst acc)->a i acc σ H->J.go i H) (l:∀acc σ H,H D=some (.lst acc)->a n acc σ H->J.stop n H)
  (j:∀i acc σ H x H',i<n->H D=some (.lst acc)->a i acc σ H->J.yld i H x H'->g x σ H' λσ2 H2=>tt σ2 H2 λb H3=>if b=true then te σ2 H3 λv H4=>∃ys,H4 D=some (.lst ys)/\ys.length<Yb0/\CN D (a (i+1)) σ2 (upd H4 D (.lst (ys++[v])))else CN D (a (i+1)) σ2 H3)
  (k:∀acc σ H,H D=some (.lst acc)->a n acc σ H->Q (.ref D) H):lM g tt te J D Q σ H:=by
 refine⟨λi m σ H=>m=n - i/\i<=n/\CN D (a i) σ H,⟨n,by simp,XT _,[],h,f⟩,?_⟩;rintro i m σ H ⟨rfl,_,acc,e,p⟩;by_cases c:i<n
 ·exact .inr ⟨d i acc σ H c e p,CN D (a (i+1)),λσ' H' p'=>⟨n - (i+1),by lia,rfl,c,p'⟩,λx H' y=>j i acc σ H x H' c e p y⟩
 ·grind
theorem aB (c:Nat->Qqt->St->Hp->Prop) (l:H D=some (.lst [])) (j:c 0 [] σ H) (h:∀i acc σ H,i<=xs.length->H D=some (.lst acc)->c i acc σ H->SqL K H a xs)
  (m:∀i x acc σ H,xs[i]? = some x->H D=some (.lst acc)->c i acc σ H->g x σ H λσ2 H2=>tt σ2 H2 λb H3=>if b=true then te σ2 H3 λv H4=>∃ys,H4 D=some (.lst ys)/\ys.length<Yb0/\CN D (c (i+1)) σ2 (upd H4 D (.lst (ys++[v])))else CN D (c (i+1)) σ2 H3)
  (k:∀acc σ H,H D=some (.lst acc)->c xs.length acc σ H->Q (.ref D) H):lM g tt te (Itl K a) D Q σ H:=by
 refine iJ xs.length c l j (λi acc σ H f d p=>⟨xs,xs[i],h i acc σ H (YJ f) d p,by simp[f]⟩) (λacc σ H d p=>⟨xs,h _ acc σ H (XD _) d p,XD _⟩) (λi acc σ H x _ f d p y=>?_) k;obtain⟨e,y⟩:=y
 grind
theorem eP (a:Nat->Qqt->St->Hp->Prop) (j:H D=some (.lst [])) (f:a 0 [] σ H)
  (k:∀i acc σ H,i<n->H D=some (.lst acc)->a i acc σ H->g (.int (lo+i)) σ H λσ2 H2=>tt σ2 H2 λb H3=>if b=true then te σ2 H3 λv H4=>∃ys,H4 D=some (.lst ys)/\ys.length<Yb0/\CN D (a (i+1)) σ2 (upd H4 D (.lst (ys++[v])))else CN D (a (i+1)) σ2 H3)
  (h:∀acc σ H,H D=some (.lst acc)->a n acc σ H->Q (.ref D) H):lM g tt te (Itr lo n) D Q σ H:=by
 refine iJ n a j f (λi acc σ H d c p=>d) (λacc σ H c p=>XD _) (λi acc σ H x _ d c p y=>?_) h;obtain⟨e,y⟩:=y
 simp_all
theorem Jd (a:Nat->Qqt->St->Hp->Prop) (k:H D=some (.lst [])) (h:a 0 [] σ H)
  (l:∀i c acc σ H,z.cps[i]? = some c->H D=some (.lst acc)->a i acc σ H->g (.str ⟨#[c]⟩) σ H λσ2 H2=>tt σ2 H2 λb H3=>if b=true then te σ2 H3 λv H4=>∃ys,H4 D=some (.lst ys)/\ys.length<Yb0/\CN D (a (i+1)) σ2 (upd H4 D (.lst (ys++[v])))else CN D (a (i+1)) σ2 H3)
  (j:∀acc σ H,H D=some (.lst acc)->a z.length acc σ H->Q (.ref D) H):lM g tt te (Its z) D Q σ H:=by
 refine iJ z.length a k h (λi acc σ H f d p=>f) (λacc σ H d p=>XD _) (λi acc σ H x _ f d p y=>?_) j;obtain⟨e,c,_,y⟩:=y
 simp_all
theorem E4 (c:Nat->Qqt->St->Hp->Prop) (k:H D=some (.lst [])) (j:c 0 [] σ H) (h:∀i acc σ H,i<=xs.length->H D=some (.lst acc)->c i acc σ H->SqL K H a xs)
  (m:∀i x acc σ H p,xs[i]? = some x->H D=some (.lst acc)->c i acc σ H->H p=none->g (.ref p) σ (upd H p (.tup [.int i,x])) λσ2 H2=>tt σ2 H2 λb H3=>if b=true then te σ2 H3 λv H4=>∃ys,H4 D=some (.lst ys)/\ys.length<Yb0/\CN D (c (i+1)) σ2 (upd H4 D (.lst (ys++[v])))else CN D (c (i+1)) σ2 H3)
  (l:∀acc σ H,H D=some (.lst acc)->c xs.length acc σ H->Q (.ref D) H):lM g tt te (Ite K a) D Q σ H:=by
 refine iJ xs.length c k j (λi acc σ H f d p=>⟨xs,xs[i],h i acc σ H (YJ f) d p,by simp[f]⟩) (λacc σ H d p=>⟨xs,h _ acc σ H (XD _) d p,XD _⟩) (λi acc σ H x _ f d p y=>?_) l;obtain⟨q,v,_,_,e,_⟩:=y
 grind
end
theorem oE {K:Vzz}{sp:Sp}{g:Qqt->Hp->Prop}{H0:Hp}:∀(xs:Qqt) (kds:Qqy) (ks:Qqt) (dks:Qqy) (H:Hp),xs.length=kds.length->ab H0 H->ay K H ks dks ->
  (∀(i:Nat) (x:V) (d:Yaz) (H:Hp) (Q:VK),xs[i]? = some x->kds[i]? = some d->ab H0 H->(∀r H',ab H H'->Den K H' r d->Q r H')->sp [x] H Q E0)->(∀ks' H',ab H0 H'->ay K H' ks' (dks++kds)->g ks' H')->pL sp xs ks H g
 | [],[],ks,dks,H,_,hs,hd,_,hq=>hq ks H hs (by simpa using hd)
 | x::xs,d::kds,ks,dks,H,hl,hs,hd,hsp,hq=>by
  refine hsp 0 x d H _ rfl rfl hs λr H' f dr=>?_;refine oE xs kds (ks++[r]) (dks++[d]) H' (by simpa using hl) (hs.trans f) ((hd.same f).append (.cons dr .nil)) (λi y e c Q a b=>hsp (i+1) y e c Q (by simpa using a) (by simpa using b)) λks' c a b=>hq ks' c a (by simpa using b)
def MT (sc osc:Scope) (N N':Qqv) (n:Nat) (fi:List Nat):Bool:=
 decide (sc.kind = .function) && decide (∀y∈sc.names,y.2 = .local->sc.names.lookup y.1=some .local)
 && decide (∀y∈sc.names,y.2 = .free->osc.names.lookup y.1=some .cell\/osc.names.lookup y.1=some .free)
 && decide (N'.length=n+fi.length)
 && (Z6 fi.length).all λj=>match fi[j]? with
  | some k=>match N'[n+j]? with
   | some x=>decide (N[k]? = some x) && decide (sc.names.lookup x=some .free) && decide ((x,NameKind.cell)∉sc.names)
   | none=>false
  | none=>false
theorem bX {a:Scope} (osc:Scope) (N:Qqv) (h:MT a osc N N' n fi=true) (e:X.env.scope=osc:=by rfl) (f:X.N=N:=by rfl):j3 X a N' n fi:=by
 subst e f;simp only[MT,Yd,decide_eq_true_eq]at h;obtain⟨⟨⟨⟨b,c⟩,g⟩,d⟩,_⟩:=h;refine⟨b,c,g,d,λj k _=>?_⟩
 grind
def lim (H H':Hp):Hp:=λb=>match H b with | some (.lst _)=>none | _=>H' b
def wo (D:Yau) (H:Hp):Hp:=λb=>if b=D then none else H b
section
variable {E p:Yau}{o u:HO}
theorem bh (h:∀zs,H b≠some (.lst zs)):lim H H' b=H' b:=by
 grind [lim]
theorem bK (h:H p=none):lim H H' p=H' p:=bh λzs e=>by lia
theorem bG:ab (lim H H') H':=λb o e=>by
 grind [lim]
theorem d9 (h:lim H H' b=some o):∀zs,H b≠some (.lst zs):=λzs e=>by
 grind [lim]
theorem bM (h:ab H1 H2):ab (lim H H1) (lim H H2):=λb o e=>by
 rw[bh (d9 e)];exact h b o (bG b o e)
def LL (H H':Hp):Prop:=∀b ys,H b=some (.lst ys)->∃zs,H' b=some (.lst zs)
theorem ab.ll (h:ab H H'):LL H H':=λb ys e=>⟨ys,h b _ e⟩
theorem cJ (h:LL H H1):ab (lim H1 H2) (lim H H2):=λb o e=>by
 rw[bh]
 ·exact bG b o e
 ·intro zs q;obtain⟨z2,q2⟩:=h b zs q;exact d9 e z2 q2
theorem aq (h:b≠D):wo D H b=H b:=by simp[wo,h]
theorem Xe {c:Yau}{q:Option HO} (h0:c≠a0) (e:H c=q):(wo a0 H) c=q:=by rw[aq h0];exact e
theorem Xf {c:Yau}{q:Option HO} (h0:c≠a0) (h1:c≠a1) (e:H c=q):(wo a0 (wo a1 H)) c=q:=by rw[aq h0,aq h1];exact e
theorem Xj {c a2:Yau}{q:Option HO} (h0:c≠a0) (h1:c≠a1) (h2:c≠a2) (e:H c=q):(wo a0 (wo a1 (wo a2 H))) c=q:=by rw[aq h0,aq h1,aq h2];exact e
theorem eM:wo D H D=none:=by simp[wo]
theorem aZ (h:wo D H b=some o):b≠D/\H b=some o:=by
 grind [wo]
theorem bc:ab (wo D H) H:=λb o e=>(aZ e).2
theorem g8 (h:ab H1 H2):ab (wo D H1) (wo D H2):=λb o e=>by
 rw[aq (aZ e).1];exact h b o (aZ e).2
theorem B4:wo D (upd H D o)=wo D H:=by
 grind [eM,aq,ao]
theorem yL:ab (wo D H) (upd H D o):=λb u e=>by grind [ao,aZ]
theorem bL (h:ab (wo D H1) H2) (g:ab (wo D H2) H3):ab (wo D H1) H3:=λb o e=>g b o (Xe ((aZ e).1) (h b o e))
theorem LA (h:H D=some (.lst ys)):ab (lim H H') (wo D H'):=λb o e=>by
 have hb:b≠D:=λq=>by grind [d9]
 rw[aq hb];exact bG b o e
theorem jb (h:H D=some (.lst ys)):lim H (upd H' D o)=lim H H':=by
 grind [lim,ao]
theorem hJ (h:H D=none) (s:ab H H'):ab H (wo D H'):=λb o e=>by
 rw[aq (aw e h)];exact s b o e
theorem Dn (s:ab H H') (h:H' D=some (.lst ys)):LL (upd H D o) H':=λb zs e=>by
 by_cases q:b=D
 ·subst q;exact⟨ys,h⟩
 ·rw[ao q]at e;exact⟨zs,s b _ e⟩
theorem ba {xs:List α}{x:α} (h:xs[i]? = some x):i<xs.length:=by
 grind
theorem dw {xs:List α}{x:α} (h:xs[i]? = some x) (f:α->β):(xs.take (i+1)).map f=(xs.take i).map f++[f x]:=by
 rw[XW,h];simp
theorem ar (h:H D=none) (s:ab H H'):ab H (upd H' D o):=λb u e=>by
 rw[ao (aw e h)];exact s b u e
end
theorem bZ {x:V}{F:St->Hp->Prop} (h:F (σ.set i (some x)) H):bf i x σ H λσ2 H2=>MJ σ2 H2 λb H3=>if b=true then F σ2 H3 else G σ2 H3:=by
 assumption
theorem small (h:n<10000000):n<Yb0:=by grind [sizeLine_eq,X9]
section
open PySem.Builtin PySem.Builtin.Str
theorem SqT.lim (b:ab H H0) (c:ab H H') (h:SqT K H a xs):SqT K (L2.lim H0 H') a xs:=by
 rcases h with(h | ⟨o,h⟩) | h
 ·exact .inl (.inl (by rw[bh λzs e=>by rw[b _ _ h]at e;cases e];exact c _ _ h))
 ·exact .inl (.inr ⟨o,by rw[bh λzs e=>by rw[b _ _ h]at e;cases e];exact c _ _ h⟩)
 ·exact .inr h
def jl (K:Vzz):Qqt->Hp->VK->Prop:=λxs H Q=>∃p ys,xs=[.ref p]/\(SqL K H p ys\/SqT K H p ys)/\∀l,H l=none->Q (.ref l) (upd H l (.lst ys))
theorem fF:fV X (.type "list") (jl X.K):=xI
theorem fZ:bootBuiltins "list" = some (.type "list"):=by decide +kernel
theorem gr:bootBuiltins "sorted" = some (.builtin "sorted"):=by decide +kernel
theorem bJ {n:Nat}:∀(l:Qqy),(∀d∈l,d.depth<=n)->Z3 l<=n
 | [],_=>XT _
 | d::r,h=>by
  exact Nat.max_le.mpr ⟨(h d (XC ..)),(bJ r λe he=>h e (XF _ he))⟩
theorem MN {c:Nat} (hz:Z2 z=true) (h:z.cps[i]? = some c):Z2 ⟨#[c]⟩=true:=by
 unfold Z2 at hz ⊢
 grind
theorem kN (h:∀c∈z.cps,c<1114112):Z2 z=true:=by
 unfold Z2
 simp_all
theorem iM (h:Z2 z=true):∀c∈z.cps,c<1114112:=by
 unfold Z2 at h;intro c hc;obtain⟨i,hi,rfl⟩:=Array.mem_iff_getElem.mp hc
 simp_all
theorem Iy {l u:Option Int} (hz:Z2 z=true):Z2 (Yac z l u)=true/\(Yac z l u).length<=z.length:=by
 unfold Yac
 split
 ·lia
 ·constructor
  ·grind [kN,List.mem_toArray,ZE,iM,Array.mem_of_getElem?]
  ·show(Ya8 _).size<=z.cps.size;exact XG (List.length_filterMap_le _ _) (sliceIndices_le l u _)
theorem Fg {a b:Nat} (hz:Z2 z=true):Z2 (strSub z a b)=true/\(strSub z a b).length<=z.length:=by
 unfold strSub;constructor
 ·refine kN λc d=>?_;refine iM hz c ?_;obtain⟨i,_,rfl⟩:=Array.mem_iff_getElem.mp d;simp
 ·show(Array.extract _ _ _).size<=z.cps.size
  grind
theorem ug (hz:Z2 z=true):∀x∈Z5 z y,Z2 x=true/\x.length<=z.length:=by
 intro x a;have b:x∈[z]->Z2 x=true/\x.length<=z.length:=λh=>by
  simp_all
 unfold Z5 at a
 split at a
 ·exact b a
 ·split at a
  ·exact b a
  ·unfold partsBetween at a;simp only[XE]at a;obtain⟨p,_,rfl⟩:=a;exact Fg hz
theorem sP:1<=(Z5 z y).length/\(Z5 z y).length<=z.length+2:=by
 grind [StrLaws.occ_length_le,Z5,length_partsBetween]
theorem Es {y:Str} (a:Z2 y=true):∀(xs:Qqv) (acc:Array Nat),(∀x∈xs,Z2 x=true)->(∀c∈acc,c<1114112)->∀c∈xs.foldl (λacc p=>acc++y.cps++p.cps) acc,c<1114112
 | [],acc,_,h=>h
 | x::r,acc,hx,h=>by
  refine Es a r _ (λz b=>hx z (XF _ b)) λc _=>?_
  grind [iM,XC]
theorem yO {y:Str}{m:Nat}:∀(xs:Qqv) (acc:Array Nat),(∀x∈xs,x.length<=m)->(xs.foldl (λacc p=>acc++y.cps++p.cps) acc).size<=acc.size+xs.length * (m+y.length)
 | [],acc,_=>by simp
 | x::r,acc,hx=>by
  have a:=yO (y:=y) r (acc++y.cps++x.cps) λz b=>hx z (XF _ b);have c:x.cps.size<=m:=hx x (XC ..);have e:(acc++y.cps++x.cps).size=acc.size+y.cps.size+x.cps.size:=by simp;lia
  have d:y.length=y.cps.size:=rfl;simp only[List.foldl_cons,XX,Nat.add_mul,Nat.one_mul]at a ⊢;lia
theorem Et (e:Z2 y=true) {xs:Qqv} (h:∀x∈xs,Z2 x=true/\x.length<=m):Z2 (Ya6 y xs)=true/\(Ya6 y xs).length<=xs.length * (m+y.length):=by
 cases xs with
 | nil=>exact⟨by show Z2 ZY=true;decide +kernel,XT _⟩
 | cons x r=>
  have d:=h x (XC ..);have c:∀z∈r,Z2 z=true/\z.length<=m:=λz a=>h z (XF _ a);refine⟨kN (Es e r x.cps (λz a=>(c z a).1) (iM d.1)),?_⟩;have f:=yO (y:=y) (m:=m) r x.cps λz a=>(c z a).2;have g:x.cps.size<=m:=d.2;show(List.foldl (λ(b:Array Nat) (p:Str)=>b++y.cps++p.cps) x.cps r).size<=(x::r).length * (m+y.length);simp only[XX,Nat.add_mul,Nat.one_mul]at f ⊢;lia
theorem Lk {m:Nat}:∀{xs:Qqv},(∀x∈xs,x.length<=m)->(xs.map (·.length)).sum<=xs.length * m
 | [],_=>by simp
 | x::r,h=>by
  have a:=Lk λz b=>h z (XF x b);have c:=h x (XC ..);simp only[XS,YC,XX,Nat.add_mul,Nat.one_mul]at a ⊢;lia
theorem oq {xs:Qqv} (h:∀x∈xs,x.length<=m) (hb:xs.length * m+xs.length * y.length<=16777216):JoinOk y xs=true:=by
 have h1:=Lk h;exact joinOk_of (by lia)
section
variable {Q:VK}
theorem eX {K:Vzz}{H:Hp}:∀{l:Qqv},(∀x∈l,Z2 x=true)->ay K H (l.map V.str) (l.map PyData.str)
 | [],_=>.nil
 | x::r,h=>.cons (.str (h x (XC ..))) (eX λy hy=>h y (XF _ hy))
end
end
def Itz (K:Vzz) (a b:Yau):It:=
 ⟨λi H=>∃xs ys x y,SqL K H a xs/\SqL K H b ys/\xs[i]? = some x/\ys[i]? = some y,
   λi H x H'=>∃p u v,H p=none/\(∀xs,SqL K H a xs->xs[i]? = some u)/\(∀ys,SqL K H b ys->ys[i]? = some v)/\x = .ref p/\H' = upd H p (.tup [u,v]),
   λi H=>∃xs ys,SqL K H a xs/\SqL K H b ys/\(xs.length<=i\/ys.length<=i)⟩
theorem Lz {P:Yax}{k:Nat} (a b z TI TO t B:Yau) (D:ZipApart z TI TO t B a b) :
  Turn P w K (.Tuple BX k pos) (Itz K a b) [z,TI,TO,t,B] z (λi h=>IsZip h z TI TO .none/\IsPair h TI (.ref t) (.ref B)/\(∃u v,IsPair h TO u v)/\h.IsListIter t a i/\h.IsListIter B b i) where
 mem:=by simp
 obj:=λi h n c Z=>by
  obtain⟨C,f,⟨u,v,j⟩,⟨_,_,_,_⟩,⟨_,_,_,_⟩⟩:=n
  grind
 keep:=λi h h' n m=>by
  obtain⟨C,f,⟨u,v,j⟩,L,J⟩:=n;exact⟨m z (by simp) _ C,m TI (by simp) _ f,⟨u,v,m TO (by simp) _ j⟩,L.at λo e=>m t (by simp) o e,J.at λo e=>m B (by simp) o e⟩
 item:=by
  intro X R S hK Z i A s σ H E I N n Q;subst R S hK;obtain⟨xs,ys,x,y,O,r,hx,hy⟩:=Q;obtain⟨T,rv,p,_⟩:=I.list O;obtain⟨U,G,V,_⟩:=I.list r;obtain⟨u,hu,ru⟩:=rv.get hx;obtain⟨v,hv,a0⟩:=G.get hy;obtain⟨C,f,⟨u0,v0,j⟩,L,J⟩:=n;have l:∀{b:Yau}{o:Obj},s.heap.get? b=some o->b<s.heap.objs.size:=λe=>Z1 e;have Y:=l C;have W8:=l f;have Xz:=l j;have aa:t<s.heap.objs.size:=by obtain⟨_,e,_⟩:=L;exact l e
  have a8:B<s.heap.objs.size:=by obtain⟨_,e,_⟩:=J;exact l e
  refine wpAny_pyNext_zip_item D C f j L J p.isList V.isList (x:=u) (y:=v) (by simpa using hu) (by simpa using hv) λh' a1 a2 a3 a4 a5 _ m=>?_;refine⟨_,rfl,?_⟩;refine wpAny_letOwnedTupleGo_zip a1 λg W M=>?_;have I2:Inv X A σ (upd H s.heap.objs.size (.tup [x,y])) { s with heap:=g }:=I.kG (t':=s.toks) (wr:=[z,TI,TO,t,B]) N (λc o d ec=>by
    have n1:c≠z:=λq=>d (by simp[q]);exact(M.2 c n1).trans (m c o n1 (λq=>d (by simp[q])) (λq=>d (by simp[q])) (λq=>d (by simp[q])) ec)) (XD _) ⟨by show 2<=Yb0;decide,[u,v],.cons ru (.cons a0 .nil),⟨_,((M.2 _ (Y5 Y)).trans a5),rfl,_,rfl⟩⟩
  refine⟨.ref s.heap.objs.size,_,I2,rfl,⟨_,x,y,(I.hok.fresh (XD _)),λzs F=>by rwa [I.mU F O],λzs F=>by rwa [I.mU F r],rfl,rfl⟩,⟨W,?_,⟨u,v,?_⟩,?_,?_⟩,λc d=>?_⟩
  ·exact(M.2 _ D.TIz).trans (m _ _ D.TIz D.TITO D.TIi1 D.TIi2 f)
  ·exact(M.2 _ D.TOz).trans a2
  ·exact a3.at λo e=>(M.2 _ D.i1z).trans e
  ·exact a4.at λo e=>(M.2 _ D.i2z).trans e
  ·have a7:c≠s.heap.objs.size:=by
    grind
   rw[ao a7];exact(N c d).1
 done:=by
  intro X R S hK Z i A s σ H E I N n Q;subst R S hK;obtain⟨xs,ys,O,r,hx⟩:=Q;obtain⟨T,rv,p,_⟩:=I.list O;obtain⟨U,G,V,_⟩:=I.list r;have hl:=rv.length;have a9:=G.length;obtain⟨C,f,⟨u0,v0,j⟩,L,J⟩:=n;refine wpAny_pyNext_zip_end (I.ok.hd Z) D C f j L J p.isList V.isList ?_ λh' m=>⟨rfl,I.dJ (t':=s.toks) (wr:=[z,TI,TO,t,B]) N λc o d e=>m c o (λq=>d (by simp[q])) (λq=>d (by simp[q])) (λq=>d (by simp[q])) (λq=>d (by simp[q])) e⟩
  simp_all
 self:=λ_ _ _ _ _ n h=>wpAny_pyIter_zip n.1 h
def V5 (K:Vzz) (ta:TA):TI:=λσ H R=>ta σ H λvs H1=>∃a b,vs=[.ref a,.ref b]/\(∃xs,SqL K H1 a xs)/\(∃ys,SqL K H1 b ys)/\R (Itz K a b) H1
theorem rC {D:List Expr}{k:Nat}{K1:Pos}{a b:Expr}{ta:TA}{p pos:Pos} (w:Gl X "zip") (C:X.mg "zip" = none) (y:PA X [a,b] ta) (A:Yb2 [a,b] X.env=(false,eval a X.env)::Yb2 [b] X.env:=by rfl) (m:(backTo pos (Yb2 [b] X.env)).any (·.1)=false:=by rfl):PI X (.Tuple D k K1) (.Call (.Name "zip" p) [a,b] [] pos) (V5 X.K ta):=by
 intro d s B H R I h;refine Call_ (eN I w C boot_zip (W0 (thn (y pos d s B H _ I h) λ_ s1 ⟨_,u,f,n,G⟩=>?_) A m));obtain⟨a,b,e,⟨_,E⟩,⟨_,j⟩,q⟩:=G;subst e;obtain⟨_,_,rfl,n,z⟩:=vals2 n;cases n;cases z;obtain⟨_,_,t,_⟩:=f.list E;obtain⟨_,_,g,_⟩:=f.list j;have J : @LT.lt Nat _ a s1.heap.objs.size:=by obtain⟨_,e,_⟩:=t.isList;exact Z1 e
 have L : @LT.lt Nat _ b s1.heap.objs.size:=by obtain⟨_,e,_⟩:=g.isList;exact Z1 e
 refine call_zip_2 t.isList g.isList λ_ r o l v x _ F=>wpAny_pyIter_zip r ?_;refine⟨s1.heap.objs.size+4,[s1.heap.objs.size+4,s1.heap.objs.size+2,s1.heap.objs.size+3,s1.heap.objs.size,s1.heap.objs.size+1],_,_,u,rfl,f.kept (t':=s1.toks) F,Lz a b _ _ _ _ _ (by constructor <;> (show((_:Nat)≠_)) <;> lia),⟨r,o,⟨_,_,l⟩,v,x⟩,λc _=>?_,q⟩;have i:s1.heap.objs.size<=c:=by
  grind
 exact f.nG i (f.hok.fresh i)
section
variable {g:TG}{Q:VK}
theorem sf (c:Nat->Qqt->St->Hp->Prop) (l:H D=some (.lst [])) (k:c 0 [] σ H) (j:∀i acc σ H,H D=some (.lst acc)->c i acc σ H->SqL K H a xs/\SqL K H b ys)
  (o:∀i x y acc σ H p,xs[i]? = some x->ys[i]? = some y->H D=some (.lst acc)->c i acc σ H->H p=none->g (.ref p) σ (upd H p (.tup [x,y])) λσ2 H2=>tt σ2 H2 λb H3=>if b=true then te σ2 H3 λv H4=>∃ys,H4 D=some (.lst ys)/\ys.length<Yb0/\CN D (c (i+1)) σ2 (upd H4 D (.lst (ys++[v])))else CN D (c (i+1)) σ2 H3)
  (m:∀acc σ H,H D=some (.lst acc)->c (min xs.length ys.length) acc σ H->Q (.ref D) H):lM g tt te (Itz K a b) D Q σ H:=by
 refine iJ (min xs.length ys.length) c l k (λi acc σ H n d p=>?_) (λacc σ H d p=>?_) (λi acc σ H x _ n d p y=>?_) m
 ·obtain⟨f,h⟩:=j i acc σ H d p;exact⟨xs,ys,xs[i],ys[i],f,h,by simp,by simp⟩
 ·obtain⟨f,h⟩:=j _ acc σ H d p;exact⟨xs,ys,f,h,by lia⟩
 ·obtain⟨q,u,v,_,_,_,e,_⟩:=y
  grind
theorem ES {tb:TS}{D:Ends} (c:Nat->St->Hp->Prop) (k:c 0 σ H) (l:∀i σ H,c i σ H->SqL K H a xs/\SqL K H b ys)
  (r:∀i x y σ H p,xs[i]? = some x->ys[i]? = some y->c i σ H->H p=none->g (.ref p) σ (upd H p (.tup [x,y])) λσ2 H2=>tb { D with nx:=c (i+1),ct:=c (i+1),bk:=D.nx } σ2 H2) (n:∀σ H,c (min xs.length ys.length) σ H->D.nx σ H) :
  ∃W:Nat->Nat->St->Hp->Prop,(∃m,W 0 m σ H)/\∀i m σ H,W i m σ H ->
   ((Itz K a b).stop i H/\D.nx σ H)\/((Itz K a b).go i H/\∃N:St->Hp->Prop,(∀σ' H',N σ' H'->∃m',m' < m/\W (i+1) m' σ' H')/\∀x H',(Itz K a b).yld i H x H'->g x σ H' λσ2 H2=>tb { D with nx:=N,ct:=N,bk:=D.nx } σ2 H2):=by
 refine⟨λi m σ H=>m=min xs.length ys.length - i/\i<=min xs.length ys.length/\c i σ H,⟨_,rfl,XT _,k⟩,?_⟩;rintro i m σ H ⟨rfl,_,p⟩;obtain⟨f,h⟩:=l i σ H p;by_cases d:i<min xs.length ys.length
 ·have j:i<xs.length:=by lia
  refine .inr ⟨⟨xs,ys,xs[i],ys[i],f,h,by simp[j],by simp⟩,c (i+1),λσ' H' o=>⟨min xs.length ys.length - (i+1),by lia,rfl,d,o⟩,λx H' y=>?_⟩;obtain⟨q,u,v,_,_,_,e,_⟩:=y
  grind
 ·have e:i=min xs.length ys.length:=by lia
  subst e;exact .inl ⟨⟨xs,ys,f,h,by lia⟩,n σ H p⟩
end
def MM:V->Qqt->Hp->VK->Prop:=λx vs H Q=>∃z y,x = .str z/\vs=[.str y]/\z.length<=Yb0/\Q (.str (Yao z y)) H
theorem F7:MtR X "str.strip" MM:=by
 intro _ s _ H x _ v _ Q I b c h;obtain⟨z,y,rfl,rfl,a,q⟩:=h;obtain⟨t,rfl⟩:=b;obtain⟨u,rfl,d,rfl⟩:=c.one;exact SC.stripChars (λd k=>⟨.str _,H,I.tok _,⟨_,rfl⟩,q⟩) a
def OP:V->Qqt->Hp->VK->Prop:=λx vs H Q=>∃z y,x = .str z/\vs=[.str y]/\z.length<=Yb0/\Q (.str (Txt.removeprefix z y)) H
theorem LJ:MtR X "str.removeprefix" OP:=by
 intro _ s _ H x _ v _ Q I b c h;obtain⟨z,y,rfl,rfl,a,q⟩:=h;obtain⟨t,rfl⟩:=b;obtain⟨u,rfl,d,rfl⟩:=c.one;exact SC.removeprefix (λd k=>⟨.str _,H,I.tok _,⟨_,rfl⟩,q⟩) a
theorem mm:∀{bs:List Bool}{us:Qqz},aO (bs.map V.bl) us->us=bs.map Value.bool
 | [],_,h=>by cases h;rfl
 | b::r,_,h=>by
  cases h with
  | cons h1 t=>
   obtain rfl:=h1;rw[mm t];rfl
theorem range_all (bs:List Bool):(Z6 bs.length).all (λi=>bs.getD i true)=bs.all id:=by
 (rw[Yc,Ye,Ye])
 constructor
 ·intro h x a;obtain⟨i,_,rfl⟩:=Ze.mp a
  simp_all
 ·grind [YH,List.getD,XJ]
theorem range_any (bs:List Bool):(Z6 bs.length).any (λi=>bs.getD i true)=bs.any id:=by
 (rw[Yc,Zg,Zg])
 constructor
 ·grind [YH,List.getD,XJ]
 ·rintro⟨x,b,h⟩;obtain⟨i,a,rfl⟩:=Ze.mp b;exact⟨i,Y0.mpr a,by simp_all⟩
def Gu (K:Vzz):Qqt->Hp->VK->Prop:=λxs H Q=>∃(p:Yau) (bs:List Bool),xs=[.ref p]/\SqL K H p (bs.map V.bl)/\Q (.bl (bs.all id)) H
def RZ (K:Vzz):Qqt->Hp->VK->Prop:=λxs H Q=>∃(p:Yau) (bs:List Bool),xs=[.ref p]/\SqL K H p (bs.map V.bl)/\Q (.bl (bs.any id)) H
theorem pj {P:Yax} (bs:List Bool):TruthOf P w A (λi v=>(bs.map Value.bool).toArray[i]? = some v) (λi=>bs.getD i true):=by
 intro i v s Q E _ _
 grind [XM,wpAny_truthy_bool,List.getD]
theorem j5 (c:X.calm=true):fV X (.builtin "all") (Gu X.K):=by
 intro _ s _ H _ _ Q I r h;obtain⟨p,bs,rfl,j,q⟩:=h;obtain⟨u,rfl,d⟩:=vals1 r;cases d;obtain⟨_,g,a,_⟩:=I.list j;have e:=mm g;subst e;refine call_all_walk (wpAny_pyIter_list a.isList ?_);refine⟨s.heap.objs.size,_,_,_,_,_,_,rfl,Walks.list (A:=X.A.in1) (show X.A.in1.handled=none from I.ok.hd c) s.heap.objs.size p (by obtain⟨_,e,_⟩:=a.isList;exact X3 (Z1 e)) (bs.map Value.bool).toArray,⟨⟨_,Z0 _ rfl,rfl,rfl⟩,a.isList.push _⟩,pj bs,λ_ k l=>?_⟩;have f:(bs.map Value.bool).toArray.size=bs.length:=by simp
 rw[f,range_all];refine⟨.bl _,H,I.kept (t':=k) λb o e=>l b o (λi=>?_) (Vzu _ e),rfl,q⟩;simp only[XR]at i;exact absurd (Z1 e) (by lia)
theorem KO (c:X.calm=true):fV X (.builtin "any") (RZ X.K):=by
 intro _ s _ H _ _ Q I r h;obtain⟨p,bs,rfl,j,q⟩:=h;obtain⟨u,rfl,d⟩:=vals1 r;cases d;obtain⟨_,g,a,_⟩:=I.list j;have e:=mm g;subst e;refine call_any_walk (wpAny_pyIter_list a.isList ?_);refine⟨s.heap.objs.size,_,_,_,_,_,_,rfl,Walks.list (A:=X.A.in1) (show X.A.in1.handled=none from I.ok.hd c) s.heap.objs.size p (by obtain⟨_,e,_⟩:=a.isList;exact X3 (Z1 e)) (bs.map Value.bool).toArray,⟨⟨_,Z0 _ rfl,rfl,rfl⟩,a.isList.push _⟩,pj bs,λ_ k l=>?_⟩;have f:(bs.map Value.bool).toArray.size=bs.length:=by simp
 rw[f,range_any];refine⟨.bl _,H,I.kept (t':=k) λb o e=>l b o (λi=>?_) (Vzu _ e),rfl,q⟩;simp only[XR]at i;exact absurd (Z1 e) (by lia)
theorem um:bootBuiltins "all" = some (.builtin "all"):=by decide +kernel
theorem Qi:bootBuiltins "any" = some (.builtin "any"):=by decide +kernel
section
open PySem.W
def vp (K:Vzz) (sp:Sp) (l:Yau) (xs:Qqt):Qqt->V->V->Hp->VK->Prop
 | [],b,_,H,Q=>SqL K H l xs/\Q b H
 | x::r,b,kb,H,Q=>SqL K H l xs/\sp [x] H (λk H'=>∃d e,Den K H' k d/\Den K H' kb e/\mF d e=true/\d.depth<=100/\if ltv d e=true then vp K sp l xs r x k H' Q else vp K sp l xs r b kb H' Q) E0
section
variable {s:Vzx}
theorem Fl (a v d:Vzy):argsOk "min" ⟨[a],[(WU "key",v),(WU "default",d)]⟩:=by unfold argsOk;kernel_rfl
def wR (X:Cx) (pins:List (Yau×Obj)) (σ:St) (f:Yau) (sp:Sp):Prop:=∀(more:List (Yau×Obj)) (H:Hp) (s:Vzx) (x:V) (u:Vzy) (Q:VK),Inv X (pins++more) σ H s->RelV x u->sp [x] H Q E0 ->
 codeAny (model X.prog X.w) X.A.in1 (.call (.ref f) ⟨[u],[]⟩) (CR CX0 X.stack X.prog X.w H s Q E0) s
theorem K3 {k:Nat} (F:d6 X.prog X.w X.K X.mg X.base CX0 k f fd ps sp) (b:bB (k+1) X.A) (a:Binds X.K fd ps []):wR X pins σ f sp:=λ_ H s x u Q I c h=>by
 exact F.run X.A.in1 X.stack s H ⟨[u],[]⟩ [u] [x] _ E0 b.in1 I.CI.in1 (by have:=a s [u] I.kIn (by simpa using(F.len _ _ _ _ h));simpa using this) (.cons c .nil) h
theorem vD {S:Yau}{oI oS:Obj}{x:V}{Q:VK} (C:wR X pins σ f sp)
  (l:∀v,oI.data ≠ .cell v) (hS:∀v,oS.data ≠ .cell v) (i:Inv X pins σ H s) (c:cN X pins H I) (d:cN X pins H S) (z:s.heap.get? I=some oI) (n:s.heap.get? S=some oS) (m:RelV x u) (h:sp [x] H Q E0)
  {R:Vzy->Vzx->Prop}{E:Vzy->Vzx->Prop} (a:∀v kv H1 s1,Inv X pins σ H1 s1->cN X pins H1 I->cN X pins H1 S->s1.heap.get? I=some oI->s1.heap.get? S=some oS->RelV v kv->Q v H1->R kv s1) :
  Yb1 (model X.prog X.w) X.A.in1 (call (.ref f) [u]) R E s:=by
 have k:Inv X (pins++[(I,oI),(S,oS)]) σ H s:=i.nZ λp t=>by
  rcases XU.mp t with q | q
  ·exact i.pin p (Yb _ q)
  ·rcases XQ.mp q with q | q
   ·subst q;exact⟨z,c.1,c.2.1,c.2.2.1,l⟩
   ·have y:p=(S,oS):=by simpa using q
    subst y;exact⟨n,d.1,d.2.1,d.2.2.1,hS⟩
 refine wpAny_call (codeAny_mono (C [(I,oI),(S,oS)] H s x u _ k m h) λr s1 b=>?_);cases r with
 | error _=>exact b.elim
 | ok o=>
  cases o with
  | ret kv=>
   obtain⟨v,H1,e,B,D⟩:=k.after b;have j:=e.pin (I,oI) (by simp);have g:=e.pin (S,oS) (by simp);exact a v kv H1 s1 e.gC ⟨j.2.1,c.2⟩ ⟨g.2.1,d.2⟩ j.1 g.1 B D
  | next=>exact False.elim b
  | brk=>exact False.elim b
  | cont=>exact False.elim b
theorem FA {k:Nat}{S l:Yau}{kw:List (Str×Vzy)}{Q:VK} (C:wR X pins σ f sp) (hr:bB (k+1) X.A) (a:X.calm=true)
  (D:l≠I) (t:S≠I) (hR:∀v u H' s',Inv X pins σ H' s'->RelV v u->Q v H'->R (.ok (.ret u)) s') :
  ∀(r:Qqt) (j:Nat) (b kb:V) (H:Hp) (s:Vzx) (ub uk:Vzy) (c:Nat),r=xs.drop j->j<=xs.length->Inv X pins σ H s->cN X pins H I->cN X pins H S->s.heap.get? S=some (seqObj "list" #[ub,uk] c)->s.heap.IsListIter I l j->RelV b ub->RelV kb uk->vp X.K sp l xs r b kb H Q ->
   codeAny (model X.prog X.w) X.A (.builtin "min.loop" ⟨[.ref I,.ref f,.ref S],kw⟩) R s:=by
 (have wD:(toString "min" ++ toString ".loop" : String) = "min.loop" :=by decide)
 intro r
 induction r with
 | nil=>
  intro j b kb H s ub uk c y hj p fI fS J L rb rk h;obtain⟨hq,q⟩:=h;obtain⟨g,W,pl,_⟩:=p.list hq;have G:=W.length;have m:=Zf.mp y.symm
  (refine codeAny_builtin PySem.F.entry_min_loop ?_)
  (rw[ZB WV _])
  (refine Vzw (wpAny_seqItems J rfl ?_))
  refine Vzw (wpAny_tryCatch ((Walks.list (prog:=X.prog) (w:=X.w) (A:=X.A.in1) (show X.A.in1.handled=none from p.ok.hd a) I l D g.toArray).done _ _ _ ⟨by rwa [XO,show g.length=j by lia],pl.isList⟩ λh' T i=>?_));refine Vzw ?_;refine wpAny_updateSeq (i S _ (by simpa using t) J) rfl (Vzw (wpAny_letGo (Vzv ?_)));exact hR b ub H _ ((p.dJ (wr:=[I]) (λc a=>by simp_all) λc o a e=>i c o a e).dJ (t':=T) (wr:=[S]) (λc a=>by simp_all) λc o a e=>((ZW h' S (Z9 λ_=>(#[]:Qqw))).2 c (by simpa using a)).trans e) rb q
 | cons x r ih=>
  intro j b kb H s ub uk c y hj p fI fS J L rb rk h;obtain⟨hq,q⟩:=h;obtain⟨g,W,pl,_⟩:=p.list hq;have G:=W.length;have m:j<xs.length:=by
   grind
  have a4:xs[j]? = some x:=by
   rw[Yj m]at y
   grind
  have E:r=xs.drop (j+1):=by
   grind [Yj]
  (refine codeAny_builtin PySem.F.entry_min_loop ?_)
  (rw[ZB WV _])
  (refine Vzw (wpAny_seqItems J rfl ?_))
  refine Vzw (wpAny_tryCatch ((Walks.list (prog:=X.prog) (w:=X.w) (A:=X.A.in1) (show X.A.in1.handled=none from p.ok.hd a) I l D g.toArray).item j _ _ _ (by rw[XO];lia) ⟨L,pl.isList⟩ λv h' T hP qY i=>?_));obtain⟨u,hu,ru⟩:=W.get a4;have hv:v=u:=by
   have:g[j]? = some v:=by simpa using hP
   rw[hu]at this;cases this;rfl
  subst hv;obtain⟨oI,eI,cI,dI⟩:=qY.1;refine Vzw (wpAny_tryCatch (Vzs (vD C (oI:=oI) (oS:=seqObj "list" #[ub,uk] c) (λz q=>by lia) (λz q=>by cases q) (p.dJ (wr:=[I]) (λc a=>by rwa [show c=I by simpa using a]) λc o a e=>i c o a e) fI fS eI (i S _ (by simpa using t) J) ru q λkv B H2 Y U N O M n P q2=>?_)));obtain⟨d,e,dk,de,cF,Au,q3⟩:=q2;obtain⟨Z,a3⟩:=U.reads dk P;obtain⟨a0,a6⟩:=U.reads de rk;refine Vzw (wpAny_tryCatch (Vzs (Vzw (rS 100 d e Au cF X.A.in1 Y B uk Z a0 a3 a6 dk.lay de.lay (by show X.A.units+1+d.depth<cLine;have:=hr.un;lia) _ _ _ _ ?_))))
  (refine Vzw (Vzs (wpAny_truthy_bool ?_)))
  (refine Vzw (wpAny_letGo (Vzv ?_)))
  cases hb':ltv d e with
  | true=>
   rw[hb',Yb7 rfl]at q3;have sb:=ZW Y.heap S (Z9 λ_=>#[v,B]);obtain⟨c2,a5⟩:∃c2,(Y.heap.update S (Z9 λ_=>#[v,B])).get? S=some (seqObj "list" #[v,B] c2):=⟨_,get?_update_seq n λ_=>#[v,B]⟩;refine Vzw ?_;refine wpAny_updateSeq n rfl (Vzw (wpAny_letGo ?_));rw[wD];exact Vzv ⟨plainId_quiet WV _,ih (j+1) x kv H2 _ v B c2 E m (U.dJ (t':=Y.toks) (wr:=[S]) (λc a=>by rwa [show c=S by simpa using a]) λc o a e=>(sb.2 c (by simpa using a)).trans e) N O a5 ⟨oI,(sb.2 I t.symm).trans M,cI,dI⟩ ru P q3⟩
  | false=>
   rw[hb',Yb8 (by decide)]at q3
   (simp only[Yh,if_false])
   refine Vzw (wpAny_letGo ?_);rw[wD];exact Vzv ⟨plainId_quiet WV _,ih (j+1) b kb H2 _ ub uk c E m U N O n ⟨oI,M,cI,dI⟩ rb rk q3⟩
def v5 (K:Vzz) (sp:Sp):V->Hp->VK->Prop:=λx H Q=>∃l xs,x = .ref l/\SqL K H l xs/\match xs with
 | []=>Q .non H
 | y::r=>sp [y] H (λk H'=>vp K sp l xs r y k H' Q) E0
theorem Fv {k:Nat}{Sa l:Yau}{y:V}{r:Qqt}{O:List (Str×Vzy)}{Q:VK} (C:wR X pins σ f sp) (hr:bB (k+1) X.A) (b:X.calm=true)
  (h:l≠a) (d:Sa≠a) (Y:∀v u H' s',Inv X pins σ H' s'->RelV v u->Q v H'->R (.ok (.ret u)) s') (D:Inv X pins σ H s) (U:cN X pins H a) (W:cN X pins H Sa) (M:s.heap.get? Sa=some (seqObj "list" #[] 0)) (gI:s.heap.IsListIter a l 0) (hq:SqL X.K H l (y::r)) (q:sp [y] H (λk H'=>vp X.K sp l (y::r) r y k H' Q) E0) :
  codeAny (model X.prog X.w) X.A (.builtin "min.loop" ⟨[.ref a,.ref f,.ref Sa],O⟩) R s:=by
 (have S:(toString "min" ++ toString ".loop" : String) = "min.loop" :=by decide)
 obtain⟨p,J,pl,_⟩:=D.list hq
 (refine codeAny_builtin PySem.F.entry_min_loop ?_)
 (rw[ZB WV _])
 (refine Vzw (wpAny_seqItems M rfl ?_))
 refine Vzw (wpAny_tryCatch ((Walks.list (prog:=X.prog) (w:=X.w) (A:=X.A.in1) (show X.A.in1.handled=none from D.ok.hd b) a l h p.toArray).item 0 _ _ _ (by rw[XO,<-J.length];exact Nat.succ_pos _) ⟨gI,pl.isList⟩ λv _ _ _ qY j=>?_));obtain⟨u,_,L⟩:=J.get (i:=0) rfl;have Z:v=u:=by
  simp_all
 subst Z;obtain⟨oI,eI,T,dI⟩:=qY.1;refine Vzw (wpAny_tryCatch (Vzs (vD C (oI:=oI) (oS:=seqObj "list" #[] 0) (λz q=>by lia) (λz q=>by cases q) (D.dJ (wr:=[a]) (λc b=>by simp_all) λc o b e=>j c o b e) U W eI (j Sa _ (by simpa using d) M) L q λP g H2 x I2 E G t m B q2=>?_)));have N:=ZW x.heap Sa (Z9 λ_=>#[v,g]);obtain⟨n,I⟩:∃n,(x.heap.update Sa (Z9 λ_=>#[v,g])).get? Sa=some (seqObj "list" #[v,g] n):=⟨_,get?_update_seq m λ_=>#[v,g]⟩;refine Vzw ?_;refine wpAny_updateSeq m rfl ?_;rw[S];exact Vzv ⟨plainId_quiet WV _,FA (Q:=Q) C hr b h d Y r 1 y P H2 _ v g n rfl (by simp) (I2.dJ (t':=x.toks) (wr:=[Sa]) (λc b=>by simp_all) λc o b e=>(N.2 c (by simpa using b)).trans e) E G I ⟨oI,(N.2 a d.symm).trans t,T,dI⟩ L B q2⟩
structure MU (X:Cx) (pins:List (Yau×Obj)) (σ:St) (H:Hp) (s:Vzx) (l:Yau) (h0:Heap) (Ia Sa:Yau):Prop where
 gI:h0.get? Ia=some { cls:=.type "list_iterator",data:=.fields #[.ref l,.int 0 0] }
 gS:h0.get? Sa=some (seqObj "list" #[] 0)
 keep:∀b o,s.heap.get? b=some o->h0.get? b=some o
 inv:Inv X pins σ H { s with heap:=h0 }
 fI:cN X pins H Ia
 fS:cN X pins H Sa
 ne:l≠Ia
 two:Sa≠Ia
theorem Jz {l:Yau} (I:Inv X pins σ H s) (h:l<s.heap.objs.size) :
  MU X pins σ H s l ((s.heap.push { cls:=.type "list_iterator",data:=.fields #[.ref l,.int 0 0] }).push (seqObj "list" #[] 0)) s.heap.objs.size (s.heap.push { cls:=.type "list_iterator",data:=.fields #[.ref l,.int 0 0] }).objs.size:=by
 have c:=λ(o:Obj) (b:Yau) (g:Obj) (e:s.heap.get? b=some g)=>Vzu o e;have first:=Z0 s.heap (o:={ cls:=.type "list_iterator",data:=.fields #[.ref l,.int 0 0] }) rfl
 have a:=size_push' s.heap { cls:=.type "list_iterator",data:=.fields #[.ref l,.int 0 0] };replace c:=c { cls:=.type "list_iterator",data:=.fields #[.ref l,.int 0 0] };generalize s.heap.push { cls:=.type "list_iterator",data:=.fields #[.ref l,.int 0 0] }=h1 at c first a
 have d:s.heap.objs.size<=h1.objs.size:=by lia
 have f:∀b o,s.heap.get? b=some o->(h1.push (seqObj "list" #[] 0)).get? b=some o:=λb o e=>Vzu _ (c b o e);exact{ gI:=Vzu _ first,gS:=Z0 _ rfl,keep:=f,inv:=I.kept (t':=s.toks) f,fI:=I.nG (XD _) (I.hok.fresh (XD _)),fS:=I.nG d (I.hok.fresh d),ne:=X3 h,two:=by lia}
theorem se {k:Nat}{x:V}{Q:VK} (C:wR X pins σ f sp) (O:bB (k+1) X.A) (b:X.calm=true) (g:Inv X pins σ H s) (J:RelV x u) (h:v5 X.K sp x H Q) :
  Yb1 (model X.prog X.w) X.A (call (.builtin "min") [u] [(WU "key",.ref f),(WU "default",.none)]) (EP X pins σ Q) X.xe s:=by
 (have D:(toString "min" ++ toString ".loop" : String) = "min.loop" :=by decide)
 obtain⟨l,M,rfl,z,q⟩:=h;cases J;obtain⟨d,L,n,_⟩:=g.list z;refine kmk_tree PySem.F.kind_min PySem.F.plain_min PySem.F.entry_min (Fl _ _ _) ?_;refine Vzw (wpAny_of_eq (show Builtin.Builtins.bindParams "min" ["key","default"] 0 ⟨[],[(WU "key",.ref f),(WU "default",.none)]⟩=pure [some (.ref f),some .none]from rfl) ?_);refine Vzw (Vzv ?_);refine Vzw (wpAny_pyIter_list n.isList ?_);refine Vzw (wpAny_newList ?_ (XT _):Yb1 _ _ _ _ _ _);rw[D];have two:=Jz (X:=X) (l:=l) g (by obtain⟨_,e,_⟩:=n.isList;exact Z1 e);generalize(s.heap.push { cls:=.type "list_iterator",data:=.fields #[.ref l,.int 0 0] }).push (seqObj "list" #[] 0)=h0 at two ⊢;generalize(s.heap.push { cls:=.type "list_iterator",data:=.fields #[.ref l,.int 0 0] }).objs.size=Sa at two ⊢;generalize s.heap.objs.size=Ia at two ⊢;obtain⟨B,v,i,t,E,G,a,p⟩:=two
 (refine Vzv ⟨plainId_quiet WV _,?_⟩)
 cases M with
 | nil=>
  (refine codeAny_builtin PySem.F.entry_min_loop ?_)
  (rw[ZB WV _])
  (refine Vzw (wpAny_seqItems v rfl ?_))
  refine Vzw (wpAny_tryCatch ((Walks.list (prog:=X.prog) (w:=X.w) (A:=X.A.in1) (show X.A.in1.handled=none from g.ok.hd b) Ia l a d.toArray).done _ _ _ ⟨⟨_,(by rw[B]),rfl,by rw[XO,<-L.length];rfl⟩,(n.isList.at λo e=>i l o e)⟩ λ_ m j=>?_))
  (refine Vzw (wpAny_rule (Vzv ?_)))
  exact⟨.non,H,(Inv.dJ (s:={ s with heap:=h0 }) (t':=m) (wr:=[Ia]) t (λc b=>by simp_all) λc o b e=>j c o b e),rfl,q⟩
 | cons y r=>
  exact Fv (Q:=Q) C O b a p (λR _ N _ I P S=>⟨R,N,I,P,S⟩) t E G v ⟨_,B,rfl,rfl⟩ z q
theorem G2 {k:Nat}{x:V}{Q:VK} (F:d6 X.prog X.w X.K X.mg X.base CX0 k f fd ps sp) (a:bB (k+1) X.A) (b:Binds X.K fd ps []) (d:X.calm=true) (c:Inv X pins σ H s) (e:RelV x u) (h:v5 X.K sp x H Q) :
  Yb1 (model X.prog X.w) X.A (call (.builtin "min") [u] [(WU "key",.ref f),(WU "default",.none)]) (EP X pins σ Q) X.xe s:=se (K3 F a b) a d c e h
def Ts (K:Vzz) (sp:Sp) (ta:TA):TE:=λσ H Q=>ta σ H λvs H1=>∃x,vs=[x]/\v5 K sp x H1 Q
end
theorem HE:bootBuiltins "min" = some (.builtin "min"):=by decide +kernel
theorem MP {k:Nat}{e:Expr}{ta:TA}{i:Nat}{p j pos c n a:Pos} (F:d6 X.prog X.w X.K X.mg X.base CX0 k f fd ps sp) (E:bB (k+1) X.A) (L:Binds X.K fd ps []) (z:X.calm=true)
  (t:Gl X "min") (G:X.mg "min" = none) (d:Gl X y) (g:X.mg y=some (.ref f)) (B:PA X [e] ta) (m:(y == ("__debug__" : Str))=false:=by decide)
  (v:backTo pos (Yb2 [e] X.env)=(false,eval e X.env)::backTo pos (Yb2 [] X.env):=by rfl) (r:(backTo pos (Yb2 [e] X.env)).any (·.1)=false:=by rfl)
  (J:(backToKw pos (keywordEach [⟨some "key",.Name y j,c⟩,⟨some "default",.Constant .none i n,a⟩] X.env)).all (·.1.isSome)=true:=by rfl) (l:(backToKw pos (keywordEach [⟨some "key",.Name y j,c⟩,⟨some "default",.Constant .none i n,a⟩] X.env)).any (·.1.isNone)=false:=by rfl) :
  PE X (.Call (.Name "min" p) [e] [⟨some "key",.Name y j,c⟩,⟨some "default",.Constant .none i n,a⟩] pos) (Ts X.K sp ta):=by
 intro b s D H Q I h;refine wpAny_Call_Name_kw (eN I t G HE ?_);refine callWith_kw (thn (B pos b s D H _ I h) λ_ _ ⟨_,_,o,M,N⟩=>?_) v r J l;obtain⟨x,rfl,q⟩:=N;obtain⟨u,rfl,C⟩:=M.one;refine kws_cons (jq o d g (kws_cons (Constant_none (kws_nil ?_))) m);exact G2 F E L z o C q
def fN:Yaz->Nat->Nat->Qqy->Nat
 | _,i,_,[]=>i
 | db,i,j,d::r=>if ltv d db=true then fN d j (j+1) r else fN db i (j+1) r
def cS:Qqy->Nat
 | []=>0
 | d::r=>fN d 0 1 r
theorem l8 {S:Yaz->Prop} (o:tM S):∀(r:Qqy) (all:Qqy) (db:Yaz) (i j:Nat),(∀d∈all,S d)->all.drop j=r->i<j->all[i]? = some db->(∀(m:Nat) (d:Yaz),m<j->all[m]? = some d->ltv d db=false)->(∀(m:Nat) (d:Yaz),m<i->all[m]? = some d->ltv db d=true) ->
  ∃d,all[fN db i j r]? = some d/\(∀(m:Nat) (e:Yaz),all[m]? = some e->ltv e d=false)/\∀(m:Nat) (e:Yaz),m<fN db i j r->all[m]? = some e->ltv d e=true
 | [],all,db,i,j,hS,hd,hij,f,h1,h2=>by
  exact⟨db,f,λm e a=>h1 m e (X9 (ba a) (Zf.mp hd)) a,h2⟩
 | d::r,all,db,i,j,hS,hd,hij,f,h1,h2=>by
  have h:j<all.length:=by
   grind [ZC,Y8]
  have n:=Yj h;rw[hd]at n;injection n with e1 e2;have b:all[j]? = some d:=by simp_all
  have g:=hS d (XB b);unfold fN;by_cases c:ltv d db=true
  ·rw[Yb7 c];have l:∀m e,m<j->all[m]? = some e->ltv d e=true:=λm e k a=>by
    rcases o.neg g (hS e (XB a)) (hS db (XB f)) c with z | z
    ·exact z
    ·grind
   refine l8 o r all d j (j+1) hS e2.symm (Zv _) b (λm e k a=>?_) l;rcases ZC m j with z | z
   ·exact o.asymm g (hS e (XB a)) (l m e z a)
   ·have:m=j:=by lia
    subst this;rw[b]at a;cases a;exact o.irr d g
  ·rw[Yb8 c];refine l8 o r all db i (j+1) hS e2.symm (Nat.lt_succ_of_lt hij) f (λm e k a=>?_) h2
   grind
theorem rB (o:tM S) {all:Qqy} (hS:∀d∈all,S d) (a:all≠[]) :
  ∃d,all[cS all]? = some d/\(∀(m:Nat) (e:Yaz),all[m]? = some e->ltv e d=false)/\∀(m:Nat) (e:Yaz),m<cS all->all[m]? = some e->ltv d e=true:=by
 cases all with
 | nil=>exact(a rfl).elim
 | cons d r=>
  refine l8 o r (d::r) d 0 1 hS rfl Nat.zero_lt_one rfl (λm e c b=>?_) (λm e c b=>absurd c (Nat.not_lt_zero _));have:m=0:=by lia
  subst this;cases b;exact o.irr d (hS d (XC ..))
theorem HN {Q:VK}{l:Yau} (o:tM S) (F:SqL K H0 l xs):∀(r:Qqt) (kr:Qqy) (i j:Nat) (b kb:V) (db:Yaz) (H:Hp),r.length=kr.length->ab H0 H->Den K H kb db->S db->(∀d∈kr,S d/\d.depth<=100)->xs.drop j=r->xs[i]? = some b ->
  (∀(m:Nat) (x:V) (d:Yaz) (H:Hp) (Q:VK),r[m]? = some x->kr[m]? = some d->ab H0 H->(∀k H',ab H H'->Den K H' k d->Q k H')->sp [x] H Q E0)->(∀H',ab H0 H'->Q (xs.getD (fN db i j kr) .non) H')->vp K sp l xs r b kb H Q:=by
 intro r
 induction r with
 | nil=>
  intro kr i j b kb db H p s B A hS h E a v;cases kr with
  | nil=>exact⟨s.seq F,by grind [fN,List.getD]⟩
  | cons d kr=>cases p
 | cons x r G=>
  intro kr i j b kb db H p s B A hS h E a v;cases kr with
  | nil=>cases p
  | cons d kr=>
   have n:j<xs.length:=by
    grind
   have D:=Yj n;rw[h]at D;injection D with e1 e2;have z:=hS d (XC ..);refine⟨s.seq F,a 0 x d H _ rfl rfl s λk H' u t=>⟨d,db,t,B.same u,o.cmp d db z.1 A,z.2,?_⟩⟩;have q:∀e∈kr,S e/\e.depth<=100:=λe I=>hS e (XF _ I);by_cases c:ltv d db=true
   ·rw[Yb7 c];refine G kr j (j+1) x k d H' (by simpa using p) (s.trans u) t z.1 q e2.symm (by rw[XJ n,e1]) (λm y e g C w f=>a (m+1) y e g C (by simpa using w) (by simpa using f)) λg f=>?_;have:=v g f;unfold fN at this
    rwa [Yb7 c]at this
   ·rw[Yb8 c];refine G kr i (j+1) b kb db H' (by simpa using p) (s.trans u) (B.same u) A q e2.symm E (λm y e g C w f=>a (m+1) y e g C (by simpa using w) (by simpa using f)) λg f=>?_;have:=v g f;unfold fN at this
    rwa [Yb8 c]at this
theorem wO {Q:VK}{l:Yau} (o:tM S) (f:SqL K H l xs) (c:xs.length=kds.length) (hS:∀d∈kds,S d/\d.depth<=100)
  (a:∀(m:Nat) (x:V) (d:Yaz) (H2:Hp) (Q:VK),xs[m]? = some x->kds[m]? = some d->ab H H2->(∀k H',ab H2 H'->Den K H' k d->Q k H')->sp [x] H2 Q E0) (i:xs=[]->Q .non H) (g:xs≠[]->∀H',ab H H'->Q (xs.getD (cS kds) .non) H'):v5 K sp (.ref l) H Q:=by
 refine⟨l,xs,rfl,f,?_⟩;cases xs with
 | nil=>exact i rfl
 | cons x r=>
  cases kds with
  | nil=>cases c
  | cons d p=>
   refine a 0 x d H _ rfl rfl (ab.refl _) λk H' j q=>?_;refine HN o f r p 0 1 x k d H' (by simpa using c) j q (hS d (XC ..)).1 (λe n=>hS e (XF _ n)) rfl rfl (λm y e H2 s h b=>a (m+1) y e H2 s (by simpa using h) (by simpa using b)) λH2 b=>?_;exact g (by lia) H2 b
end
def cZ (K:Vzz):Qqt->Hp->VK->Prop:=λxs H Q=>∃p ys,xs=[.ref p]/\(SqL K H p ys\/SqT K H p ys)/\Q (.int ys.length) H
theorem aS:fV X (.builtin "len") (cZ X.K):=yG
theorem dv:bootBuiltins "isinstance" = some (.builtin "isinstance"):=by decide +kernel
theorem HI:bootBuiltins "str" = some (.type "str"):=by decide +kernel
theorem nk:bootBuiltins "tuple" = some (.type "tuple"):=by decide +kernel
theorem CM {x y:V}{F:St->Hp->Prop} (c:SqT K H a [x,y]) (h:F ((σ.set 0 (some x)).set 1 (some y)) H) :
  oz K 2 (c5 (bf 0) (c5 (bf 1) oF)) (.ref a) σ H λσ2 H2=>MJ σ2 H2 λb H3=>if b=true then F σ2 H3 else G σ2 H3:=by
 refine⟨a,_,rfl,c,rfl,_,_,rfl,_,_,rfl,rfl,?_⟩;show(if true=true then F ((σ.set 0 (some x)).set 1 (some y)) H else G ((σ.set 0 (some x)).set 1 (some y)) H)
 rwa [Yb7 rfl]
theorem C9 {o e:Expr}{es:List Expr}{to:TE}{apos dR:Pos}{T id:String} (b:X.K=K) (pa:PlainAttrs T) (slot:Slot T name id) (a:typeOf (.builtin id)=pure (.type "method_descriptor")) (d:MtR X id r) (j:PE X o to) (f:PA X (e::es) t)
  (c:attributeBase o name X.env (eval o X.env)=eval o X.env:=by rfl)
  (g:((backTo dR (Yb2 (e::es) X.env)).all (λx=>!x.1) && (backToKw dR (keywordEach [] X.env)).all (λx=>x.1.isSome)
   && decide ((e::es).length+([]:List Keyword).length+(if ([]:List Keyword).isEmpty then 0 else 1)<30))=true:=by rfl)
  (k:(apos.endLine == dR.line)=true:=by rfl) (i:Yb2 (e::es) X.env=(false,eval e X.env)::Yb2 es X.env:=by rfl) (h:(backTo dR (Yb2 es X.env)).any (·.1)=false:=by rfl) :
  PE X (.Call (.Attribute o name apos) (e::es) [] dR) (tBM K T r to t):=by
 subst b;exact fc pa slot a d j f c g k i h
def Tf (sc osc:Scope):Scope:={ sc with names:=sc.names.map λ(n,k)=>if (k == .free && osc.kind == .function && osc.names.lookup n == some .cell)then(n,.cell)else(n,k) }
theorem qS {c:Cx}{d a:Scope}{b:Qqv}{s:Vzx}{H:Hp}{fp:Qqx} (osc:Scope) (h:MT d (Tf a osc) b N' n fi=true) (e:c.env.scope=osc:=by rfl):j3 (eO c a b s H fp) d N' n fi:=by
 subst e;exact bX (Tf a c.env.scope) b h rfl rfl
theorem SqT.Rq {b:Hp} (d:LL H0 b) (s:ab b H') (h:SqT K b a xs):SqT K (L2.lim H0 H') a xs:=by
 have c:∀o:HO,b a=some o->(∀zs,o ≠ .lst zs)->∀zs,H0 a≠some (.lst zs):=λo i f zs e=>by
  obtain⟨g,q⟩:=d a zs e;rw[i]at q;cases q;exact f g rfl
 rcases h with(h | ⟨o,h⟩) | h
 ·exact .inl (.inl (by rw[bh (c _ h λzs z=>by cases z)];exact s _ _ h))
 ·exact .inl (.inr ⟨o,by rw[bh (c _ h λzs z=>by cases z)];exact s _ _ h⟩)
 ·exact .inr h
section
open PySem.SeqAt
open PySem.AutoSeq1 (wpAny_loadPart')
open PySem.MeetsSeq PySem.MeetsSeq2 PySem.MeetsSeq3
end
section
open PySem.SeqAt
open PySem.MeetsSeq PySem.MeetsSeq2 PySem.MeetsSeq3
end
def zm (K:Vzz) (neg:Bool):R2:=λx y H Q=>∃(xs:Qqy) (d:Yaz),Den K H y (.list xs)/\Den K H x d/\d.depth<=100/\Q (.bl (if neg then !xs.any λe=>Z7 e d else xs.any λe=>Z7 e d)) H
theorem yn {k:Nat} (hr:bB k A) {a b:Nat} (h:b<=100):A.units+1+min a b<cLine:=by
 have h1:=hr.un;lia
theorem II {k:Nat} (i:bB k X.A):OpR X (compareOp .In) (zm X.K false):=by
 intro _ s _ H x y v u Q I e c h;obtain⟨_,d,b,a,f,q⟩:=h;obtain⟨_,j⟩:=I.reads b c;obtain⟨_,g⟩:=I.reads a e;exact SeqAt.in_list_reads j g (by simpa[PyData.canLay0]using b.lay) a.lay (yn i f) ⟨.bl _,H,I,rfl,q⟩
theorem k5 {k:Nat} (i:bB k X.A):OpR X (compareOp .NotIn) (zm X.K true):=by
 intro _ s _ H x y v u Q I e c h;obtain⟨_,d,b,a,f,q⟩:=h;obtain⟨_,j⟩:=I.reads b c;obtain⟨_,g⟩:=I.reads a e;exact SeqAt.notIn_list_reads j g (by simpa[PyData.canLay0]using b.lay) a.lay (yn i f) ⟨.bl _,H,I,rfl,q⟩
section
open PySem.MeetsSeq PySem.MeetsSeq2 PySem.MeetsSeq3
def qX (K:Vzz):R2:=λx y H Q=>∃l b xs zs,x = .ref l/\y = .ref b/\SqL K H l xs/\SqL K H b zs/\xs.length+zs.length<=Yb0/\∀p,H p=none->Q (.ref p) (upd H p (.lst (xs++zs)))
theorem kH:OpR X (binaryOp .Add) (qX X.K):=by
 intro _ s _ H x y v u Q I z o h;obtain⟨l,b,_,_,rfl,rfl,p,E,_,q⟩:=h;cases z;cases o;obtain⟨a,r,G,_⟩:=I.list p;obtain⟨c,k,j,_⟩:=I.list E;have J:=r.length;have L:=k.length;obtain⟨⟨_,t,_,C⟩,n,m,w,_,B⟩:=G;obtain⟨⟨_,g,_,e⟩,D,d,i,_,f⟩:=j;subst w B i f;have A:a.toArray++c.toArray=(a++c).toArray:=by simp
 refine concat_meets ⟨_,m,rfl⟩ ⟨_,d,rfl⟩ noFill_list_add seq_list_add PySem.F.slot_list_add PySem.F.entry_list_add (PySem.F.args_list_add_2 _ _) (list_addW l b a.toArray c.toArray n D t g C e (by simp;lia)) ⟨m,d,?_⟩;rw[A];exact⟨.ref _,_,I.WD (t':=s.toks) (r.append k) (by rw[XI];lia),rfl,q _ I.fresh⟩
end
section
variable {s:Vzx}
end
section
variable {tg2 WN:Expr}{Xa:List Expr}
end
section
open PySem.W
section
variable {s:Vzx}
end
end
section
variable {fs:Qqx}{g:Heap}{e:Yau}{tb fl:Vzy}
end
section
variable {s:Vzx}{g:Heap}{e:Yau}{tb:Vzy}{Q:Unit->Vzx->Prop}
end
section
variable {P:Yax}{g:Heap}{e:Yau}{o:HO}{tb:Vzy}{fs:Qqx}
end
section
variable {E:XK}{np:Pos}{a:Expr}{ta:TA}{bmB:Qqz}
end
section
variable {s:Vzx}
end
section
variable {CX:CXT}{k:Nat}{E:St->XK}{p:Pos}{e:Expr}{es:List Expr}
end
def mroIn (K:Vzz) (C D:Yau):Bool:=match K.lookup C with
 | some ⟨_,_,.cls cd,_⟩=>cd.mro.contains (.ref D)
 | _=>false
section
variable {n:Str}{ts:Yau->Yau->TS}
end
def NI (A:Yaw) (h:Heap) (ea:Yau):Prop:=A.handled=some (.ref ea)/\∃oe vs,h.get? ea=some oe/\oe.data = .fields vs/\vs[2]? = some Value.none
theorem JH {M:Model}{A:Yaw}{E:Vzy->Vzx->Prop}{s:Vzx}{Q:Vzy->Vzx->Prop}
  (h:∀h' e us,(∀b o,s.heap.get? b=some o->h'.get? b=some o)->s.heap.get? e=none->h'.get? e=some { cls:=.type "StopIteration",data:=.fields us }->2<us.size->Q (.ref e) { s with heap:=h' }):Yb1 M A (newExc (.type "StopIteration") []) Q E s:=by
 refine Vzw (wpAny_newObj_type ?_ (by size_fits));refine Vzw (m:=firstArgMember _ _) (wpAny_of_eq (a:=Value.none) (by first | rfl | (simp only[firstArgMember];rfl)) ?_)
 refine wpAny_newObj_type (h _ _ _ (λb o q=>Vzu _ (Vzu _ q)) (Heap.get?_none_of_le (by simp)) (Z0 _ rfl) (by simp[ownMembersOf])) (by size_fits)
section
variable {s:Vzx}
end
def Hd (X:Cx) (ea:Yau):Prop:=∀pins σ H s,Inv X pins σ H s->NI X.A s.heap ea/\H ea=none
structure WT (ea:Yau) (P:Yax) (w:Yay) (K:Vzz) (tg:Expr) (J:It) (fp:Qqx) (it:Yau) (tn:Nat->Heap->Prop):Prop where
 mem:it∈fp
 obj:∀i h,tn i h->∀b∈fp,∃o,h.get? b=some o/\∀v,o.data ≠ .cell v
 keep:∀i h h',tn i h->(∀b∈fp,∀o,h.get? b=some o->h'.get? b=some o)->tn i h'
 item:∀(X:Cx),X.prog=P->X.w=w->X.K=K->Hd X ea->∀(i:Nat) (pins:List (Yau×Obj)) (s:Vzx) (σ:St) (H:Hp) (E:Vzy->Vzx->Prop),Inv X pins σ H s->(∀b∈fp,cN X pins H b)->tn i s.heap->J.go i H ->
  Yb1 (model P w) X.A (pyNext (.ref it)) (λr s1=>∃u,r=some u /\
   Yb1 (model P w) X.A (letOwnedTupleGo tg (.ref it) u) (λ_ s2=>∃x H',Inv X pins σ H' s2/\RelV x u/\J.yld i H x H'/\tn (i+1) s2.heap/\∀b∈fp,H' b=none) E s1) E s
 done:∀(X:Cx),X.prog=P->X.w=w->X.K=K->Hd X ea->∀(i:Nat) (pins:List (Yau×Obj)) (s:Vzx) (σ:St) (H:Hp) (E:Vzy->Vzx->Prop),Inv X pins σ H s->(∀b∈fp,cN X pins H b)->tn i s.heap->J.stop i H ->
  Yb1 (model P w) X.A (pyNext (.ref it)) (λr s1=>r=none/\Inv X pins σ H s1) E s
 self:∀(A:Yaw) (i:Nat) (s:Vzx) (Q:Vzy->Vzx->Prop) (E:Vzy->Vzx->Prop),tn i s.heap->Q (.ref it) s->Yb1 (model P w) A (pyIter (.ref it)) Q E s
structure Xm (K:Vzz) (C:Yau):Prop where
 ga:W1 K (.ref C) "__getattribute__" = some (some (.builtin "BaseException.__getattribute__"))
 nh:W1 K (.ref C) "__getattr__" = some none
 fo:W.findObj K C none "__class__" = some (.bind (.builtin "getset_descriptor.__get__") (.builtin "object.__class__"))
 mo:W.mroIn K C (.type "object")=some true
 mb:W.mroIn K C (.type "BaseException")=some true
 is:(W.clsIn K C).isSome=true
section
variable {s:Vzx}{x:Yau}
end
section
variable {vs:Qqw}
def Vw (a:Yau):TE:=λ_ H Q=>Q (.ref a) H
theorem Kd {p:Pos} (c:Gl X x) (d:X.mg x=some (.ref a)) (b:(x == ("__debug__" : Str))=false:=by decide):PE X (.Name x p) (Vw a):=λ_ s _ H Q I h=>jq I c d ⟨.ref a,H,I,rfl,h⟩ b
end
section
variable {P:Yax}
end
structure RE (k:Nat) (A:Yaw):Prop where
 dp:A.depth+3 * k+5<recursionLimit
 un:A.units+16 * k+200<cLine
 gd:A.guards=some []
structure WQ (P:Yax) (w:Yay) (K:Vzz) (mg:Str->Option Vzy) (base:Heap) (CX:CXT) (k:Nat) (f:Yau) (fd:Yav) (ps:Qqv) (sp:Yau->Yau->Sp):Prop where
 len:∀ea C vs H Q E,sp ea C vs H Q E->vs.length=ps.length
 run:∀(ea C:Yau) (oe:Obj) (vv:Qqw) (A:Yaw) (outer:List Env) (s:Vzx) (H:Hp) (args:Args) (us:Qqz) (vs:Qqt) (Q:VK) (E:XK),RE k A->A.handled=some (.ref ea)->s.heap.get? ea=some oe->H ea=none->ea∉frs outer ->
  oe.cls = .ref C->oe.dict=none->oe.data = .fields vv->vv[2]? = some .none->uN P w K mg base A outer s H->BindsTo s fd args (ps.zip us)->aO vs us->sp ea C vs H Q E ->
  codeAny (model P w) A (.call (.ref f) args) (CR CX outer P w H s Q E) s
section
variable {P:Yax}
end
section
variable {k:Nat}{vv:Qqw}{sp:Yau->Yau->Sp}{p:Pos}{e:Expr}{es:List Expr}
end
section
variable {g:TG}{Q:VK}
end
section
open PySem.W
abbrev QB (X:Cx) (qual:Str) (scope:Scope) (q:Yau) (cd:Vzy) (L:Yau):Env:=envX qual scope L q cd (gM X.env.cells scope.names [])
def Eo (X:Cx) (N':Qqv) (qual:Str) (scope:Scope) (q:Yau) (cd:Vzy) (s:Vzx) (H:Hp):Cx where
 prog:=X.prog
 w:=X.w
 K:=X.K
 mg:=X.mg
 base:=X.base
 A:=X.A.in1.deeper (QB X qual scope q cd s.heap.objs.size)
 N:=N'
 s₀:=s
 H₀:=H
 env:=QB X qual scope q cd s.heap.objs.size
 outer:=X.stack
 stack:=QB X qual scope q cd s.heap.objs.size::X.stack
 ex:=[]
 calm:=true
 fn:=λ_=>false
 pn:=[]
 xe:=λ_ _=>False
structure w9 (X:Cx) (scope:Scope) (N':Qqv) (y:Str) (fi:List Nat):Prop where
 kind:scope.kind = .function
 co:scope.isCoroutine=false
 gen:scope.isGenerator=false
 Hv:∀x∈scope.names,x.2 ≠ .cell
 par:scope.names.lookup y=some .local
 free:∀z∈scope.names,z.2 = .free->X.env.kindOf z.1=some .cell\/X.env.kindOf z.1=some .free
 hd:N'[0]? = some y
 len:N'.length=fi.length+1
 at':∀(j:Nat) (k:Nat),fi[j]? = some k->∃x,N'[j+1]? = some x/\X.N[k]? = some x/\scope.names.lookup x=some .free
def ML (v:V) (fi:List Nat) (σ:St):St:=some v::fi.map λk=>(σ[k]?).join
theorem jY {x:Str}:∀{l:List (Str×NameKind)},l.lookup x=some .free->(x,NameKind.free)∈l
 | [],e=>by cases e
 | (n',q)::r,e=>by
  rw[ZL]at e;cases hb:x == n' with
  | true=>rw[hb]at e;cases e;rw[beq_iff_eq.mp hb];exact XC
  | false=>rw[hb]at e;exact XF _ (jY e)
section
variable {s:Vzx}{q:Yau}{tk:Tok}
theorem M8 (I:Inv X pins σ H s) (P:X.calm=true) (S:w9 X scope N' y fi) (R:RelV v u) (D:h'.Ns s.heap.objs.size (λx=>[(y,u)].reverse.lookup x)) (B:∀b o,s.heap.get? b=some o->h'.get? b=some o) :
  Inv (Eo X N' qual scope q cd s H) [] (ML v fi σ) H { s with heap:=h',toks:=tk }:=by
 have g:=I.CI.in1;have sub:∀{x:Str}{c:Yau},(gM X.env.cells scope.names []).lookup x=some c->X.env.cells.lookup x=some c:=λ{x c} h=>nK _ _ (λ_ _ z=>by cases z) h;have m:∀{x:Str},(x,NameKind.free)∈scope.names->∃d,(gM X.env.cells scope.names []).lookup x=some d:=λ{x} n=>mG _ _ (.inr ⟨n,I.ok.has _ (S.free _ n rfl)⟩);have l:∀b:Yau,b∉(Eo X N' qual scope q cd s H).ex:=λb z=>absurd (show b∈([]:Qqx)from z) (by simp);refine⟨⟨g.mod,S.kind,rfl,rfl,XD _,λx z c r t=>?_,λx e=>?_,λx c e _=>?_,λ_=>I.ok.hd P,Around.frames_deeper g.frames,.inr ⟨rfl,rfl⟩,λb z=>absurd z (l b),g.bs,g.bsz,λb _ _=>l b,λb z=>absurd z (l b),g.nO,g.frf⟩,
  rfl,g.bare,Un.kept B,⟨_,D,λi x w r t _=>?_⟩,λx c h=>?_,g.hok.fresh (XD _),λx c h=>?_,λp V=>absurd (show p∈([]:List (Yau×Obj))from V) (by simp),g.hok.kept B,?_⟩
 ·exact I.ok.inj x z c (sub r) (sub t)
 ·have e:=e;rcases e with e | e
  ·exact absurd rfl (S.Hv _ (WH e))
  ·exact m (jY e)
 ·have e:=e;cases e
 ·cases i with
  | zero=>
   have f:N'[0]? = some x:=r;rw[S.hd]at f;cases f;cases t;exact⟨u,R,.inl ⟨S.par,by simp⟩⟩
  | succ j=>
   have a:(fi.map λk=>(σ[k]?).join)[j]? = some (some w):=t;rw[XM]at a;cases ek:fi[j]? with
   | none=>rw[ek]at a;cases a
   | some k=>
    rw[ek]at a;have A:(σ[k]?).join=some w:=Uf a;have E:σ[k]? = some (some w):=by
     cases z:σ[k]? with
     | none=>rw[z]at A;cases A
     | some _=>rw[z]at A;exact congrArg some A
    obtain⟨_,M,N,G⟩:=S.at' j k ek;have f:N'[j+1]? = some x:=r;rw[M]at f;cases f;have n:=jY G;have O:=S.free _ n rfl;obtain⟨m0,_,C⟩:=I.loc;obtain⟨Q,T,U⟩:=C k x w N E (O.elim (λz=>.inr (.inl z)) λz=>.inr (.inr z));refine⟨Q,T,.inr ⟨.inr G,?_⟩⟩;rcases U with⟨_,_⟩ | ⟨_,c,J,K⟩
    ·lia
    ·obtain⟨d,F⟩:=m n;have:=sub F;rw[J]at this;cases this;exact⟨c,F,K.keeps B⟩
 ·obtain⟨z,L⟩:=I.cell x c (sub h);exact⟨z,L.keeps B⟩
 ·exact I.jw x c (sub h)
 ·show(ML v fi σ).length=N'.length;rw[S.len];simp[ML]
def pN (c:Yau) (qual:Str):HO:=.ext λh=>h.CodeRec (.ref c) qual
def JG (te:TE) (fi:List Nat) (σ:St) (c:Yau) (qual:Str):Sp:=λvs H Q _=>∃v,vs=[v]/\H c=some (pN c qual)/\te (ML v fi σ) H Q
theorem GY {k:Nat}{a:Arguments}{d:Expr}{t i:Vzy}{j:Yau} (C:X.calm=true) (G:bB (k+1) X.A) (S:w9 X scope N' y fi)
  (M:(q,kla_obj name qual a d scope (gM X.env.cells scope.names []) t j i)∈pins)
  (K:∀w,bindArgs (kla_fn name qual a d scope (gM X.env.cells scope.names []) t (.ref j) i) ⟨[w],[]⟩=pure [(y,w)])
  (E:∀s H,PE (Eo X N' qual scope q (.ref j) s H) d te):wR X pins σ q (JG te fi σ j qual):=by
 intro g H s x u Q I D h;obtain⟨v,e,n,h⟩:=h;cases e;refine kla_callFunE G.in1.depth ((λp L=>(I.pin p (Yb _ (Ys _ L))).1) _ M) rfl S.co S.gen rfl (I.hok _ _ n).1 ?_;rw[K];refine Vzv (wpAny_newFunctionEnv S.Hv (λz B=>by rw[XR.mp B];exact S.par) (λf m r=>?_) S.kind);have c:∀b o,s.heap.get? b=some o->f.get? b=some o:=λb o e=>r.extBut b o (X3 (Z1 e)) (Vzu _ e);refine⟨I.nolimit.keeps c,?_⟩;refine kla_codeExpr (Vzt (E s H [] _ _ H Q (M8 (pins:=pins++g) (σ:=σ) I C S D m c) h) (λ_ _ z=>?_) λ_ _ z=>z.elim);obtain⟨w,F,J,l,qw⟩:=z;exact⟨w,F,J.os,J.bare,J.base,J.hok,l,qw⟩
theorem JV {P:Yax}{c:Yau} (x:h.CodeRec (.ref c) qual):bC P w H h c (pN c qual):=by
 refine⟨x,?_,λ_ _ a k=>?_⟩
 ·obtain⟨d,o,b,t,e,g,r⟩:=x;cases e;exact⟨o,g⟩
 ·obtain⟨d,o,b,t,e,g,r⟩:=a;cases e;exact⟨c,o,b,t,rfl,k _ g,r⟩
theorem Inv.grown {P c':Yau}{ps a:Qqw}{t':Tok} (I:Inv X pins σ H s) (h:H P=some (.tbl ps)) (f:Heap.ExtBut P s.heap h') (v:s.heap.objs.size<=c') (t:h'.get? P=some (tabObj (ps++a))) (y:h'.CodeRec (.ref c') qual) :
  Inv X pins σ (upd (upd H P (.tbl (ps++a))) c' (pN c' qual)) { s with heap:=h',toks:=t' }:=by
 have j:=I.hok.fresh v;have at_:∀b,b≠P->b≠c'->upd (upd H P (.tbl (ps++a))) c' (pN c' qual) b=H b:=λb k p=>by rw[ao p,ao k]
 have l:∀{b:Yau}{o:Obj},s.heap.get? b=some o->b≠c':=λ{b o} e z=>by
  have:=Z1 e;lia
 have g:∀{b:Yau},H b=none->b≠P:=λ{b} e z=>by lia
 refine I.step (g':=s.gens) (d':=s.drawn) (ch:=[]) (λb z=>absurd z (by simp)) (λb o _ _ _ e n=>f b o (g n) e) (λb o _ _ _ e n=>⟨o.slots,f b o (g n) e⟩) (λb o _ e n=>?_) (λb o _ e=>?_) (λb x e=>?_) (λb o u e=>?_) (λb _ e=>?_) (λm A=>?_) ?_ I.bare
 ·rwa [at_ b (g n) (l e)]
 ·by_cases d:b=P
  ·exact⟨_,by rwa [d]⟩
  ·exact⟨o,f b o d e⟩
 ·grind
 ·grind
 ·by_cases d:b=P
  ·subst d;rw[h]at e;cases e;exact⟨a,by rw[ao (aw h j),aa]⟩
  ·exact⟨#[],by grind⟩
 ·obtain⟨o,w,B,e,r⟩:=A;exact⟨o,w,B,f _ _ (Ya4 (aw h I.free)) e,r⟩
 ·intro b u e;by_cases d:b=c'
  ·subst d;rw[aa]at e;cases e;exact JV y
  ·rw[ao d]at e;by_cases i:b=P
   ·subst i;rw[aa]at e;cases e;exact t
   ·rw[ao i]at e;refine(I.hok b u e).uI (λc o _ q=>f c o ?_ q) (λc q=>?_) λc x q=>?_
    ·lia
    ·grind
    ·grind
end
def gW (P:Yau) (pos:Pos) (qual:Str) (H:Hp):Prop:=∃ps,H P=some (.tbl ps)/\TriplesOk ps.toList/\(codeAmong pos ps.toList=none\/∃c,codeAmong pos ps.toList=some (.ref c)/\H c=some (pN c qual))
def RK (K:Vzz) (P:Yau) (uX:Pos) (qual:Str) (te:TE) (fi:List Nat) (ta:TA):TE:=λσ H Q=>ta σ H λvs H1=>∃x,vs=[x]/\gW P uX qual H1 /\
 ∀c H2,(H2=H1\/∃ps,H1 P=some (.tbl ps)/\H1 c=none/\H2=upd (upd H1 P (.tbl (ps ++ #[rawInt uX.line,rawInt uX.col,.ref c]))) c (pN c qual))->gW P uX qual H2->H2 c=some (pN c qual)->v5 K (JG te fi σ c qual) x H2 Q
def VB (X:Cx):Prop:=∃bm o,X.mg "__builtins__" = some (.ref bm)/\bm≠builtinsNs/\bm≠mainGlobals/\X.K.lookup bm=some o/\o.cls = .type "module" /\ o.dict=some builtinsNs/\o.data = .plain
theorem mN {a b:Int}{c:Vzy}:∀{l:Qqz},TriplesOk l->TriplesOk (l++[.int a 0,.int b 0,c])
 | [],_=>trivial
 | .int _ _ :: .int _ _::_::r,h=>mN (l:=r) h
 | .int _ _ :: .int _ _::[],h=>h.elim
 | .int _ _::[],h=>h.elim
theorem MQ {k:Nat}{c P:Yau}{e:Expr}{ta:TA}{F:Nat}{p D pos U B l:Pos}{a:Arguments}{d:Expr} (hc:X.calm=true) (hr:bB (k+1) X.A) (S:w9 X scope N' y fi)
  (Oy:X.env.code = .ref c) (hC:∀h:Heap,X.K.In h->CodeHd h c P) (hB:VB X)
  (iG:∀q c' s H,PE (Eo X N' (X.env.qual ++ "<lambda>") scope q (.ref c') s H) d te)
  (hg:Gl X "min") (hm:X.mg "min" = none) (ha:PA X [e] ta)
  (hb:∀cl pm c' ctv w,bindArgs (kla_fn "<lambda>" (X.env.qual ++ "<lambda>") a d scope cl pm (.ref c') ctv) ⟨[w],[]⟩=pure [(y,w)]:=by intros;rfl) (UX:defaultsOf a X.env=([],[]):=by rfl)
  (he:backTo pos (Yb2 [e] X.env)=(false,eval e X.env)::backTo pos (Yb2 [] X.env):=by rfl) (gP:(backTo pos (Yb2 [e] X.env)).any (·.1)=false:=by rfl)
  (gZ:(backToKw pos (keywordEach [⟨some "key",.Lambda a d scope D,U⟩,⟨some "default",.Constant .none F B,l⟩] X.env)).all (·.1.isSome)=true:=by rfl) (a0:(backToKw pos (keywordEach [⟨some "key",.Lambda a d scope D,U⟩,⟨some "default",.Constant .none F B,l⟩] X.env)).any (·.1.isNone)=false:=by rfl) :
  PE X (.Call (.Name "min" p) [e] [⟨some "key",.Lambda a d scope D,U⟩,⟨some "default",.Constant .none F B,l⟩] pos) (RK X.K P D (X.env.qual ++ "<lambda>") te fi ta):=by
 intro f s n H Q I h;refine wpAny_Call_Name_kw (eN I hg hm HE ?_);refine callWith_kw (thn (ha pos f s n H _ I h) λ_ m ⟨_,H1,g,r1,q1⟩=>?_) he gP gZ a0;obtain⟨x,rfl,la,q⟩:=q1;obtain⟨u,rfl,ru⟩:=r1.one;obtain⟨ps,R,V,a3⟩:=id la;have t:m.heap.get? P=some (tabObj ps):=g.hok P _ R;have L:closureFor scope X.env=pure (gM X.env.cells scope.names []):=rG λz Y E=>g.ok.has _ (S.free z Y E);have r:m.heap.Ns mainGlobals X.mg:=g.mod.glob.keeps g.bk;have gN:H1 mainGlobals=none:=by
  obtain⟨o,_,_,e',_⟩:=g.mod.glob;exact(g.bs _ _ e').2
 have W:mainGlobals≠P:=λz=>by lia
 have M:m.heap.BuiltinsAt X.mg P:=by
  obtain⟨bm,o,b1,b2,b3,b4,b5⟩:=hB;have C:=g.mod.kin bm o b4;have:=(g.bs _ _ C).2;exact⟨bm,o,b1,b2,b3,(λz=>by lia),(g.bs _ _ C).1,b5⟩
 have G:∀(c':Yau) (ctv:Vzy) (j:Heap) (i:Tok) (N:Hp),Inv X f n N { m with heap:=j,toks:=i }->v5 X.K (JG te fi n c' (X.env.qual ++ "<lambda>")) x N Q ->
   Yb1 (model X.prog X.w) X.A (evalAll ((backToKw pos (keywordEach [⟨some "default",.Constant .none F B,l⟩] X.env)).map (·.2))) (λZ O=>Yb1 (model X.prog X.w) X.A (call (.builtin "min") [u] (((backToKw pos (keywordEach [⟨some "key",.Lambda a d scope D,U⟩,⟨some "default",.Constant .none F B,l⟩] X.env)).filterMap (·.1)).zip (.ref j.objs.size::Z))) (EP X f n Q) X.xe O) X.xe
    { m with heap:=j.push (kla_obj "<lambda>" (X.env.qual ++ "<lambda>") a d scope (gM X.env.cells scope.names []) ((X.mg "__name__").getD .none) c' ctv),toks:=i }:=λc' ctv j i N T q2=>by
  refine kws_cons (Constant_none (kws_nil ?_));have I3:Inv X f n N { m with heap:=j.push (kla_obj "<lambda>" (X.env.qual ++ "<lambda>") a d scope (gM X.env.cells scope.names []) ((X.mg "__name__").getD .none) c' ctv),toks:=i }:=T.kept (s:={ m with heap:=j,toks:=i }) (t':=i) λb o e=>Vzu _ e;have I4:Inv X (f++[(j.objs.size,kla_obj "<lambda>" (X.env.qual ++ "<lambda>") a d scope (gM X.env.cells scope.names []) ((X.mg "__name__").getD .none) c' ctv)]) n N { m with heap:=j.push (kla_obj "<lambda>" (X.env.qual ++ "<lambda>") a d scope (gM X.env.cells scope.names []) ((X.mg "__name__").getD .none) c' ctv),toks:=i }:=I3.nZ λz Y=>by
   rcases XU.mp Y with w | w
   ·exact I3.pin z (Yb _ w)
   ·rw[XR.mp w];exact⟨Z0 _ rfl,(T.hok.fresh (XD _)),Y5 T.lt,T.RJ (XD _),λv z=>by cases z⟩
  exact thn (se (GY (k:=k) hc hr S (Yb _ (XR.mpr rfl)) (hb _ _ _ _) (iG _ _)) hr hc I4 ru q2) λv _ ⟨w,H',J,a4,qw⟩=>⟨w,H',J.gC,a4,qw⟩
 refine kws_cons (kla_eval UX ?_);rcases a3 with hnf | ⟨c',hf,a5⟩
 ·refine kla_makeFunction L g.ok.glob r Oy (hC _ g.kIn) t V hnf W M λc' ctv j i E h1 h2 h3 h4=>?_;have hn:H1 c' = none:=g.hok.fresh h1;refine G c' ctv j i _ (g.grown (t':=i) R E h1 h4 h3) (q c' _ (.inr ⟨ps,R,hn,rfl⟩) ⟨_,by rw[ao (aw R hn),aa],?_,.inr ⟨c',?_,aa⟩⟩ aa)
  ·rw[Yx];exact mN V
  ·rw[Yx];exact codeAmong_snoc _ V hnf
 ·refine kla_makeFunctionHit L g.ok.glob r Oy (hC _ g.kIn) t V hf M λctv j i E h1=>?_;exact G c' ctv j i _ (g.kept (t':=i) E) (q c' _ (.inl rfl) la a5)
def RB (sc osc:Scope) (N N':Qqv) (y:Str) (fi:List Nat):Bool:=
 decide (sc.kind = .function) && decide (sc.isCoroutine=false) && decide (sc.isGenerator=false) && decide (∀x∈sc.names,x.2 ≠ .cell) && decide (sc.names.lookup y=some .local)
 && decide (∀z∈sc.names,z.2 = .free->osc.names.lookup z.1=some .cell\/osc.names.lookup z.1=some .free)
 && decide (N'[0]? = some y) && decide (N'.length=fi.length+1)
 && (Z6 fi.length).all λj=>match fi[j]? with
  | some k=>match N'[j+1]? with
   | some x=>decide (N[k]? = some x) && decide (sc.names.lookup x=some .free)
   | none=>false
  | none=>false
theorem Qf {a:Scope} (osc:Scope) (N:Qqv) (h:RB a osc N N' y fi=true) (i:X.env.scope=osc:=by rfl) (l:X.N=N:=by rfl):w9 X a N' y fi:=by
 subst i l;simp only[RB,Yd,decide_eq_true_eq]at h;obtain⟨⟨⟨⟨⟨⟨⟨⟨e,f⟩,n⟩,g⟩,b⟩,d⟩,m⟩,c⟩,_⟩:=h;refine⟨e,f,n,g,b,d,m,c,λj k _=>?_⟩
 grind
structure PV (K:Vzz) (mg:Str->Option Vzy) (fd:Yav) (c P:Yau):Prop where
 code:fd.code = .ref c
 hd:∀h:Heap,K.In h->CodeHd h c P
 bm:∃bm o,mg "__builtins__" = some (.ref bm)/\bm≠builtinsNs/\bm≠mainGlobals/\K.lookup bm=some o/\o.cls = .type "module" /\ o.dict=some builtinsNs/\o.data = .plain
structure NO (K:Vzz) (x qual:Str) (st:Stmt) (f:Yau) (fd:Yav):Prop where
 ex:∃(oc:Vzy) (od:Option Yau) (dV kV doc pm:Vzy) (an:Option Yau) (cdv ct:Vzy) (osl:Array (Option Vzy)),
  fd=Ya1 x qual (cR st) (b6 st) (ae st) dV kV doc pm an cdv ct/\K.lookup f=some ⟨oc,od,.func fd,osl⟩/\Yae K cdv qual=true
 kp:Ya5 K (.ref f)=true
structure xQ (K:Vzz) (mg:Str->Option Vzy) (x:Str) (st:Stmt) (ps:Qqv) (f:Yau) (fd:Yav):Prop where
 fn:NO K x x st f fd
 bd:Binds K fd ps []
 mg:mg x=some (.ref f)
section
variable {P:Yax}
theorem Fun.okC {st:Stmt}{c:Yau}{k:Nat} (F:Fun K x qual st f fd) (e:fd.code = .ref c) (S:ax N ps (ae st)) (g:∀vs H Q E,sp vs H Q E->vs.length=ps.length)
  (j:∀(A:Yaw) (outer:List Env) (s:Vzx) (H:Hp) (vs:Qqt) (Q:VK) (E:XK),bB k (A.deeper (envOfC qual (ae st) s.heap.objs.size f (.ref c)))->sp vs H Q E ->
   ∃t,PSs (yN CX0 P w K mg base N qual (ae st) f (.ref c) A outer s H E).nox (b6 st) t/\t { nx:=λ_ H'=>Q .non H',rt:=Q } (start N vs) H):d6 P w K mg base CX0 (k+1) f fd ps sp:=by
 obtain⟨_,_,kV,_,_,_,d,_,_,rfl,i,a⟩:=F.ex;obtain rfl:d = .ref c:=e;refine HQ i a S g λA outer s H vs Q E l b=>?_;obtain⟨t,h,q⟩:=j A outer s H vs Q E l b;exact⟨t,h.nox,q⟩
theorem NO.ok {st:Stmt}{k:Nat} (F:NO K x qual st f fd) (S:ax N ps (ae st)) (c:∀vs H Q E,sp vs H Q E->vs.length=ps.length)
  (e:∀(cdv:Vzy) (A:Yaw) (outer:List Env) (s:Vzx) (H:Hp) (vs:Qqt) (Q:VK) (E:XK),bB k (A.deeper (envOfC qual (ae st) s.heap.objs.size f cdv))->sp vs H Q E ->
   ∃t,PSs (yN CX0 P w K mg base N qual (ae st) f cdv A outer s H E).nox (b6 st) t/\t { nx:=λ_ H'=>Q .non H',rt:=Q } (start N vs) H):d6 P w K mg base CX0 (k+1) f fd ps sp:=by
 obtain⟨_,_,_,kV,_,_,_,cdv,_,_,rfl,d,a⟩:=F.ex;refine HQ d a S c λA outer s H vs Q E g b=>?_;obtain⟨t,h,q⟩:=e cdv A outer s H vs Q E g b;exact⟨t,h.nox,q⟩
end
end
end L2
namespace L2
open PySem
structure ff (K:Vzz) (x q:Str) (st:Stmt) (ps:Qqv) (f:Yau) (fd:Yav):Prop where
 fn:Fun K x q st f fd
 bd:Binds K fd ps []
structure Ct (K:Vzz) (x q:Str) (st:Stmt) (ps:Qqv) (f:Yau) (fd:Yav):Prop where
 fn:NO K x q st f fd
 bd:Binds K fd ps []
def tAt (C:Yau) (ta:TE) (f:Str):TE:=λσ H Q=>ta σ H λx H1=>∃a dx fs v,x = .ref a/\H1 a=some (.ins C dx fs)/\fs.lookup f=some v/\Q v H1
def sAt (C:Yau) (ta tv:TE) (f:Str):TS:=λD σ H=>tv σ H λy H1=>ta σ H1 λx H2=>∃a dx fs,x = .ref a/\H2 a=some (.ins C dx fs)/\fs.length<1000/\D.nx σ (upd H2 a (.ins C dx (lB f y fs)))
def Qd (C:Yau) (sp:Sp):R2:=λx y H Q=>∃a b dx fs dy gs,x = .ref a/\y = .ref b/\H a=some (.ins C dx fs)/\H b=some (.ins C dy gs)/\sp [.ref a,.ref b] H (λv H'=>∃t,v = .bl t/\Q (.bl t) H') E0
section
variable {k:Nat}{e o:Expr}{n:Str}
theorem aW (c:Cls X.K C) (f:cq X.K C n) (g:PE X e ta) (t:attributeBase e n X.env (eval e X.env)=eval e X.env:=by rfl):PE X (.Attribute e n pos) (tAt C ta n):=by
 intro b s p H Q I h;refine MS t (thn (g b s p H _ I h) λu _ ⟨x,d,m,j,a,_,_,v,i,k,l,q⟩=>?_);subst i;obtain rfl:u=Value.ref a:=j;exact Ca m k c f l λ_ _ r o=>⟨v,d,r,o,q⟩
theorem jz (c:Cls X.K C) (j:cq X.K C n) (w:PE X o ta) (r:PE X value tv) (A:swapsWith value (some (.Attribute o n pos')) pos.line X.env=pure false:=by rfl):PS X (.Assign [.Attribute o n pos'] value pos) (sAt C ta tv n):=by
 intro b s d H D I h;refine plainObj_wpAny_Assign_Attribute (thn (r b s d H _ I h) λu i ⟨y,e,z,f,q⟩=>thn (w b i d e _ z q) λg _ ⟨x,_,B,p,a,_,_,m,t,l,v⟩=>?_) A;subst m;obtain rfl:g=Value.ref a:=p;exact B6 B t c j l f λ_ k=>⟨d,_,k,v⟩
theorem HH (g:ix X.K C "__eq__" f) (F:d6 X.prog X.w X.K X.mg X.base CX0 k f fd ["self","other"] sp) (d:bB k X.A) (L:Binds X.K fd ["self","other"] []):OpR X (compareOp .Eq) (Qd C sp):=by
 rintro _ s _ H x y v u Q I p i ⟨a,b,_,_,_,_,rfl,rfl,q,l,h⟩;obtain rfl:v=Value.ref a:=p;obtain rfl:u=Value.ref b:=i;obtain⟨m,G⟩:=I.fr;obtain⟨_,O,_⟩:=ie I.hok q;obtain⟨_,J,_⟩:=O.look;obtain⟨mB,o,_⟩:=ie I.hok l;obtain⟨_,j,_⟩:=o.look;refine W.cmp_ofEq (W.cmp_K (by have:=d.un;lia) G I.ok.mod.kin J j.type (by unfold Yad;rw[beq_self_eq_true];rfl) g.at_ g.fn ?_);refine wpAny_call (codeAny_mono (F.run X.A X.stack s H ⟨[.ref a,.ref b],[]⟩ [.ref a,.ref b] [.ref a,.ref b] _ E0 d I.CI (by have:=L s [.ref a,.ref b] I.kIn rfl;simpa using this) (.cons rfl (.cons rfl .nil)) h) λr _ c=>?_);cases r with
 | error e=>exact False.elim c
 | ok E=>
  cases E with
  | ret u=>
   obtain⟨v,D,n,z,t,B,q3⟩:=I.after c;subst B;obtain rfl:u=Value.bool t:=z;exact⟨.bl t,D,n,rfl,q3⟩
  | next=>exact False.elim c
  | brk=>exact False.elim c
  | cont=>exact False.elim c
def KU (K:Vzz):Qqt->Hp->VK->Prop:=λvs H Q=>∃x c t b,vs=[x,.ref c]/\jI K H x t/\W.kitOne K t (.ref c)=some b/\Q (.bl b) H
theorem wU:fV X (.builtin "isinstance") (KU X.K):=by
 intro _ s _ H _ _ Q I a h;obtain⟨x,c,t,b,rfl,i,e,q⟩:=h;obtain⟨u,f,rfl,g,d⟩:=vals2 a;obtain rfl:f = Value.ref c:=d;exact vw I g i e λ_=>⟨.bl b,H,I.tok _,rfl,q⟩
end
structure ME (K:Vzz) (C:Yau):Prop where
 ha:W1 K (.ref C) "__class__" = some (some (.builtin "object.__class__"))
 hn:W.specialIn K (.builtin "object.__class__") "__get__" = some (some (.builtin "getset_descriptor.__get__"))
 htk:W.takesIn K (.builtin "object.__class__")=some true
 hm:W.mroIn K C (.type "object")=some true
 self:W.kitOne K (.ref C) (.ref C)=some true
theorem ME.ty {fs:List (Str×V)} (c:ME K C) (cl:Cls K C) (e:H a=some (.ins C dx fs)):jI K H (.ref a) (.ref C):=.ins e cl c.ha c.hn c.htk c.hm
section
variable {k:Nat}{st:Stmt}{p:Pos}{e a b:Expr}{es:List Expr}{tb:TE}
theorem aY (D:bj X.K X.mg x st ps f fd) (F:d6 X.prog X.w X.K X.mg X.base CX0 j f fd ps sp) (i:bB k X.A) (h:PA X (e::es) t) (c:j<=k:=by decide) (d:Gl X x:=by rfl) (a:(x == ("__debug__" : Str))=false:=by decide)
  (g:Yb2 (e::es) X.env=(false,eval e X.env)::Yb2 es X.env:=by rfl) (b:(backTo pos (Yb2 es X.env)).any (·.1)=false:=by rfl):PE X (.Call (.Name x p) (e::es) [] pos) (Ly sp [] E0 t):=
 e9 (F.mono c) i d D.mg D.fn.kp D.bd .nil bu h a g b
theorem Oo (D:xQ X.K X.mg x st ps f fd) (F:d6 X.prog X.w X.K X.mg X.base CX0 j f fd ps sp) (i:bB k X.A) (h:PA X (e::es) t) (c:j<=k:=by decide) (d:Gl X x:=by rfl) (a:(x == ("__debug__" : Str))=false:=by decide)
  (g:Yb2 (e::es) X.env=(false,eval e X.env)::Yb2 es X.env:=by rfl) (b:(backTo pos (Yb2 es X.env)).any (·.1)=false:=by rfl):PE X (.Call (.Name x p) (e::es) [] pos) (Ly sp [] E0 t):=
 e9 (F.mono c) i d D.mg D.fn.kp D.bd .nil bu h a g b
theorem pn (i:Nat) (a:X.N.Nodup) (hi:X.N[i]? = some x:=by rfl) (hx:Loc X.env.scope x:=by exact Or.inl rfl) (b:X.fn x=true\/X.env.scope.names.lookup x=some .local:=by first | exact .inl rfl | exact .inr rfl | assumption):PG X (.Name x pos) (bf i):=aM a hi hx b
theorem iT (K:Vzz) (ha:PE X a ta) (hb:PE X b tb) (h:X.K=K:=by rfl) (hs:xn b:=by exactλ_ _=>rfl):PE X (.Subscript a b pos) (tOp (RH K) ta tb):=by
 subst h;exact IK Pj ha hb hs
theorem fj (K:Vzz) (ha:PE X a ta) (hb:PE X b tb) (h:X.K=K:=by rfl) (hs:xn b:=by exactλ_ _=>rfl):PE X (.Subscript a b pos) (tOp (S0 K) ta tb):=by
 subst h;exact IK Ml ha hb hs
theorem pa1 (ha:PE X e te) (hs:Yb2 (e::[]) X.env=(false,eval e X.env)::Yb2 [] X.env:=by rfl):PA X [e] (Ow te Kv):=ag ha dG hs
theorem iF {op:CmpOp}{r:R2} (ho:OpR X (compareOp op) r) (ha:PE X a ta) (hb:PE X b tb) (hm:behindInMarks op b=false:=by exact JY _):PE X (.Compare a [op] [b] pos) (tOp r ta tb):=qM ho ha hb hm
theorem bp {op:CmpOp}{r:R2} (ho:OpR X (compareOp op) r) (ha:PE X a ta) (hb:PE X b tb) (hm:behindInMarks op b=false:=by exact JY _):PT X (.Compare a [op] [b] pos) (ud (tOp r ta tb)):=ju ho ha hb hm
theorem pcm {b:Pos} (N':Qqv) (fi:List Nat) (osc:Scope) (N:Qqv) (a:PI X (.Name x b) iter wi) (d:∀s H fp,PE (eO X scope N' s H fp) elt te)
  (h:MT scope osc N N' 1 fi=true:=by decide +kernel) (g:X.env.scope=osc:=by rfl) (i:X.N=N:=by rfl) (j:X.calm=true:=by rfl) (c:N'.Nodup:=by decide +kernel)
  (hi:N'[0]? = some x:=by rfl) (hx:∀s H fp,Loc (eO X scope N' s H fp).env.scope x:=by exactλ_ _ _=>Or.inl rfl) (e:∀s H fp,(eO X scope N' s H fp).env.scope.names.lookup x=some .local:=by exactλ_ _ _=>rfl) (f:∀x,foldedSetIterable iter X.env x=pure x:=by intro _;rfl) :
  PE X (.ListComp elt [⟨.Name x b,iter,[],0⟩] scope pos) (vR wi (bf 0) MJ te 1 fi):=
 cm j (bX osc N h g i) a (λs H fp=>aM c hi (hx s H fp) (.inr (e s H fp))) (λs H fp=>cy) d f
end
def Q7 (N P:Qqv) (sc:Scope):Bool:=sc.kind == .function && !sc.isCoroutine && !sc.isGenerator && decide N.Nodup && decide (N.take P.length=P) && P.all (λx=>decide (sc.names.lookup x=some .local\/sc.names.lookup x=some .cell)) && sc.names.all (λy=>decide (y.2 ≠ .free))
theorem fsc {P:Qqv}{sc:Scope} (h:Q7 N P sc=true:=by decide +kernel):ax N P sc:=by
 simp only[Q7,Yd,decide_eq_true_eq,Ye,Bool.not_eq_true',beq_iff_eq]at h;obtain⟨⟨⟨⟨⟨⟨c,d⟩,g⟩,e⟩,a⟩,b⟩,f⟩:=h;exact⟨c,d,g,e,a,b,f⟩
section
variable {q:Str}{st:Stmt}
abbrev Okd (_:bj K mg x st ps f fd) (P:Yax) (w:Yay) (base:Heap) (k:Nat) (sp:Sp):Prop:=d6 P w K mg base CX0 k f fd ps sp
abbrev VP (_:xQ K mg x st ps f fd) (P:Yax) (w:Yay) (base:Heap) (k:Nat) (sp:Sp):Prop:=d6 P w K mg base CX0 k f fd ps sp
abbrev OkM (_:ff K x q st ps f fd) (mg:Str->Option Vzy) (P:Yax) (w:Yay) (base:Heap) (k:Nat) (sp:Sp):Prop:=d6 P w K mg base CX0 k f fd ps sp
abbrev OkN (_:Ct K x q st ps f fd) (mg:Str->Option Vzy) (P:Yax) (w:Yay) (base:Heap) (k:Nat) (sp:Sp):Prop:=d6 P w K mg base CX0 k f fd ps sp
end
section
open PySem.Spec PyProof.Rows PySem.W
theorem Rr {P:Yax}{k:Key} (h:(aQ P w).is k u=true):RelV (kV k) u:=by
 rcases cw (show rL k u=true from h)with⟨i,t,rfl,rfl⟩ | ⟨x,t,rfl,rfl⟩
 ·exact⟨t,rfl⟩
 ·exact⟨t,rfl⟩
section
variable {s:Vzx}
end
end
section
open PySem.Spec PyProof.Rows
def gB:Yaz->Str
 | .str x=>x
 | d=>d.shown
structure Ef (d:Yaz):Prop where
 NF:d.showable=true
 nod:d.hasDict=false
 dep:d.depth<=100
 len:(∀x,d ≠ .str x)->d.shown.length<=Yb0
def Bv (K:Vzz):Qqt->Hp->VK->Prop:=λvs H Q=>∃x d,vs=[x]/\Den K H x d/\Ef d/\Q (.str (gB d)) H
theorem k7:bootBuiltins "str" = some (.type "str"):=by decide +kernel
theorem gp {k:Nat} (m:bB k X.A):fV X (.type "str") (Bv X.K):=by
 intro g s v H _ _ Q I p h;obtain⟨x,d,rfl,l,c,q⟩:=h;obtain⟨u,rfl,f⟩:=vals1 p;have B:=m.un;have j:∀a d,Den X.K H (.ref a) d->(∀x,d ≠ .str x)->Ef d->Q (.str d.shown) H->Yb1 (model X.prog X.w) X.A (call (.type "str") [.ref a]) (EP X g v Q) X.xe s:=λa d l n c q=>by
  obtain⟨_,r⟩:=I.reads (u:=.ref a) l rfl;refine str_of_reads (h₀:=s.heap) r c.NF (λe=>by rw[c.nod]at e;cases e) m.gd (by have:=c.dep;lia) (λb o e=>e) (λ_ u y z=>?_) (c.len n);exact⟨.str d.shown,H,I.kept (t':=y) z,⟨u,rfl⟩,q⟩
 cases l with
 | non=>cases f;exact P.str_of_none ⟨.str "None",H,I.tok _,⟨_,rfl⟩,by simpa only[gB,PyData.shown]using q⟩
 | bl b=>cases f;exact P.str_of_bool ⟨.str (if b then "True" else "False" : Str),H,I.tok _,⟨_,rfl⟩,by simpa only[gB,PyData.shown]using q⟩
 | int i=>
  obtain⟨t,rfl⟩:=f;exact P.str_of_int (by simpa[PyData.showable]using c.NF) ⟨.str (toString i:String),H,I.tok _,⟨_,rfl⟩,by simpa only[gB,PyData.shown]using q⟩
 | str h=>
  obtain⟨t,rfl⟩:=f;exact P.str_of_str ⟨.str _,H,I,⟨_,rfl⟩,q⟩
 | lst h t=>
  cases f;exact j _ _ (.lst h t) (λ_ e=>by cases e) c q
 | tup h t=>
  cases f;exact j _ _ (.tup h t) (λ_ e=>by cases e) c q
structure PAj (X:Cx) (es:List Expr) (t:TA):Prop where
 go:PA X es t
structure PSj (X:Cx) (st:Stmt) (t:TS):Prop where
 go:PS X st t
structure Xc (X:Cx) (st:List Stmt) (t:TS):Prop where
 go:PSs X st t
theorem wc {x:V}:∀{xs:Qqt}{us:Qqz},aO xs us->xs.all gu=true->us.countP (eqU x)=xs.countP λy=>eqV y x
 | _,_,.nil,_=>rfl
 | y::xs,u::us,.cons r t,f=>by
  rw[ZK,Yd]at f;rw[Y3,Y3,B5 r f.1,wc t f.2]
def IF (K:Vzz):V->Qqt->Hp->VK->Prop:=λx vs H Q=>∃p xs y,x = .ref p/\vs=[y]/\SqL K H p xs/\gu y=true/\xs.all gu=true/\Q (.int (xs.countP λz=>eqV z y:Nat)) H
theorem IX:MtR X "list.count" (IF X.K):=by
 intro _ s _ H x _ v _ Q I f g h;obtain⟨p,_,y,rfl,rfl,m,t,b,q⟩:=h;cases f;obtain⟨u,rfl,l⟩:=g.one;obtain⟨a,r,d,_⟩:=I.list m;obtain⟨o,n,c,e,i,k⟩:=d;cases o;cases e;cases i;cases k;refine call_meets Yap ⟨_,c,rfl⟩ PySem.F.entry_list_count (PySem.F.args_list_count_2 _ _) (SeqAt.list_countAt p a.toArray n _ _ u (eqU y)) ⟨c,λw j=>iK l t r b w (by simpa using j),?_⟩;refine⟨.int _,H,I.tok _,⟨_,rfl⟩,?_⟩
 rwa [show a.toArray.toList=a from rfl,wc r b]
section
variable {s:Vzx}{k:Key}{x:V}{r:Vzy}
theorem J8 (I:Inv X pins σ H s) (e:H a=some (.dK kvs)) (i:RelV (kV k) u) (p:RelV x r) (t:kvs.length<Yb0)
  (h1:∀v,eu kvs k=some v->∀w' s',Inv X pins σ H s'->RelV v w'->Q w' s') (h2:eu kvs k=none->∀s',Inv X pins σ (upd H a (.dK (putK kvs k x))) s'->Q r s') :
  Yb1 (model X.prog X.w) A (call (.builtin "dict.setdefault") [.ref a,u,r]) Q E s:=by
 obtain⟨z,f,n,c,g⟩:=Rm I.hok e;have b:=c.val k;refine call_meetsIn PySem.F.slot_dict_setdefault g.typeIs PySem.F.entry_dict_setdefault (PySem.F.args_dict_setdefault_3 _ _ _) (kt_meets_setdefault (aQ X.prog X.w) a (ET i) f r)
  ⟨n,g,by rwa [<-c.length],λw' h=>?_,λl m d o=>?_⟩
 ·rw[h]at b;cases q:eu kvs k with
  | none=>rw[q]at b;exact absurd b (by simp[g6])
  | some v=>rw[q]at b;exact h1 v q _ _ (I.tok _) b
 ·rw[l]at b;cases q:eu kvs k with
  | some v=>rw[q]at b;exact absurd b (by simp[g6])
  | none=>
   have j:∃q,m.get? a=some q:=let ⟨q,_,_,hq,_⟩:=d;⟨q,hq⟩;exact h2 q _ (EU I (by rw[e];exact True.intro) o j (Hu (by grind [qe]) f (c.put k p) d))
end
def TN (td ty tx:TE):TE:=λσ H Q=>td σ H λx H1=>∃a,x = .ref a/\IsD H1 a/\ty σ H1 λy H2=>tx σ H2 λz H3=>∃kvs k,H3 a=some (.dK kvs)/\y=kV k/\kvs.length<Yb0 /\
 (∀v,eu kvs k=some v->Q v H3)/\(eu kvs k=none->Q z (upd H3 a (.dK (putK kvs k z))))
section
variable {o e f:Expr}{ty:TE}
theorem Nq (P:PE X o td) (B:PE X e ty) (D:PE X f tx) (m:M2 X o "setdefault" apos e f dR):PE X (.Call (.Attribute o "setdefault" apos) [e,f] [] dR) (TN td ty tx):=by
 intro b s i H Q I h;refine wpAny_Call_method m.base m.few m.line PySem.F.plainAttrs_dict PySem.F.slot_dict_setdefault PySem.F.type_dict_setdefault (thn (P b s i H _ I h) λu w ⟨x,n,l,J,a,G,d,V⟩=>?_);subst G;obtain rfl:u=Value.ref a:=J;obtain⟨O,C,_⟩:=IU l d;refine⟨O,C,?_⟩;rw[m.Jw];refine Calls.callWith_builtin rfl (Calls.evalArgs_plain (Ya2 (thn (B b w i n _ l V) λ_ r ⟨y,R,S,p,M⟩=>
  Ya2 (thn (D b r i R _ S M) λ_ _ ⟨z,K,A,j,_,k,N,T,E,q3,U⟩=>Yai ?_))))
 subst T;exact J8 A N p j E (λv L _ q g c=>⟨v,K,g,c,q3 v L⟩) λt q g=>⟨z,_,g,j,U t⟩
end
theorem KV.vals {vs:List (Key×Vzy)} (r:KV kvs vs):aO (kvs.map (·.2)) (vs.map (·.2)):=by
 induction r with
 | nil=>exact .nil
 | cons h _ ih=>exact .cons h.2 ih
def tLV (td:TE):TE:=λσ H Q=>td σ H λx H1=>∃a kvs,x = .ref a/\Rd H1 a (.dK kvs)/\∀p,H1 p=none->Q (.ref p) (upd H1 p (.lst (kvs.map (·.2))))
section
variable {p:Pos}{o:Expr}
theorem Hy (D:X.calm=true) (G:Gl X x) (S:X.mg x=none) (K:bootBuiltins x=some (.type "list")) (N:PE X o td)
  (C:x ≠ "__name__" :=by decide) (i:(x == ("__debug__" : Str))=false:=by decide) (E:attributeBase o "values" X.env (eval o X.env)=eval o X.env:=by rfl) (O:(apos.endLine == dR.line)=true:=by rfl)
  (l:Yb2 [Expr.Call (.Attribute o "values" apos) [] [] dR] X.env=(false,eval (Expr.Call (.Attribute o "values" apos) [] [] dR) X.env)::Yb2 [] X.env:=by rfl) :
  PE X (.Call (.Name x p) [.Call (.Attribute o "values" apos) [] [] dR] [] pos) (tLV td):=by
 intro b s P H Q I h;refine wpAny_Call_Name_kw (eN I G S K ?_ C i);refine W0 ?_ l rfl;rw[l];refine Ya2 (wpAny_Call_method0_late E O (thn (N b s P H _ I h) λu k ⟨y,_,e,A,a,kvs,T,d,B⟩=>?_));subst T;obtain rfl:u=Value.ref a:=A;obtain⟨M,J,_⟩:=IU e (.inl ⟨kvs,d⟩);obtain⟨z,L,n,c,g⟩:=As e.hok d;refine⟨"dict","dict.values",PySem.F.plainAttrs_dict,PySem.F.slot_dict_values,PySem.F.type_dict_values,M,J,Calls.callWith_builtin rfl (PySem.evalArgs_none ?_)⟩;refine call_meetsIn PySem.F.slot_dict_values g.typeIs PySem.F.entry_dict_values (PySem.F.args_dict_values_1 _) (meets_dict_values (aQ X.prog X.w) a L) ⟨⟨n,g⟩,Yai ?_⟩;obtain⟨ep,f⟩:=(g.push { cls:=.type "dict_values",data:=.fields #[.ref a] }).dictAt;have t:=e.kept (t':=k.toks) (h':=k.heap.push { cls:=.type "dict_values",data:=.fields #[.ref a] }) λ_ _ q=>Vzu _ q;have V:=c.length;refine W.kdl_call (W.kdl_values (knd:=aQ X.prog X.w) (kvs:=n) (ep:=ep)) (e.ok.hd D) ⟨⟨_,Z0 _ rfl,rfl,rfl⟩,f⟩ (by lia) λh' _ m R U hS r=>?_;refine⟨.ref _,_,t.laid (o:=.lst (kvs.map (·.2))) U (XD _) ⟨by rwa [XA],m.toList,R,by rw[(W.kdl_vals_eq m.toList (by rw[X6];exact r.1) λj v _=>r.2 j v (by simp_all))];exact c.vals,by assumption⟩,rfl,B _ (t.hok.fresh (XD _))⟩
end
section
open SetTable
def way (t:Yb3) (h:Int):Nat->Probe
 | 0=>t.probeStart h
 | n+1=>t.advance (way t h n)
end
section
open SetTable
variable {mask:Nat}
end
section
variable {P:Yax}{s:Vzx}
abbrev tK (P:Yax) (w:Yay):=tupleKind (aQ P w)
variable {x:Yau}{o:Obj}{t:Yb3}
def hK (P:Yax) (w:Yay) (k:Int×Str):Int:=(tK P w).hash [.inl k.1,.inr k.2]
end
def wk:Vzy->Str
 | .str x _=>x
 | _=>ZY
theorem L8 (t:Yb3) (es:Array (Int×Vzy)) (h:Int) (x:Vzy):(layNew t es h x).2.1.led=t.led:=by
 grind [layNew,SetTable.put,SetTable.orStandIn,SetTable.standIn]
theorem vB (t:Yb3) (es:Array (Int×Vzy)) (n:Nat):(relayAll t es n).2.1.led=t.led/\(t.plain=false->(relayAll t es n).2.1.plain=false):=by
 unfold relayAll
 split
 ·rename_i t' order e;simp only[SetTable.relaid,SetTable.laid]at e;have:t'.led=t.led/\t'.plain=t.plain:=by
   cases h:SetTable.layClean (SetTable.sizeAbove n - 1) (es.map (·.1))with
   | none=>rw[h]at e;cases e
   | some o=>
    grind
  dsimp only
  split
  ·lia
  ·exact⟨rfl,λ_=>rfl⟩
 ·exact⟨rfl,λ_=>rfl⟩
section
variable {P:Yax}
def lD (P:Yax) (w:Yay) (byT:Bool) (h:Heap) (a:Yau) (us:Qqv):Prop:=∃o es ep t,h.get? a=some o/\o.ExactSet/\o.data = .set es ep t/\ElemsOf (aQ P w) es.toList/\es.size<scanBound/\t.fits es.size=true/\t.led=(!byT)/\(us≠[]->t.plain=false)/\(∀e∈es.toList,∃x tk,e.2 = .str x tk)/\(es.toList.map λe=>wk e.2).Perm us
theorem lD.keep {us:Qqv} (x:lD P w byT h a us) (k:∀o,h.get? a=some o->h'.get? a=some o):lD P w byT h' a us:=by
 obtain⟨o,b,c,t,d,r⟩:=x;exact⟨o,b,c,t,k o d,r⟩
theorem Cb {byT:Bool} (c:h.get? a=some { cls:=.type "set",dict:=none,data:=.set #[] 0 (.fresh 0 0 (!byT)) }):lD P w byT h a []:=
 ⟨_,#[],0,_,c,⟨rfl,rfl,rfl⟩,rfl,(λe b=>by simp at b),by decide,by rfl,rfl,λz=>(z rfl).elim,(λe b=>by simp at b),by simp⟩
theorem je {o:Obj}{b:Array (Int×Vzy)}{t t':Yb3}{us:Qqv} (n:h.get? a=some o) (d:o.ExactSet) (f:o.data = .set es ep t)
  (c:ElemsOf (aQ P w) b.toList) (k:b.size<scanBound) (g:t'.fits b.size=true) (i:t'.led = !byT) (m:us≠[]->t'.plain=false) (l:∀e∈b.toList,∃x tk,e.2 = .str x tk) (j:(b.toList.map λe=>wk e.2).Perm us) :
  (h.update a (Obj.putSet b t')).get? a=some { o with data:=.set b (ep+1) t' }/\lD P w byT (h.update a (Obj.putSet b t')) a us:=by
 have q:=Heap.get?_update_self (Obj.putSet b t') n (by rw[putSet_of b t' f];rfl);rw[putSet_of b t' f]at q;exact⟨q,_,b,ep+1,t',q,d,rfl,c,k,g,i,m,l,j⟩
variable {s:Vzx}
theorem Hz {byT:Bool}{h:Heap}{a:Yau}{us:Qqv} (g:∀e∈es.toList,∃x tk,e.2 = .str x tk) (f:(es.toList.map λe=>wk e.2).Perm us):(∃e∈es.toList,(aQ P w).is (.inr x) e.2=true)↔x∈us:=by
 rw[<-f.mem_iff,XE];constructor
 ·rintro⟨e,c,b⟩;obtain⟨tk,d⟩:=Rr b;exact⟨e,c,by rw[d];rfl⟩
 ·rintro⟨e,c,b⟩;obtain⟨y,tk,d⟩:=g e c;rw[d]at b;have:y=x:=b
  grind [ic]
theorem JI {us:Qqv}{tk:Tok}{Q:Bool->Vzx->Prop} (hS:lD P w byT s.heap a us) (Tb:us.length+1<scanBound)
  (h:∀h' b,UV a s.heap h'->lD P w byT h' a (if x∈us then us else us++[x])->Q b { s with heap:=h' }) :
  Yb1 (model P w) A (setAddHashed a (.str x tk) ((aQ P w).hash (.inr x))) Q E s:=by
 obtain⟨o,D,_,t,G,p,F,u,hb,Y,hl,_,hs,W⟩:=id hS;have X:=ic P w x tk;have B:(Value.str x tk).scannable=true:=rfl;have hn:D.size=us.length:=by
  have:=W.length_eq
  simp_all
 refine Vzs ?_;refine Vzw (wpAny_setState_of G F Y ?_);dsimp only;rw[(byScan_of B hb u),Yb7 rfl];refine Vzw (Vzw (wpAny_rule (Vzw (wpAny_setScan_of X G F Y u ?_))));have WZ:=Hz (P:=P) (w:=w) (byT:=byT) (h:=s.heap) (a:=a) (x:=x) hs W;cases hr:List.findIdx? (λe=>(aQ P w).is (.inr x) e.2) D.toList with
 | some j=>
  obtain⟨_,_,_⟩:=List.findIdx?_eq_some_iff_getElem.mp hr;exact Vzv (Vzv (h s.heap false (Heap.SameBut.refl a s.heap) (by grind)))
 | none=>
  have U:x∉us:=λz=>by
   grind
  have y:∀(b:Bool) {s₁:Vzx}{Q':Unit->Vzx->Prop},Q' () s₁->Yb1 (model P w) A (match b with | true=>rule "set.scan.the-table-gave-way" | false=>pure ()) Q' E s₁:=
   λb _ _ q=>match b with
    | true=>wpAny_rule q
    | false=>Vzv q
  have H:=layNew_perm t D ((aQ P w).hash (.inr x)) (.str x tk);have V:=layNew_fits t D ((aQ P w).hash (.inr x)) (.str x tk);have T:=L8 t D ((aQ P w).hash (.inr x)) (.str x tk);generalize layNew t D ((aQ P w).hash (.inr x)) (.str x tk)=L at H V T ⊢;obtain⟨c,m,_,_⟩:=L;rw[ZJ]at H;have O:=(u.push X B).perm H;have n:∀e∈c.toList,∃x tk,e.2 = .str x tk:=λe N=>by
   grind
  have r:(c.toList.map λe=>wk e.2).Perm (us++[x]):=by
   refine(H.map _).trans ?_;rw[XH];exact W.append_right _
  have K:c.size<scanBound:=by rw[<-X6,H.length_eq,XI,X6];simpa using(hn ▸ Tb)
  refine Vzw (y _ ?_);have M:∀h',UV a s.heap h'->lD P w byT h' a (us++[x])->Q true { s with heap:=h' }:=λh' sb _=>h h' true sb (by rwa [Yb8 U]);have pk:plainKind (.str x tk)=false:=rfl;have S:({ m with plain:=false }:Yb3).fits c.size=true/\({ m with plain:=false }:Yb3).led=(!byT)/\({ m with plain:=false }:Yb3).plain=false:=⟨SetTable.fits_plain_off V,T.trans hl,rfl⟩;have R:m.plain=false->m.fits c.size=true/\m.led=(!byT)/\m.plain=false:=λz=>⟨V,T.trans hl,z⟩;cases hpl:m.plain
  ·have d:=R hpl;clear R S;rw[Yb8 (by decide)];refine Vzw (Vzv ?_);simp only[if_true];generalize m=t2 at d ⊢;obtain⟨k,v⟩:=je (P:=P) (w:=w) (us:=us++[x]) G p F O K d.1 d.2.1 (λ_=>d.2.2) n r;have f:=ZW s.heap a (Obj.putSet c t2);refine Vzw (wpAny_storeSet_of G F ?_ (fits_of_scanBound K));refine wpAny_ite_split (λ_=>?_) λ_=>Vzv (Vzv (M _ f v));obtain⟨g,I⟩:=And.intro (relayAll_perm t2 c (Yaf c.size)) (relayAll_fits t2 c (Yaf c.size));obtain⟨l,i⟩:=vB t2 c (Yaf c.size);generalize relayAll t2 c (Yaf c.size)=Z at g I l i ⊢;have J:Z.1.size<scanBound:=by
    have e:=g.length_eq
    simp_all
   obtain⟨_,C⟩:=je (P:=P) (w:=w) (us:=us++[x]) k p rfl (O.perm g) J I (l.trans d.2.1) (λ_=>i d.2.2) (λe N=>n e (g.mem_iff.mp N)) ((g.map _).trans r);refine Vzw (y _ (Vzw (wpAny_storeSet_of k rfl ?_ (fits_of_scanBound J))));exact Vzv (Vzv (M _ (f.trans (ZW _ a _)) C))
  ·have d:=S;clear R S;rw[Yb7 rfl,hashByValue_scannable 8 B];refine Vzw (Vzv ?_);simp only[pk,Yh,if_false];generalize({ m with plain:=false }:Yb3)=t2 at d ⊢;obtain⟨k,v⟩:=je (P:=P) (w:=w) (us:=us++[x]) G p F O K d.1 d.2.1 (λ_=>d.2.2) n r;have f:=ZW s.heap a (Obj.putSet c t2);refine Vzw (wpAny_storeSet_of G F ?_ (fits_of_scanBound K));refine wpAny_ite_split (λ_=>?_) λ_=>Vzv (Vzv (M _ f v));obtain⟨g,I⟩:=And.intro (relayAll_perm t2 c (Yaf c.size)) (relayAll_fits t2 c (Yaf c.size));obtain⟨l,i⟩:=vB t2 c (Yaf c.size);generalize relayAll t2 c (Yaf c.size)=Z at g I l i ⊢;have J:Z.1.size<scanBound:=by
    have e:=g.length_eq
    simp_all
   obtain⟨_,C⟩:=je (P:=P) (w:=w) (us:=us++[x]) k p rfl (O.perm g) J I (l.trans d.2.1) (λ_=>i d.2.2) (λe N=>n e (g.mem_iff.mp N)) ((g.map _).trans r);refine Vzw (y _ (Vzw (wpAny_storeSet_of k rfl ?_ (fits_of_scanBound J))));exact Vzv (Vzv (M _ (f.trans (ZW _ a _)) C))
def fg:Qqv->Qqv->Qqv
 | us,[]=>us
 | us,x::r=>fg (if x∈us then us else us++[x]) r
theorem EM:∀(zs us:Qqv),(fg us zs).length<=us.length+zs.length
 | [],us=>XD _
 | x::r,us=>by
  have:=EM r (if x∈us then us else us++[x]);unfold fg
  grind
theorem gm:∀(zs us:Qqv),us.Nodup->(fg us zs).Nodup
 | [],us,h=>h
 | y::r,us,h=>by
  refine gm r _ ?_
  grind
theorem FU {wr:Qqx}{G:Array GenState->Array GenState->Prop}{E:Nat->Vzy->Prop}{St:Nat->Vzx->Prop} (W:WalksS P w A.in1 I fp wr G n E St) (S:Yau) (g:S∉fp)
  (zs:Qqv) (hz:zs.length=n) (N:∀i v,E i v->∃x t,zs[i]? = some x/\v = .str x t) (D:n+1<scanBound) :
  ∀(r:Qqv) (i:Nat) (s:Vzx) (us:Qqv),r=zs.drop i->i<=n->us.length<=i->St i s->lD P w byT s.heap S us ->
   (∀s',Moved (S::wr) G s s'->lD P w byT s'.heap S (fg us r)->R (.ok (.ret .none)) s') ->
   codeAny (model P w) A (.builtin "set.update.loop" ⟨[.ref S,.ref I],[]⟩) R s:=by
 have d:=mt (W.sub S) g;have J:=λb (z:b∈wr)=>XF S z;intro r
 induction r with
 | nil=>
  intro i s us B O l a hS u;have y:i=n:=by
   have:=Zf.mp B.symm;lia
  subst y;refine codeAny_builtin PyProof.Rows.F.entry_set_update_loop ?_;rw[ZB Yab _];refine Vzw (m:=pyNext (.ref I)) (W.done s _ _ a λs' j=>?_);exact Vzv (u s' (j.mono J) (hS.keep λo e=>j.heap S _ d e))
 | cons x r Q=>
  intro i s us B O l a hS u;have q:i<zs.length:=by
   grind
  have f:zs[i]? = some x/\r=zs.drop (i+1):=by
   rw[Yj q]at B
   grind
  refine codeAny_builtin PyProof.Rows.F.entry_set_update_loop ?_;rw[ZB Yab _];refine Vzw (m:=pyNext (.ref I)) (W.item i s _ _ (by lia) a λv s' M T j=>?_);obtain⟨_,t,c,rfl⟩:=N i v M;rw[f.1]at c;cases c;refine Vzw (Vzs ?_);refine Vzs ?_;refine Vzw ((aQ P w).pyHash (k:=.inr x) (ic P w x t) ?_);refine JI (s:={ s' with toks:=s'.toks+1 }) (hS.keep λo e=>j.heap S _ d e) (by lia) λh' b H p=>?_;refine Vzv ⟨plainId_quiet Yab _,Q (i+1) _ _ f.2 (by lia) ?_ (W.frame _ s' _ _ T (YL _) λb D o e=>?_) p λC L K=>?_⟩
  ·grind
  ·rw[H.2 b (λh:b=S=>g (by rwa [<-h]))];exact e
  ·have first:=j.mono J
   exact u C (Moved.trans W.gtrans (first.then_heap (YL s'.toks) (h':=h') λb o D e=>(H.2 b λz=>D (z ▸ XC)).trans e) L) K
def jo (w:Yay):Bool:=w.params.followText "set-order"
def FR (w:Yay):Obj:={ cls:=.type "set",dict:=none,data:=.set #[] 0 (.fresh 0 0 (!jo w)) }
theorem MD (a:Vzy) {Q₁:Vzy->Vzx->Prop} (h:Q₁ (.ref s.heap.objs.size) { s with heap:=s.heap.push (FR w) }) :
  codeAny (model P w) A (.call (.builtin "set.__new__") ⟨[.type "set",a],[]⟩) (wants Q₁ E) s:=by
 have c:∀b,b=(!jo w)->Q₁ (.ref s.heap.objs.size) { s with heap:=s.heap.push { cls:=.type "set",dict:=none,data:=.set #[] 0 (.fresh 0 0 b) } }:=λb e=>by subst e;exact h
 refine codeAny_of_tree (Vzw (m:=checkBuiltinCall "set.__new__" ⟨[.type "set",a],[]⟩) (wpAny_of_eq (PySem.F.newCall_set_1 a) (Vzv ⟨plainId_quiet PySem.F.plain_set_new _,codeAny_builtin PySem.F.entry_set_new ?_⟩)));rw[ZB PySem.F.plain_set_new _];have f:=sub_set_self;clear h;obtain⟨_,g,d,_,_⟩:=s
 wp_walk
 refine wpAny_askSetting (Vzv ?_);exact Vzw (wpAny_alloc (Vzv (Vzv (c _ rfl))))
theorem Jr {l:Yau}{Q:PySem.Fin->Vzx->Prop} (H:A.handled=none) (k:s.heap.IsList l items) (hi:aO (zs.map V.str) items.toList) (y:items.size+1<scanBound) (C:s.heap.get? a=some (FR w)) (m:l≠a)
  (h:∀(h':Heap) (tk:Nat),lD P w (jo w) h' a (fg [] zs)->(∀b o,b≠a->s.heap.get? b=some o->h'.get? b=some o)->Q (.done (.ret .none)) { s with heap:=h',toks:=tk }) :
  Yb1 (model P w) A (Builtin.«set.__init__» ⟨[.ref a,.ref l],[]⟩) Q E s:=by
 obtain⟨M,j,g,_,f⟩:=id k;obtain⟨_,_,_,_⟩:=M;subst g f;have N:=PySem.F.sub_list_set;have O:=PySem.F.sub_list_frozenset;unfold Builtin.«set.__init__» noKeywords Builtin.Frozenset.updateFrom;generalize hPI:pyIter=PI
 wp_walk
 subst hPI;refine wpAny_pyIter_list k (Vzw (wpAny_runValue ?_));have c:zs.length=items.size:=by have:=hi.length;rwa [XA,X6]at this
 refine FU (byT:=jo w) ((Walks.list (show A.in1.handled=none from H) s.heap.objs.size l (X3 (Z1 j)) items).toS) a (by simp only[XQ,Yi,or_false,not_or];exact⟨X3 (Z1 C),m.symm⟩) zs c (λi v _=>?_) y zs 0 _ [] rfl (XT _) (XD _)
  ⟨⟨_,Z0 _ rfl,rfl,rfl⟩,k.push _⟩ (Cb (Vzu _ C)) λI d n=>?_
 ·have B:items.toList[i]? = some v:=by rwa [Zb]
  have q:i<zs.length:=by grind
  obtain⟨x,K⟩:∃x,zs[i]? = some x:=⟨zs[i],XJ q⟩;obtain⟨u,D,J⟩:=hi.get (i:=i) (x:=.str x) (by simp_all);rw[B]at D;cases D;obtain⟨t,rfl⟩:=J;exact⟨x,t,K,rfl⟩
 ·obtain⟨h',G,L,p,r⟩:=I;obtain rfl:G = s.gens:=d.gens;obtain rfl:L = s.drawn:=d.drawn;obtain rfl:r = s.os:=d.os;refine Vzv (Vzv (h h' p n λb o y e=>d.heap b o (λz=>?_) (Vzu _ e)));rcases XQ.mp z with z | z
  ·exact y z
  ·exact absurd (Z1 e) (by simp_all)
theorem uL {l:Yau} (p:A.handled=none) (n:s.heap.IsList l items) (hi:aO (zs.map V.str) items.toList) (x:items.size+1<scanBound)
  (h:∀(h':Heap) (tk:Nat),lD P w (jo w) h' s.heap.objs.size (fg [] zs)->(∀b o,s.heap.get? b=some o->h'.get? b=some o)->Q (.ref s.heap.objs.size) { s with heap:=h',toks:=tk }) :
  Yb1 (model P w) A (call (.type "set") [.ref l]) Q E s:=by
 obtain⟨c,_,_⟩:=PySem.F.called_set.mro;have z:=PySem.F.called_set.made;have B:=PySem.F.called_set.sub;refine wpAny_call (codeAny_of_tree (show Yb1 _ _ (callAny (.type "set") _) _ _ _ from Vzv ⟨Code.quiet_builtin _ (by decide +kernel),codeAny_builtin PySem.F.entry_type_call ?_⟩));rw[Around.under_plain (weight_type_call_type "set" [.ref l] []) rfl]
 repeat any_goals (first | assumption | wp_step)
 refine codeAny_mono (MD (P:=P) (w:=w) (.ref l) (E:=E) (Q₁:=λi d=>i = .ref s.heap.objs.size/\d={ s with heap:=s.heap.push (FR w) }) ⟨rfl,rfl⟩) λr d k=>?_;cases r with
 | error e=>exact k
 | ok v=>
  cases v with
  | ret i=>
   obtain⟨rfl,rfl⟩:=k;have hS:(s.heap.push (FR w)).get? s.heap.objs.size=some (FR w):=Z0 _ rfl;have hT:Shared.TypeIs { s with heap:=s.heap.push (FR w) } (.ref s.heap.objs.size) "set" :=⟨_,hS,rfl⟩;have q:=PySem.F.called_set.init.lookup;have t:=PySem.F.called_set.init.bind (.ref s.heap.objs.size)
   repeat any_goals (first | assumption | wp_step)
   refine codeAny_mono (codeAny_call_builtin (R:=wants (λr f=>r = .none/\Q (.ref s.heap.objs.size) f) E) PySem.F.called_set.init.plain PySem.F.entry_set_init (check_set_init_1 hT ?_)) λj f a=>?_
   ·have m:l<s.heap.objs.size:=by obtain⟨_,e,_⟩:=n;exact Z1 e
    refine Jr (A:=A.in1.in1) p (n.push _) hi x hS (X3 m) λh' tk u y=>?_;exact⟨rfl,h h' tk u λb o e=>y b o (X3 (Z1 e)) (Vzu _ e)⟩
   ·cases j with
    | error e=>exact a
    | ok g=>
     cases g with
     | ret r=>
      obtain⟨rfl,_⟩:=a
      repeat any_goals (first | assumption | wp_step)
     | _=>exact a.elim
  | _=>exact k.elim
end
end
section
open PySem.Spec PyProof.Rows PySem.W
namespace SF
theorem slot_next:Slot "set_iterator" "__next__" "set_iterator.__next__" :=
 .of (owner:= "set_iterator") (n:= "__next__") (by rw[typeLookup_type,builtinLookup_eq_fast];kernel_rfl) (by decide +kernel) (by decide +kernel) (by decide +kernel) (by first | exact .inl (by decide +kernel) | exact .inr (by decide +kernel)) (by rw[isSubtype_type];kernel_rfl)
theorem wt:Slot "set_iterator" "__iter__" "set_iterator.__iter__" :=
 .of (owner:= "set_iterator") (n:= "__iter__") (by rw[typeLookup_type,builtinLookup_eq_fast];kernel_rfl) (by decide +kernel) (by decide +kernel) (by decide +kernel) (by first | exact .inl (by decide +kernel) | exact .inr (by decide +kernel)) (by rw[isSubtype_type];kernel_rfl)
theorem entry_next:entryFor table "set_iterator.__next__" = some Builtin.«set_iterator.__next__»:=entryFor_of_tree (by kernel_rfl)
theorem args_next (a:Vzy):argsOk "set_iterator.__next__" ⟨[a],[]⟩:=by unfold argsOk;kernel_rfl
theorem FK (a:Vzy):argsOk "set_iterator.__iter__" ⟨[a],[]⟩:=by unfold argsOk;kernel_rfl
theorem tF:entryFor table "set.__iter__" = some Builtin.«frozenset.__iter__»:=entryFor_alias (id':= "frozenset.__iter__") (by kernel_rfl) rfl (by decide +kernel) (by kernel_rfl)
theorem Bx:entryFor table "set_iterator.__iter__" = some Builtin.«dict_keyiterator.__iter__»:=entryFor_alias (id':= "dict_keyiterator.__iter__") (by kernel_rfl) rfl (by decide +kernel) (by kernel_rfl)
end SF
section
variable {P:Yax}{s:Vzx}
theorem xw {M:Model}{a:Source}{Q:Nat->Vzx->Prop} (b:n≠0) (h:∀i d,i<n->Q i { s with drawn:=d }):Yb1 M A (choose a n) Q E s:=λc p hc=>by
 unfold choose;rw[Sem.wp_choose];exact⟨b,h _ _ (Nat.mod_lt _ (Nat.pos_of_ne_zero b))⟩
theorem mi {α:Type}:∀(l:List α) (i:Nat) (h:i<l.length),(l[i]::l.eraseIdx i).Perm l
 | [],_,h=>by cases h
 | x::r,0,_=>Yas _
 | x::r,i+1,h=>by
  exact(List.Perm.swap _ _ _).trans (List.Perm.cons _ (mi r i (by simpa using h)))
theorem jx {M:Model}{α:Type}:∀(n:Nat) (xs:List α) (s:Vzx) {Q:List α->Vzx->Prop},xs.length=n->(∀ys d,ys.Perm xs->Q ys { s with drawn:=d })->Yb1 M A (drawOrder n xs) Q E s
 | 0,xs,s,Q,hn,h=>by
  have:xs=[]:=Zo.mp hn;subst this;exact Vzv (h [] s.drawn (Yas _))
 | n+1,[],s,Q,hn,h=>by cases hn
 | n+1,x::xs,s,Q,hn,h=>by
  refine Vzw (xw (by simp) λi d a=>?_);rw[XJ a];refine Vzw (jx n _ _ (by grind) λys b c=>Vzv (h _ b ?_));exact(List.Perm.cons _ c).trans (mi _ i a)
def kA (first:Vzy) (i:Nat) (a:Yau) (n ep:Nat):Obj:={ cls:=.type "set_iterator",data:=.fields #[first,.int i 0,.ref a,.int n 0,.int ep 0] }
structure SAt (h:Heap) (a:Yau) (es:Array (Int×Vzy)) (ep:Nat) (t:Yb3):Prop where
 ob:∃o,h.get? a=some o/\o.ExactSet/\o.data = .set es ep t
 ft:t.fits es.size=true
theorem eC {tb:Yb3}{Q:Array (Int×Vzy)->Vzx->Prop} (b:SAt s.heap a es ep tb) (h:Q es s):Yb1 (model P w) A (setEntries a) Q E s:=by
 obtain⟨o,d,_,c⟩:=b.ob;exact Vzw (wpAny_setState_of d c b.ft (Vzv h))
theorem k6 (n:Nat):¬ (((n:Int) != (n:Int))=true):=by simp
theorem zu {M:Model}{R:α->Vzx->Prop} (c:A.handled=none) (h:∀h' e o,(∀b o,s.heap.get? b=some o->h'.get? b=some o)->h'.get? e=some o->o.cls = .type "StopIteration" -> E (.ref e) { s with heap:=h' }):Yb1 M A (newExc (.type "StopIteration") [] >>= λe=>(raiseNew e:Sem α)) R E s:=by
 refine Vzw ?_;refine Vzw (wpAny_newObj_type ?_ (by size_fits));have a:(firstArgMember (.type "StopIteration") []:Sem Vzy)=pure Value.none:=by first | rfl | (unfold firstArgMember;rfl)
 rw[a];refine Vzw (Vzv (wpAny_newObj_type ?_ (by size_fits)));refine Vzw (wpAny_handled ?_);rw[c];exact Vzw (Vzv (wpAny_throw (h _ _ _ (λb o e=>Vzu _ (Vzu _ e)) (Z0 _ rfl) rfl)))
theorem mI {Q:Option Vzy->Vzx->Prop} (d:s.heap.get? it=some (kA first i a n ep))
  (h:Yb1 (model P w) A.in1 (Builtin.«set_iterator.__next__» ⟨[.ref it],[]⟩) (λf s'=>∃v,f = .done (.ret v)/\Q (some v) s') (λe s'=>∃b o,e = .ref b/\s'.heap.get? b=some o/\o.cls = .type "StopIteration" /\ Q none s') s) :
  Yb1 (model P w) A (pyNext (.ref it)) Q E s:=by
 have c:s.TypeIs (.ref it) "set_iterator" :=⟨_,d,rfl⟩;refine Vzw (wpAny_attempt (wpAny_callSpecial?_slot (name:=WU "__next__") c SF.slot_next (wpAny_call_entry SF.slot_next c SF.entry_next ?_ (SF.args_next _))));refine Vzt h (λf s' ⟨v,e,q⟩=>?_) λe s' ⟨b,o,k,g,j,q⟩=>?_
 ·grind [wpAny_pure]
 ·subst k;exact Vzw (wpAny_isInstance (T:= "StopIteration") (b:=true) ⟨o,g,j⟩ isSubtype_stop (Vzv q))
theorem kY {a:Yau}{first x:Vzy}{i n ep k:Nat}{vs:Qqw}{Q:Unit->Vzx->Prop} (b:s.heap.get? it=some { cls:=.type "set_iterator",data:=.fields vs }) (d:k<vs.size)
  (h:∀h',UV it s.heap h'->h'.get? it=some { cls:=.type "set_iterator",data:=.fields (vs.setIfInBounds k x) }->Q () { s with heap:=h' }):Yb1 (model P w) A (setField (.ref it) k x) Q E s:=
 wpAny_setField_rec b d λh' e c=>h h' c e
theorem zG {nx:Nat}{x:Vzy}{tb:Yb3}{Q:Option Vzy->Vzx->Prop} (b:s.heap.get? it=some (kA (.int slot 0) i a es.size ep)) (j:SAt s.heap a es ep tb)
  (f:∀(A:Yaw) (E:Vzy->Vzx->Prop) (R:Option (Vzy×Nat)->Vzx->Prop),R (some (x,nx)) s->Yb1 (model P w) A (setNext a slot i ep) R E s)
  (h:∀h',UV it s.heap h'->h'.get? it=some (kA (.int nx 0) (i+1:Nat) a es.size ep)->Q (some x) { s with heap:=h' }):Yb1 (model P w) A (pyNext (.ref it)) Q E s:=by
 refine mI b ?_;refine Vzw (Vzv ?_);refine Vzw (wpAny_fieldsOf b rfl ?_);refine Vzw (eC j ?_);rw[Yb8 (k6 es.size)];refine Vzw (f _ _ _ ?_);refine Vzw (kY (a:=a) (first:=x) (i:=i) (n:=0) (ep:=ep) b (by simp) λ_ c e=>?_);refine Vzw (kY (a:=a) (first:=x) (i:=i) (n:=0) (ep:=ep) e (by simp) λg d k=>?_);exact Vzv ⟨x,rfl,h g (c.trans d) k⟩
theorem AU {tb:Yb3}{Q:Option Vzy->Vzx->Prop} (f:A.handled=none) (c:s.heap.get? it=some (kA (.int slot 0) i a es.size ep)) (q:SAt s.heap a es ep tb)
  (l:∀(A:Yaw) (E:Vzy->Vzx->Prop) (R:Option (Vzy×Nat)->Vzx->Prop),R none s->Yb1 (model P w) A (setNext a slot i ep) R E s)
  (h:∀h',(∀b o,b≠it->s.heap.get? b=some o->h'.get? b=some o)->Q none { s with heap:=h' }):Yb1 (model P w) A (pyNext (.ref it)) Q E s:=by
 refine mI c ?_;refine Vzw (Vzv ?_);refine Vzw (wpAny_fieldsOf c rfl ?_);refine Vzw (eC q ?_);rw[Yb8 (k6 es.size)];refine Vzw (l _ _ _ ?_);refine Vzw (kY (a:=a) (first:=.none) (i:=i) (n:=0) (ep:=ep) c (by simp) λp d _=>?_);refine zu (s:={ s with heap:=p }) (show A.in1.handled=none from f) λh' e o j r t=>⟨e,o,rfl,r,t,h h' λb g m k=>j b g ((d.2 b m).trans k)⟩
theorem GZ {k:Nat}{hx:Int}{x:Vzy}{ps:List Nat}{tb:Yb3}{p:Nat}{Q:Option Vzy->Vzx->Prop} (b:s.heap.get? it=some (kA (.ref T) i a es.size ep)) (d:SAt s.heap a es ep tb)
  (hT:s.heap.get? T=some oT) (g:oT.data = .seq (ps.map λ(j:Nat)=>rawInt j).toArray p) (r:ps[i]? = some k) (l:es[k]? = some (hx,x)) (h:∀h',UV it s.heap h'->h'.get? it=some (kA (.ref T) (i+1:Nat) a es.size ep)->Q (some x) { s with heap:=h' }) :
  Yb1 (model P w) A (pyNext (.ref it)) Q E s:=by
 refine mI b ?_;refine Vzw (Vzv ?_);refine Vzw (wpAny_fieldsOf b rfl ?_);refine Vzw (eC d ?_);rw[Yb8 (k6 es.size)];refine Vzw (wpAny_seqItems hT g ?_);have t:(ps.map λ(j:Nat)=>rawInt j).toArray[(i:Int).toNat]? = some (.int k 0):=by
  rw[Yv,List.getElem?_toArray,XM,r];rfl
 dsimp only;rw[t];refine Vzw ?_;obtain⟨o,q,_,e⟩:=d.ob;refine Vzw (wpAny_setState_of q e d.ft ?_);dsimp only;rw[Yb8 (by simp)];refine Vzw (Vzv ?_);rw[Yv,l];refine Vzv ?_;refine Vzw (kY (a:=a) (first:=x) (i:=i) (n:=0) (ep:=ep) b (by simp) λm c f=>?_);exact Vzv ⟨x,rfl,h m c f⟩
theorem Gr {ps:List Nat}{tb:Yb3}{Q:Option Vzy->Vzx->Prop} (k:A.handled=none) (c:s.heap.get? it=some (kA (.ref T) i a es.size ep)) (v:SAt s.heap a es ep tb)
  (hT:s.heap.get? T=some oT) (u:oT.data = .seq (ps.map λ(j:Nat)=>rawInt j).toArray q) (B:ps[i]? = none) (h:∀h',(∀b o,b≠it->s.heap.get? b=some o->h'.get? b=some o)->Q none { s with heap:=h' }) :
  Yb1 (model P w) A (pyNext (.ref it)) Q E s:=by
 refine mI c ?_;refine Vzw (Vzv ?_);refine Vzw (wpAny_fieldsOf c rfl ?_);refine Vzw (eC v ?_);rw[Yb8 (k6 es.size)];refine Vzw (wpAny_seqItems hT u ?_);have r:(ps.map λ(j:Nat)=>rawInt j).toArray[(i:Int).toNat]? = none:=by
  simp_all
 dsimp only;rw[r];refine Vzw (kY (a:=a) (first:=.none) (i:=i) (n:=0) (ep:=ep) c (by simp) λ_ f l=>?_);refine Vzw (kY (a:=a) (first:=.none) (i:=i) (n:=0) (ep:=ep) l (by simp) λp d _=>?_);refine zu (s:={ s with heap:=p }) (show A.in1.handled=none from k) λh' e o z x t=>⟨e,o,rfl,x,t,h h' λb g y m=>z b g (((f.trans d).2 b y).trans m)⟩
theorem kX {α:Type} (next:Nat->Nat):∀(n k:Nat) (l:List α) (out:Array α),l.length=n->((pickOrder.go next n k l out).toList).Perm (out.toList++l)
 | 0,k,l,out,hn=>by
  have:l=[]:=Zo.mp hn;subst this;unfold pickOrder.go;simp
 | n+1,k,l,out,hn=>by
  unfold pickOrder.go;have a:next k % l.length<l.length:=Nat.mod_lt _ (by lia);rw[XJ a];refine(kX next n (k+1) _ _ (by grind)).trans ?_
  grind [ZJ,Yn,List.Perm.append_left,mi]
theorem nW {tb:Yb3}{R:Option (Vzy×Nat)->Vzx->Prop} (d:jo w=true) (b:SAt s.heap a es ep tb)
  (h:R (((pickOrder (w.params.setOrder a ep) es)[i]?).map λe=>(e.2,slot)) s):Yb1 (model P w) A (setNext a slot i ep) R E s:=by
 obtain⟨o,f,_,c⟩:=b.ob;refine Vzw (wpAny_setState_of f c b.ft ?_);refine Vzw (Vzw (wpAny_askSetting (Vzv ?_)));show Yb1 _ _ (if jo w=true then _ else _) _ _ _;rw[Yb7 d,Yb8 (by simp)];refine Vzw ?_;refine Vzw (wpAny_setState_of f c b.ft ?_);refine Vzw (Vzw (wpAny_askSetting (Vzv ?_)));show Yb1 _ _ (if jo w=true then _ else _) _ _ _;rw[Yb7 d];exact Vzw (wpAny_askSetting (Vzv (Vzv h)))
theorem pq {tb:Yb3}{R:Option (Vzy×Nat)->Vzx->Prop} (e:jo w=false) (d:tb.led=true) (h1:es.size<=1) (b:SAt s.heap a es ep tb)
  (h:R (match es[SetTable.below tb.place slot]?,tb.place[SetTable.below tb.place slot]? with | some (_,x),some j=>some (x,j+1) | _,_=>none) s):Yb1 (model P w) A (setNext a slot i ep) R E s:=by
 obtain⟨o,f,_,c⟩:=b.ob;refine Vzw (wpAny_setState_of f c b.ft ?_);refine Vzw (Vzw (wpAny_askSetting (Vzv ?_)));show Yb1 _ _ (if jo w=true then _ else _) _ _ _;rw[Yb8 (by rw[e];decide)];refine Vzw (Vzv ?_);show Yb1 _ _ (if (!tb.plain && decide (es.size > 1))=true then _ else _) _ _ _;rw[Yb8 (by simp;lia)];refine Vzw ?_;show Yb1 _ _ (if (!tb.led && !es.isEmpty)=true then _ else _) _ _ _;rw[Yb8 (by simp[d])];exact Vzv (Vzv h)
theorem De (xs:Array Nat) (h:xs.size<=1):SetTable.below xs 0=0:=by
 unfold SetTable.below;have:xs.size=0\/xs.size=1:=by lia
 grind [SetTable.below.go]
theorem Df (j:Nat):SetTable.below #[j] (j+1)=1:=by
 show SetTable.below.go #[j] (j+1) 1 0 1=1;simp[SetTable.below.go]
structure Handed (es:Array (Int×Vzy)) (vs:Qqz):Prop where
 perm:vs.Perm (es.toList.map (·.2))
theorem eE {t:Yb3} (x:SAt h a es ep t) (k:∀o,h.get? a=some o->h'.get? a=some o):SAt h' a es ep t:=by
 obtain⟨o,e,r⟩:=x.ob;exact⟨⟨o,k o e,r⟩,x.ft⟩
theorem rF (c:s.heap.get? it=some (kA first i a n ep)) (h:Q (.ref it) s):Yb1 (model P w) A (pyIter (.ref it)) Q E s:=by
 have b:s.TypeIs (.ref it) "set_iterator" :=⟨_,c,rfl⟩;refine wpAny_pyIter_slot b SF.wt (wpAny_call_entry SF.wt b SF.Bx ?_ (SF.FK _));exact Vzv ⟨_,rfl,"set_iterator",_,b,SF.slot_next.lookup,h⟩
theorem G8 {tb:Yb3} (n:A.handled=none) (j:a≠it) (d:jo w=true) :
  Walks P w A it [it,a] [it] es.size (λi v=>((pickOrder (w.params.setOrder a ep) es).toList.map (·.2))[i]? = some v) (λi h=>h.get? it=some (kA (.int 0 0) i a es.size ep)/\SAt h a es ep tb) where
 sub:=λb d=>by simp_all
 frame:=λi h f c k=>⟨k it (by simp) _ c.1,eE c.2 λo e=>k a (by simp) o e⟩
 item:=λi s Q E _ c g=>by
  have q:(pickOrder (w.params.setOrder a ep) es).size=es.size:=by
   have:=(kX (w.params.setOrder a ep) es.size 0 es.toList #[] (by simp)).length_eq
   assumption
  have p:i<(pickOrder (w.params.setOrder a ep) es).size:=by lia
  refine zG (slot:=0) (nx:=0) (x:=(pickOrder (w.params.setOrder a ep) es)[i].2) c.1 c.2 (λA E R r=>nW d c.2 (by simp_all)) λf m l=>?_;refine g _ f s.toks ?_ ⟨l,eE c.2 λo e=>(m.2 a j).trans e⟩ λb o d e=>(m.2 b (by simpa using d)).trans e
  simp_all
 done:=λs Q E c g=>by
  have q:(pickOrder (w.params.setOrder a ep) es).size=es.size:=by
   have:=(kX (w.params.setOrder a ep) es.size 0 es.toList #[] (by simp)).length_eq
   assumption
  refine AU (slot:=0) n c.1 c.2 (λA E R r=>nW d c.2 (by simp_all)) λf k=>g f s.toks λb o d e=>k b o (by simpa using d) e
 self:=λi s Q E c h=>rF c.1 h
theorem Dc {u:Nat}{ps:List Nat}{tb:Yb3} (B:A.handled=none) (g:a≠it) (f:T≠it) (r:ps.Perm (Z6 es.size)) (y:oT.data = .seq (ps.map λ(j:Nat)=>rawInt j).toArray u) :
  Walks P w A it [it,a,T] [it] es.size (λi v=>(ps.map λk=>(es.getD k (0,.none)).2)[i]? = some v) (λi h=>h.get? it=some (kA (.ref T) i a es.size ep)/\SAt h a es ep tb/\h.get? T=some oT) where
 sub:=λb q=>by simp_all
 frame:=λi h p c k=>⟨k it (by simp) _ c.1,eE c.2.1 λo e=>k a (by simp) o e,k T (by simp) _ c.2.2⟩
 item:=λi s Q E _ c n=>by
  have t:ps.length=es.size:=by rw[r.length_eq];simp
  have d:i<ps.length:=by lia
  have z:ps[i]<es.size:=by grind [YH]
  refine GZ (hx:=es[ps[i]].1) (x:=es[ps[i]].2) c.1 c.2.1 c.2.2 y (XJ d) (YR z) λp l m=>?_;refine n _ p s.toks ?_ ⟨m,eE c.2.1 λo e=>(l.2 a g).trans e,(l.2 T f).trans c.2.2⟩ λb o q e=>(l.2 b (by simpa using q)).trans e
  simp_all
 done:=λs Q E c n=>by
  have t:ps.length=es.size:=by rw[r.length_eq];simp
  grind [Gr,Zu]
 self:=λi s Q E c h=>rF c.1 h
theorem LY {tb:Yb3} (r:A.handled=none) (m:a≠it) (d:jo w=false) (p:tb.led=true) (h1:es.size<=1) (f:tb.fits es.size=true) :
  Walks P w A it [it,a] [it] es.size (λi v=>(es.toList.map (·.2))[i]? = some v) (λi h=>h.get? it=some (kA (.int (if i=0 then 0 else tb.place.getD 0 0+1:Nat) 0) i a es.size ep)/\SAt h a es ep tb) where
 sub:=λb d=>by simp_all
 frame:=λi h g c k=>⟨k it (by simp) _ c.1,eE c.2 λo e=>k a (by simp) o e⟩
 item:=λi s Q E _ c l=>by
  obtain rfl:i=0:=by lia
  have n:tb.place.size=es.size:=by simp only[SetTable.fits,Yd,beq_iff_eq]at f;exact f.1
  have y:0<tb.place.size:=by lia
  refine zG (slot:=0) (nx:=tb.place[0]+1) (x:=es[0].2) c.1 c.2 (λA E R t=>pq d p h1 c.2 (by grind [De,YR])) λg q _=>?_;refine l _ g s.toks ?_ ⟨?_,eE c.2 λo e=>(q.2 a m).trans e⟩ λb o d e=>(q.2 b (by simpa using d)).trans e
  ·simp_all
  ·simp_all
 done:=λs Q E c l=>by
  have n:tb.place.size=es.size:=by simp only[SetTable.fits,Yd,beq_iff_eq]at f;exact f.1
  refine AU r c.1 c.2 (λA E R t=>pq d p h1 c.2 ?_) λg k=>l g s.toks λb o d e=>k b o (by simpa using d) e;rcases ZC 0 es.size with z | z
  ·have B:es.size=1:=by lia
   obtain⟨j,u⟩:∃j,tb.place = #[j]:=by
    match hq:tb.place,(show tb.place.size=1 by lia)with
    | ⟨[j]⟩,_=>exact⟨j,rfl⟩
   rw[Yb8 (by lia),u];have:(#[j]:Array Nat).getD 0 0=j:=rfl
   rwa [this,Df,ZS (by lia)]
  ·simp_all
 self:=λi s Q E c h=>rF c.1 h
theorem z7 {tb:Yb3}{Q:Bool->Vzx->Prop} (b:SAt s.heap a es ep tb) (h:Q (!jo w && (!tb.plain && decide (es.size > 1))) s):Yb1 (model P w) A (setDrawn a) Q E s:=by
 obtain⟨o,d,_,c⟩:=b.ob;refine Vzw (wpAny_setState_of d c b.ft ?_);exact Vzw (Vzw (wpAny_askSetting (Vzv (Vzv h))))
theorem CU {ps:List Nat} (a:ps.Perm (Z6 es.size)):(ps.map λk=>(es.getD k (0,.none)).2).Perm (es.toList.map (·.2)):=by
 refine(a.map _).trans ?_;have e:(Z6 es.size).map (λk=>(es.getD k (0,.none)).2)=es.toList.map (·.2):=by
  apply List.ext_getElem?;intro i;rw[XM,XM];by_cases b:i<es.size
  ·simp_all
  ·simp_all
 rw[e]
theorem IR {us:Qqv} (K:A.handled=none) (hS:lD P w (jo w) s.heap a us)
  (h:∀(I:Yau) (vs:Qqz) (h':Heap) (d:Drawn) (fp:Qqx) (St:Nat->Heap->Prop),(∀b o,s.heap.get? b=some o->h'.get? b=some o)->(∀b∈fp,b=a\/s.heap.objs.size<=b)->s.heap.objs.size<=I->vs.length=us.length->(∃us':Qqv,us'.Perm us/\aO (us'.map V.str) vs) ->
   Walks P w A I fp [I] vs.length (λi v=>vs[i]? = some v) St->St 0 h'->Q (.ref I) { s with heap:=h',drawn:=d }) :
  Yb1 (model P w) A (pyIter (.ref a)) Q E s:=by
 obtain⟨o,es,ep,t,D,G,L,_,O,J,_,_,_,X⟩:=id hS;have g:SAt s.heap a es ep t:=⟨⟨o,D,G,L⟩,J⟩;have hT:s.TypeIs (.ref a) "set" :=⟨o,D,G.1⟩;have S:es.size=us.length:=by
  have:=X.length_eq
  rwa [XA,X6]at this
 have f:∀vs:Qqz,vs.Perm (es.toList.map (·.2))->vs.length=us.length/\∃us':Qqv,us'.Perm us/\aO (us'.map V.str) vs:=λvs z=>by
  refine⟨by rw[z.length_eq,XA,X6,S],vs.map wk,((z.map wk).trans (by rwa [Yg])),?_⟩;have R:∀v∈vs,∃x tk,v = .str x tk:=λv _=>by
   grind
  clear z
  induction vs with
  | nil=>exact .nil
  | cons v r U=>
   obtain⟨x,tk,rfl⟩:=R v (.head _);exact .cons ⟨tk,rfl⟩ (U λv z=>R v (.tail _ z))
 refine wpAny_pyIter_slot hT PySem.F.slot_set_iter (wpAny_call_entry PySem.F.slot_set_iter hT SF.tF ?_ (PySem.F.args_set_iter_1 _));refine Vzw (Vzv ?_);refine Vzw (m:=Builtin.Frozenset.sizeOf a) (Vzw (eC g (Vzv ?_)));refine Vzw (z7 g ?_);have H:=Z1 D;by_cases u:(!jo w && (!t.plain && decide (es.size > 1)))=true
 ·rw[Yb7 u];refine Vzw (jx es.size _ s (by simp) λp d n=>?_);refine Vzw (wpAny_newTuple ?_ (by rw[XA,n.length_eq,YV,sizeLine_eq];unfold scanBound at O;lia));have q:(s.heap.push { cls:=.type "tuple",data:=.seq (p.map λ(i:Nat)=>rawInt i).toArray }).get? s.heap.objs.size=some { cls:=.type "tuple",data:=.seq (p.map λ(i:Nat)=>rawInt i).toArray }:=Z0 _ rfl;generalize hh1:s.heap.push { cls:=.type "tuple",data:=.seq (p.map λ(i:Nat)=>rawInt i).toArray }=h1 at q ⊢;have M:∀b o,s.heap.get? b=some o->h1.get? b=some o:=λb o e=>by rw[<-hh1];exact Vzu _ e
  have Y:h1.objs.size=s.heap.objs.size+1:=by rw[<-hh1,Heap.size_push]
  refine Vzw (wpAny_setEpoch_of (s:={ s with heap:=h1,drawn:=d }) (M a o D) L J ?_);refine Vzw (wpAny_newObj_type ?_ (by size_fits));have l:(h1.push (kA (.ref s.heap.objs.size) (0:Nat) a es.size ep)).get? h1.objs.size=some (kA (.ref s.heap.objs.size) (0:Nat) a es.size ep):=Z0 _ rfl;have j:∀b o,h1.get? b=some o->(h1.push (kA (.ref s.heap.objs.size) (0:Nat) a es.size ep)).get? b=some o:=λb o e=>Vzu _ e;obtain⟨y,C⟩:=f _ (CU n);have c:(p.map λk=>(es.getD k (0,Value.none)).2).length=es.size:=by lia
  have W:=Dc (P:=P) (w:=w) (A:=A) (it:=h1.objs.size) (a:=a) (T:=s.heap.objs.size) (ep:=ep) (tb:=t) K (X3 (by lia)) (X3 (by lia)) n (oT:={ cls:=.type "tuple",data:=.seq (p.map λ(i:Nat)=>rawInt i).toArray }) rfl;rw[<-c]at W;refine Vzv ⟨_,rfl,"set_iterator",_,⟨_,l,rfl⟩,SF.slot_next.lookup,?_⟩;refine h h1.objs.size _ _ d [h1.objs.size,a,s.heap.objs.size] _ (λb o e=>j b o (M b o e)) (λb O=>?_) (by lia) y C W ⟨?_,eE (eE g (M a)) (j a),j _ _ q⟩
  ·grind
  ·rwa [c]
 ·rw[Yb8 u];refine Vzw (Vzv ?_);refine Vzw (wpAny_setEpoch_of D L J ?_);refine Vzw (wpAny_newObj_type ?_ (by size_fits));have l:(s.heap.push (kA (.int (0:Nat) 0) (0:Nat) a es.size ep)).get? s.heap.objs.size=some (kA (.int (0:Nat) 0) (0:Nat) a es.size ep):=Z0 _ rfl;have j:∀b o,s.heap.get? b=some o->(s.heap.push (kA (.int (0:Nat) 0) (0:Nat) a es.size ep)).get? b=some o:=λb o e=>Vzu _ e;refine Vzv ⟨_,rfl,"set_iterator",_,⟨_,l,rfl⟩,SF.slot_next.lookup,?_⟩;have B:∀b∈[s.heap.objs.size,a],b=a\/s.heap.objs.size<=b:=λb O=>by
   grind
  cases hbt:jo w with
  | true=>
   have N:(pickOrder (w.params.setOrder a ep) es).toList.Perm es.toList:=by
    grind [kX,pickOrder]
   obtain⟨y,C⟩:=f _ (N.map (·.2))
   have c:((pickOrder (w.params.setOrder a ep) es).toList.map (·.2)).length=es.size:=by lia
   have W:=G8 (P:=P) (w:=w) (A:=A) (it:=s.heap.objs.size) (a:=a) (ep:=ep) (es:=es) (tb:=t) K (X3 H) hbt;rw[<-c]at W;refine h s.heap.objs.size _ _ s.drawn [s.heap.objs.size,a] _ j B (XD _) y C W ⟨?_,eE g (j a)⟩
   rwa [c]
  | false=>
   have h1:es.size<=1:=by
    grind
   obtain⟨y,C⟩:=f _ (Yas _);have c:(es.toList.map (·.2)).length=es.size:=by lia
   have W:=LY (P:=P) (w:=w) (A:=A) (it:=s.heap.objs.size) (a:=a) (ep:=ep) (es:=es) (tb:=t) K (X3 H) hbt (by lia) h1 J;rw[<-c]at W;refine h s.heap.objs.size _ _ s.drawn [s.heap.objs.size,a] _ j B (XD _) y C W ⟨?_,eE g (j a)⟩
   rwa [c]
theorem Ls {r:Yau}{Q:Bool->Vzx->Prop} (hT:s.TypeIs (.ref r) "set") (h:Q false s):Yb1 (model P w) A (Builtin.List.listLengthHint (.ref r)) Q E s:=by
 refine Vzw (wpAny_specialOf hT PySem.F.slot_set_len.lookup ?_);generalize hid:("set.__len__" : String)=id0
 wp_delta
 have a:splitId id0=some ("set","__len__"):=by subst hid;decide +kernel
 rw[a];subst hid;refine Vzw (wpAny_isInstance (T:= "set") (b:=true) hT (by rw[isSubtype_type];kernel_rfl) ?_);refine wpAny_ite_split (λz=>absurd z (by decide)) λ_=>?_;refine wpAny_ite_split (λ_=>?_) λz=>absurd (by decide +kernel) z;exact Vzw (wpAny_typeOf hT (Vzv h))
theorem zl {us:Qqv}{R:Qqz->Vzx->Prop} (Z:A.handled=none) (hS:lD P w (jo w) s.heap a us) (hn:us.length<=Yb0)
  (h:∀(h':Heap) (tk:Nat) (d:Drawn) (vs:Qqz) (us':Qqv),(∀b o,s.heap.get? b=some o->h'.get? b=some o)->us'.Perm us->aO (us'.map V.str) vs->R vs { s with heap:=h',toks:=tk,drawn:=d }) :
  Yb1 (model P w) A (collect (.ref a)) R E s:=by
 obtain⟨o,_,_,_,L,p,_⟩:=id hS;have r:a<s.heap.objs.size:=Z1 L;refine Vzw (wpAny_runValue (codeAny_builtin entry_proto_collect' ?_));rw[ZB PySem.F.plain_proto_collect _];refine Vzw (m:=newList []) (wpAny_newList ?_ (XT _));have oS:(s.heap.push (seqObj "list" #[] 0)).get? s.heap.objs.size=some (seqObj "list" #[] 0):=Z0 _ rfl;have n:∀b o,s.heap.get? b=some o->(s.heap.push (seqObj "list" #[] 0)).get? b=some o:=λb o e=>Vzu _ e;have G:(s.heap.push (seqObj "list" #[] 0)).objs.size=s.heap.objs.size+1:=Heap.size_push _ _;refine Vzv ⟨plainId_quiet PySem.F.plain_list_iadd _,codeAny_builtin entry_list_iadd' ?_⟩;rw[ZB PySem.F.plain_list_iadd _];show Yb1 _ _ (Builtin.List.listExtendWith (.ref s.heap.objs.size) (.ref a) (.ref s.heap.objs.size)) _ _ { s with heap:=s.heap.push (seqObj "list" #[] 0) };generalize s.heap.push (seqObj "list" #[] 0)=h1 at oS n G ⊢;generalize hd1:s.heap.objs.size=S at oS G r ⊢;have hSa:S≠a:=Y5 r;refine Vzw (wpAny_typeOf ⟨o,n a o L,p.1⟩ ?_);have e1:Yal (.ref S) (.ref a)=false:=by simp[Yal,hSa]
 have e2:(Value.type "set" == Value.type "list")=false:=by decide
 have e3:(Value.type "set" == Value.type "tuple")=false:=by decide
 simp only[e1,e2,e3,Zx,Yh,if_false];refine Vzw (IR (s:={ s with heap:=h1 }) (show A.in1.handled=none from Z) (hS.keep (n a)) λI vs B d fp St D y _ Q J W Y=>?_);obtain⟨us',C,O⟩:=J;have l:S∉fp:=λz=>(y S z).elim hSa λz=>absurd z (by rw[G];exact Nat.not_succ_le_self _);have g:=D S _ oS;have M:∀(j:Heap) (c tk:Nat),St 0 j->(∀b o,b≠S->B.get? b=some o->j.get? b=some o)->j.get? S=some (seqObj "list" #[] c) ->
   codeAny (model P w) A (.builtin "list.extend.loop" ⟨[.ref S,.ref I,.ref S],[]⟩) (λq k=>∃(h':Heap) (tk:Nat) (acc:Qqw) (c':Nat),q = .ok (.ret (.ref S))/\k = { s with heap:=h',toks:=tk,drawn:=d }/\(∀b o,s.heap.get? b=some o->h'.get? b=some o)/\h'.get? S=some (seqObj "list" acc c')/\acc.toList=vs) { s with heap:=j,toks:=tk,drawn:=d }:=λj c tk x t o3=>by
  refine codeAny_extend_loopS W.toS (by rwa [Q]) S l (.ref S) vs.length 0 _ #[] c rfl (XT _) x o3 (ItemsOf.nil _) λk acc c' X H U=>?_;rw[Moved.eq_with X];refine⟨k.heap,k.toks,acc,c',rfl,rfl,λb o e=>?_,H,?_⟩
  ·have K:b<S:=by rw[<-hd1];exact Z1 e
   refine X.heap b o (λz=>?_) (t b o (X3 K) (D b o (n b o e)))
   grind
  ·apply List.ext_getElem?;intro i;rw[Zb];cases q:acc[i]? with
   | none=>
    have:=Array.getElem?_eq_none_iff.mp q;rw[U.1]at this;exact(Zu this).symm
   | some v=>exact(U.2 i v q).symm
 refine Vzw (Vzs (Ls ⟨o,D a o (n a o L),p.1⟩ ?_));rw[Yb7 (by decide)];refine Vzw (wpAny_rule ?_);have T:=get?_update_seq g λ(f:Qqw)=>f.push Value.none;refine Vzw (m:=Builtin.List.listTouch _) ?_;refine Vzw (listUpdate_at g rfl ?_ (XT _) (by simp));refine listUpdate_at T rfl ?_ (by show 1<=_;rw[sizeLine_eq];lia) (XT _);have t:∀b o,b≠S->B.get? b=some o->((B.update S (Z9 λf=>f.push Value.none)).update S (Z9 λf=>f.pop)).get? b=some o:=λb o u e=>(W9 _ _ (Ya4 u)).trans ((W9 _ _ (Ya4 u)).trans e);refine Vzv ⟨plainId_quiet PySem.F.plain_extend_loop _,codeAny_mono (M _ _ s.toks (W.frame 0 _ _ Y λb u o e=>t b o (λz=>l (z ▸ u)) e) t (get?_update_seq T λ(f:Qqw)=>f.pop)) λq k hq=>?_⟩;obtain⟨h',tk,acc,c',rfl,rfl,hk,N,hv⟩:=hq;refine Vzw (wpAny_load N (Vzv ?_));subst hv;exact h h' tk d acc.toList us' hk C O
end
def UpS (ms:Qqv):Prop:=ms.Pairwise λx y=>ltv (.str y) (.str x)=false
def HJ (X:Cx) (f:Vzy) (r:Qqv->Hp->VK->Prop):Prop:=
 ∀(pins:List (Yau×Obj)) (s:Vzx) (σ:St) (H:Hp) (D:Yau) (us:Qqv) (Q:VK),Inv X pins σ H s->lD X.prog X.w (jo X.w) s.heap D us->r us H Q->Yb1 (model X.prog X.w) X.A (call f [.ref D]) (EP X pins σ Q) X.xe s
def tFS (r:Qqv->Hp->VK->Prop) (t:TA):TE:=λσ H Q=>t σ H λvs H1=>∃a zs,vs=[.ref a]/\Rd H1 a (.lst (zs.map V.str))/\zs.length<4000/\r (fg [] zs) H1 Q
section
variable {p q:Pos}{e:Expr}{id:String}{r:Qqv->Hp->VK->Prop}
theorem Inv.Qn {s:Vzx}{tk:Nat}{d:Drawn} (I:Inv X pins σ H s) (k:∀b o,s.heap.get? b=some o->h'.get? b=some o):Inv X pins σ H { s with heap:=h',toks:=tk,drawn:=d }:=by
 have J:=I.kept (t':=tk) k;exact⟨J.ok,J.os,J.bare,J.base,J.loc,J.cell,J.free,J.jw,J.pin,J.hok,J.len⟩
theorem yp (G:HJ X (.builtin id) r) (E:X.calm=true) (F:Gl X x) (R:X.mg x=none) (J:bootBuiltins x=some (.builtin id)) (i:Gl X y) (l:X.mg y=none) (z:bootBuiltins y=some (.type "set")) (K:PA X [e] t)
  (C:x ≠ "__name__" :=by decide) (m:(x == ("__debug__" : Str))=false:=by decide) (g:y ≠ "__name__" :=by decide) (S:(y == ("__debug__" : Str))=false:=by decide)
  (A:Yb2 [Expr.Call (.Name y q) [e] [] yA] X.env=(false,eval (Expr.Call (.Name y q) [e] [] yA) X.env)::Yb2 [] X.env:=by rfl) (o:Yb2 [e] X.env=(false,eval e X.env)::Yb2 [] X.env:=by rfl) :
  PE X (.Call (.Name x p) [.Call (.Name y q) [e] [] yA] [] pos) (tFS r t):=by
 intro b s j H Q I h;refine wpAny_Call_Name_kw (eN I F R J ?_ C m);refine PyProof.Rows.callWith_builtin1 ?_ A rfl;rw[A];refine Ya2 (thn (Q:=λv f=>∃D us H1,v = .ref D/\Inv X b j H1 f/\lD X.prog X.w (jo X.w) f.heap D us/\r us H1 Q) ?_ λv f ⟨D,us,H1,L,c,hS,d⟩=>?_)
 ·refine wpAny_Call_Name_kw (eN I i l z ?_ g S);refine W0 (thn (K yA b s j H _ I h) λus _ ⟨_,H1,c,T,d⟩=>?_) o rfl;obtain⟨a,_,rfl,O,_,d⟩:=d;obtain⟨u,rfl,M⟩:=T.one;cases M;obtain⟨_,_,n,B,N⟩:=O.ok c.hok;have P:=B.length;rw[XA]at P;refine uL (c.ok.hd E) ⟨_,N,rfl,n,rfl⟩ B (by rw[XO];unfold scanBound;lia) λ_ _ hS k=>?_;exact⟨_,_,H1,rfl,c.Qn k,hS,d⟩
 ·subst L;exact Yai (G b f j H1 D us Q c hS d)
end
theorem tR:∀{ns:Qqv}{us:Qqz},aO (ns.map V.str) us->∀v∈us,∃i t,v=Value.str i t
 | [],_,r,v,hv=>by rw[YU]at r;cases r;cases hv
 | n::ns,_,r,v,hv=>by
  rw[XS]at r;cases r with
  | cons h t=>
   obtain⟨a,rfl⟩:=h;rcases XQ.mp hv with e | e
   ·exact⟨n,a,e⟩
   ·exact tR t v e
theorem ur {P:Yax} (d:aO (ns.map V.str) us) (s':Vzx) (G:Array Nat->Vzx->Prop) (h2:2<=us.length)
  (h:∀p:Array Nat,p.toList.Perm (Z6 us.length)->(∀i j,i<=j->j<us.length->ltv ((ns.map PyData.str).getD (p.getD j 0) .none) ((ns.map PyData.str).getD (p.getD i 0) .none)=false)->G p s') :
  Yb1 (model P w) A (keyKind' us.toArray) (λκ s''=>(kas_sort us.length).kasWp (kas_ask P w A κ us) G s'') (λ_ _=>False) s':=by
 refine kas_kind (T:=.type "str") h2 (λv y=>?_) (by decide) (by decide) ?_
 ·obtain⟨i,t,rfl⟩:=tR d v y;exact .of_pure rfl
 have D:us.length=ns.length:=by rw[<-d.length,XA]
 have o:=Sh.ok .str;have f:∀i,i<us.length->(ns.map PyData.str).getD i .none = .str (ns.getD i ZY):=λi b=>by
  simp_all
 have a:∀i,i<us.length->Sh.str.has ((ns.map PyData.str).getD i .none):=λi b=>⟨_,f i b⟩;refine Er (n:=us.length) (lt:=λi j=>ltv ((ns.map PyData.str).getD i .none) ((ns.map PyData.str).getD j .none)) (P:=λs''=>s'' = s') ⟨λi b=>o.irr _ (a i b),λi j k b c B q=>o.neg (a i b) (a j c) (a k B) q,λi j b c q=>o.asymm (a i b) (a j c) q⟩
  (λi j C s'' b c e q=>?_) (by lia) rfl λp s'' e z x=>by subst e;exact h p z x
 subst e;show Yb1 (model P w) A (keyLt' oneType' (us.getD i .none) (us.getD j .none)) C (λ_ _=>False) s'';have r:=iD d i;have m:=iD d j;have g:=q s'' rfl;rw[f i b,f j c]at g;have l:∀i,i<us.length->(ns.map V.str).getD i .non = .str (ns.getD i ZY):=λi b=>by
  simp_all
 rw[l i b]at r;rw[l j c]at m;obtain⟨_,s⟩:=r;obtain⟨_,u⟩:=m;rw[s,u,keyLt'_oneType];exact oneLt_str g
theorem Ao {p:List Nat} (h:p.Perm (Z6 ns.length)):(p.map λi=>ns.getD i ZY).Perm ns:=by
 exact(h.map λi=>ns.getD i ZY).trans (by rw[(jf ns ZY)])
def R4:Qqv->Hp->VK->Prop:=λus H Q=>us.length<64/\∀(D:Yau) (ms:Qqv),H D=none->ms.Perm us->UpS ms->Q (.ref D) (upd H D (.lst (ms.map V.str)))
theorem my {k:Nat} (J:X.calm=true) (P:bB k X.A):HJ X (.builtin "sorted") R4:=by
 intro g s M H S us Q I hS h;obtain⟨_,q⟩:=h
 (refine Calls.call_function_entry kind_sorted plain_sorted entry_sorted (args_sorted1 _) ?_)
 (refine Vzw (m:=checkCount "sorted" 1 1 _) (Vzv ?_))
 refine Vzw (zl (A:=X.A.in1) (show X.A.in1.handled=none from I.ok.hd J) hS (by rw[sizeLine_eq];lia) λh1 x d a us' y w n=>?_);have L:us'.length=us.length:=w.length_eq;have K:a.length=us'.length:=by rw[<-n.length,XA]
 (refine Vzw (wpAny_newList ?_ (by grind [sizeLine_eq])))
 have u:Inv X g M H { s with heap:=h1,toks:=x,drawn:=d }:=I.Qn y;have c:(h1.push (seqObj "list" a.toArray 0)).get? h1.objs.size=some (seqObj "list" a.toArray 0):=Z0 _ rfl;have f:∀b o,s.heap.get? b=some o->(h1.push (seqObj "list" a.toArray 0)).get? b=some o:=λb o e=>Vzu _ (y b o e);generalize h1.push (seqObj "list" a.toArray 0)=h2 at c f ⊢;have j:H h1.objs.size=none:=u.hok.fresh (XD _);have v:cN X g H h1.objs.size:=u.nG (XD _) j;generalize h1.objs.size=D at c j v ⊢
 (refine Vzw (Vzs (wpAny_call_entry slot_list_sort ⟨_,c,rfl⟩ entry_list_sort ?body (args_list_sort _))))
 case body=>
  refine zC (s:={ s with heap:=h2,toks:=x,drawn:=d }) (ds:=us'.map PyData.str) (I.Qn f) c v n (λz G _ h2 B=>ur n z G h2 B) (by lia) λp _ l r t=>?_;refine⟨_,rfl,Vzv ⟨_,rfl,?_⟩⟩;rw[XA]at l;have C:∀i∈p,i<us'.length:=λi N=>by grind
  have E:picked (us'.map V.str) p=(p.map λi=>us'.getD i ZY).map V.str:=by
   rw[Yg];refine X8 λi N=>?_
   simp_all
  have F:(p.map λi=>(us'.map PyData.str).getD i .none)=(p.map λi=>us'.getD i ZY).map PyData.str:=by
   simp_all
  have O:UpS (p.map λi=>us'.getD i ZY):=by
   unfold eW at r
   rwa [F,Yu]at r
  rw[E]at t;exact⟨.ref _,_,t,rfl,q _ _ j ((Ao l).trans w) O⟩
def Tr:Qqv->Hp->VK->Prop:=λus H Q=>Q (.int us.length) H
theorem EZ:HJ X (.builtin "len") Tr:=by
 intro _ s _ H S c Q I hS h;obtain⟨o,_,_,t,f,a,d,_,_,b,_,_,_,g⟩:=id hS;have e:=g.length_eq;rw[XA,X6]at e;exact call_len_set f a d b (by grind [scanBound]) ⟨.int c.length,H,I.tok _,⟨_,by rw[e]⟩,h⟩
end
section
open PySem.Spec PyProof.Rows
section
variable {P:Yax}{s:Vzx}
end
end
section
open PySem.Spec PyProof.Rows PySem.W
section
variable {P:Yax}{s:Vzx}
end
end
section
open PySem.Spec PyProof.Rows
theorem z9:∀{ls:Qqx}{us:Qqz},aO (ls.map V.ref) us->us=ls.map Value.ref
 | [],_,h=>by cases h;rfl
 | b::ls,_,h=>by
  cases h with
  | cons r t=>cases r;rw[z9 t];rfl
section
variable {p q:Pos}{e:Expr}
end
end
theorem Lx {s:Vzx}{x:V}{t:Vzy} (I:Inv X pins σ H s) (b:RelV x u) (ty:jI X.K H x t):W.Looks (model X.prog X.w) s.heap (typeOf u) t:=by
 cases ty with
 | non=>cases(show u=Value.none from b);exact .now
 | bl y=>cases(show u=Value.bool y from b);exact .now
 | int i=>obtain⟨t,q⟩:=(show∃t,u=Value.int i t from b);cases q;exact .now
 | str y=>obtain⟨t,q⟩:=(show∃t,u=Value.str y t from b);cases q;exact .now
 | flt y=>obtain⟨t,q⟩:=(show∃t,u=Value.float y t from b);cases q;exact .now
 | @lst a d ea=>
  cases(show u=Value.ref a from b);obtain⟨_,_,n,_,c⟩:=(show bC X.prog X.w H s.heap a (.lst d)from I.hok a _ ea);exact(Yat c).andThen .now
 | @frz a ob d ea=>
  cases(show u=Value.ref a from b);obtain⟨_,_,_,n,_,c⟩:=(show bC X.prog X.w H s.heap a (.frz ob (.lst d))from I.hok a _ ea);exact(Yat c).andThen .now
 | @tup a d ea=>
  cases(show u=Value.ref a from b);obtain⟨_,_,_,p⟩:=(show bC X.prog X.w H s.heap a (.tup d)from I.hok a _ ea);obtain⟨o,c,e,_⟩:=p;exact e ▸ (Yat c).andThen .now
 | @dK a kvs ea=>
  cases(show u=Value.ref a from b);obtain⟨_,_,_,_,p⟩:=(show bC X.prog X.w H s.heap a (.dK kvs)from I.hok a _ ea);obtain⟨o,f,g,c,e,_⟩:=p;exact e.1 ▸ (Yat c).andThen .now
 | @dT a kvs ea=>
  cases(show u=Value.ref a from b);obtain⟨_,_,d,_,o,f,g,c,e,_⟩:=(show bC X.prog X.w H s.heap a (.dT kvs)from I.hok a _ ea);exact e.1 ▸ (Yat c).andThen .now
 | @ins a C dx fs ea cl ha hn htk hm=>
  cases(show u=Value.ref a from b);obtain⟨_,O,_⟩:=ie I.hok ea;obtain⟨_,J,_⟩:=O.look;exact J.type
structure NeT (K:Vzz) (C:Yau):Prop where
 ne:W1 K (.ref C) "__ne__" = some (some (.builtin "object.__ne__"))
 hm:W.mroIn K C (.type "object")=some true
def FG (K:Vzz) (C:Yau) (sp:Sp):R2:=λx y H Q=>∃a dx fs t,x = .ref a/\H a=some (.ins C dx fs)/\jI K H y t/\Yad K C t=true/\sp [.ref a,y] H (λv H'=>∃b,v = .bl b/\Q (.bl !b) H') E0
section
variable {k:Nat}
theorem BR {s:Vzx}{x:Yau}{e:Option Obj}{a:Qqz}{Q:Option Vzy->Vzx->Prop} (Z:K.In s.heap) (I:W.InstAt s.heap x ox C e) (d:W1 K (.ref C) "__ne__" = some (some (.builtin "object.__ne__")))
  (h:Yb1 M A (call (.builtin "object.__ne__") (.ref x::a)) (λv=>Q (some v)) E s):Yb1 M A (callSpecialIfBound? (.ref x) "__ne__" a) Q E s:=by
 refine Vzs (Vzw (Vzw (Vzw (I.type.here ((W.looks_findIn Z d).here ?_)))));refine Vzw (wpAny_askSetting (wpAny_ite ?_));have b:=Vzw (Vzt h (λv _ c=>Vzv c) λ_ _ c=>c);rw[F.cmp_object.ne.bind]
 split
 ·exact Vzw (Vzv (Vzv b))
 ·exact wpAny_tryCatch (Vzw (Vzv (Vzv b)))
theorem rQ (o:ix X.K C "__eq__" f) (l:NeT X.K C) (U:d6 X.prog X.w X.K X.mg X.base CX0 k f fd ["self","other"] sp) (n:bB (k+2) X.A) (S:Binds X.K fd ["self","other"] []):OpR X (compareOp .NotEq) (FG X.K C sp):=by
 rintro g s N H x y v u Q I D j ⟨a,_,_,t,rfl,E,T,p,h⟩;obtain rfl:v=Value.ref a:=D;obtain⟨m,_⟩:=I.fr;have Z:=I.kIn;obtain⟨_,O,_⟩:=ie I.hok E;obtain⟨_,J,_⟩:=O.look;refine W.cmp_ofNotEq ?_;have M:X.A.units+1<cLine:=by have:=n.un;lia
 have d:Yb1 (model X.prog X.w) X.A (tryCompare (.ref a) "__ne__" u) (λr i=>∃b,r=some (Value.bool b)/\EP X g N Q (.bool b) i) X.xe s:=by
  refine Vzw (BR Z J l.ne ?_);refine wpAny_call (codeAny_call_builtin F.cmp_object.ne.plain F.cmpEntry_ne (W.check_slot F.cmpKind_ne F.cmpSplit_ne (J.type.andThen (W.looks_mroIn Z l.hm)) (F.cmpArgs_ne _ _) ?_))
  repeat (first | with_reducible refine wpAny_cRoomFor M ?_ | with_reducible refine W.ifBound_K Z J o.at_ o.fn ?_ | wp_step)
  refine codeAny_mono (U.run X.A.in1 X.stack s H ⟨[.ref a,u],[]⟩ [.ref a,u] [.ref a,y] _ E0 (n.mono (YL _)).in1 I.CI.in1 (by have:=S s [.ref a,u] I.kIn rfl;simpa using this) (.cons rfl (.cons j .nil)) h) λr i c=>?_;cases r with
  | error e=>exact False.elim c
  | ok R=>
   cases R with
   | ret u=>
    obtain⟨v,P,B,G,t,L,q3⟩:=I.after c;subst L;obtain rfl:u=Value.bool t:=G
    repeat wp_step
    exact⟨!t,rfl,.bl !t,P,B,rfl,q3⟩
   | next=>exact False.elim c
   | brk=>exact False.elim c
   | cont=>exact False.elim c
 unfold richCompare;simp only[oneThing_ref];refine Vzs (Vzw (wpAny_cRoomFor (by lia) ?_));refine Vzw (J.type.here (Vzw ((Lx I j T).here ?_)))
 split
 ·rename_i q;have e:W.subIn X.K t (.ref C)=some false:=by
   rcases Bool.or_eq_true_iff.mp p with e | e
   ·lia
   ·exact beq_iff_eq.mp e
  refine Vzw ((W.looks_subIn Z e).here ?_);refine Vzw (Vzt d (λr i z=>?_) λ_ _ e=>e);obtain⟨v,rfl,c⟩:=z;exact Vzv c
 ·refine Vzw (Vzv ?_);refine Vzw (Vzt d (λr i z=>?_) λ_ _ e=>e);obtain⟨v,rfl,c⟩:=z;exact Vzv c
end
def LM (K:Vzz):Qqt->Hp->VK->Prop:=λvs H Q=>∃a xs,((vs=[.ref a,.ty "tuple"]/\SqT K H a xs)\/(vs=[.ref a,.ty "list"]/\SqL K H a xs))/\Q (.bl true) H
theorem vV:fV X (.builtin "isinstance") (LM X.K):=by
 intro _ s _ H _ _ Q I k h;obtain⟨a,_,h,q⟩:=h;rcases h with⟨rfl,g⟩ | ⟨rfl,g⟩
 ·obtain⟨u,f,rfl,j,e⟩:=vals2 k;obtain rfl:f = Value.type "tuple" :=e;obtain rfl:u=Value.ref a:=j;obtain⟨b,m,i,l⟩:=I.tuple g;obtain⟨o,c,d,_⟩:=i;exact WK W.kitx_tuple I.kIn ⟨o,c,d⟩ (by rfl) (λz=>nomatch z) λp=>⟨.bl true,H,I.tok _,rfl,q⟩
 ·obtain⟨u,f,rfl,j,e⟩:=vals2 k;obtain rfl:f = Value.type "list" :=e;obtain rfl:u=Value.ref a:=j;obtain⟨b,m,i,l⟩:=I.list g;obtain⟨o,n,c,d,_⟩:=i;exact WK W.kitx_list I.kIn ⟨o,c,d⟩ (by rfl) (λz=>nomatch z) λp=>⟨.bl true,H,I.tok _,rfl,q⟩
def V6 (K:Vzz) (ta tb:TE):TE:=λσ H Q=>ta σ H λx H1=>∃k,M3 K x H1 k/\if k=true then Q x H1 else tb σ H1 Q
theorem OD {a b:Expr}{rest:List Expr}{tb:TE} (r:PE X a ta) (u:PE X (.BoolOp .Or (b::rest) pos) tb):PE X (.BoolOp .Or (a::b::rest) pos) (V6 X.K ta tb):=by
 intro d s e H Q I h;refine PyProof.Rows.BoolOp_or (thn (r d s e H _ I h) λv n ⟨x,f,t,j,k,q,l⟩=>?_);refine thn (KJ d n e f x v (λc g=>c=k/\g=f) t j ⟨k,q,rfl,rfl⟩) λc m ⟨g,i,o,p⟩=>?_;subst o;subst p;cases c with
 | false=>exact u d m e _ Q i l
 | true=>exact⟨x,_,i,j,l⟩
def Vv (K:Vzz) (ta tb:TE):TE:=λσ H Q=>∃Pre:V->Hp->Prop,(∀x H1,Pre x H1->Q x H1)/\ta σ H λx H1=>∃k,M3 K x H1 k/\if k=true then Pre x H1 else tb σ H1 Pre
theorem QR {a b:Expr}{rest:List Expr}{tb:TE} (g:PE X a ta) (j:PE X (.BoolOp .Or (b::rest) pos) tb):PE X (.BoolOp .Or (a::b::rest) pos) (Vv X.K ta tb):=by
 intro c s l H Q I ⟨d,i,h⟩;exact thn (OD g j c s l H d I h) λv _ ⟨x,e,f,k,m⟩=>⟨x,e,f,k,i _ _ m⟩
section
open PySem.Spec PyProof.Rows
def Em (K:Vzz):V->Qqt->Hp->VK->Prop:=λx vs H Q=>∃(xs:Qqy) (y:V) (d:Yaz),vs=[y]/\Den K H x (.list xs)/\Den K H y d/\d.depth<=100/\Q (.int (xs.countP λe=>Z7 e d:Nat)) H
theorem G6 {k:Nat} (r:bB k X.A):MtR X "list.count" (Em X.K):=by
 intro _ s _ H x _ v _ Q I g i h;obtain⟨e,y,d,rfl,c,f,j,q⟩:=h;obtain⟨u,rfl,m⟩:=i.one;obtain⟨_,t⟩:=I.reads c g;obtain⟨_,l⟩:=I.reads f m;have b:Z4 e=true:=by simpa[PyData.canLay0]using c.lay
 cases t with
 | @list a o its n _ _ h1 h2 h3 h4=>
  have p:s.heap.get? a=some { cls:=.type "list",dict:=o.dict,data:=.seq its n,slots:=o.slots }:=by
   rw[h1,<-h2,<-h3]
  refine call_meets Yap ⟨_,h1,h2⟩ PySem.F.entry_list_count (PySem.F.args_list_count_2 _ _) (SeqAt.list_countAt a its n _ _ u (λz=>Z7 (SeqAt.readOf s.heap z) d)) ⟨p,SeqAt.items_eqAt h4 l b f.lay (yn r j),?_⟩;refine⟨.int _,H,I.tok _,⟨_,rfl⟩,?_⟩
  rwa [<-(SeqAt.readsAll_map e _ _ b h4),List.countP_map]at q
def iu (h:Heap) (z TI TO T:Yau) (b:Bool):Prop:=h.get? z=some { cls:=.type "zip",dict:=none,data:=.fields #[rawInt T,.bool b,.bool false,.ref TI,.ref TO],slots:=#[] }
section
variable {s:Vzx}
theorem zR {Q:Option Obj->Vzx->Prop} (h:Q (s.heap.get? a) s):Yb1 (model prog w) A (loadIfAlive a) Q E s:=λΓ p _=>by
 assumption
theorem yR {z TI TO:Yau}{d:Bool}{Q:Bool->Vzx->Prop} (hz:iu s.heap z TI TO T d) (hT:s.heap.get? T=some oT) (h:∀h',iu h' z TI TO T true->UV z s.heap h'->Q false { s with heap:=h' }):Yb1 (model prog w) A (Builtin.SmallTypes.ownedTupleIsFree (.ref z)) Q E s:=by
 refine Vzw (wpAny_field hz rfl (x:=rawInt T) rfl ?_);refine Vzw (zR ?_);rw[Yv,hT];refine Vzw (wpAny_field hz rfl (x:=.bool d) rfl ?_);cases d with
 | true=>exact Vzv (h s.heap hz (Heap.SameBut.refl ..))
 | false=>exact Vzw (wpAny_setField_rec hz (by simp) λc b a=>Vzv (h c b a))
theorem uG {z TI TO j k l m:Yau}{G:Bool}{t:Nat}{xs ys:Qqw}{x y:Vzy} (D:ZipApart z TI TO j k l m)
  (hz:iu s.heap z TI TO T G) (hT:s.heap.get? T=some oT) (u:IsPair s.heap TI (.ref j) (.ref k))
  (h1:s.heap.IsListIter j l t) (h2:s.heap.IsListIter k m q) (p:s.heap.IsList l xs) (r:s.heap.IsList m ys) (hx:xs[t]? = some x) (H:ys[q]? = some y)
  (F:∀h',iu h' z TI TO T true->h'.IsListIter j l (t+1)->h'.IsListIter k m (q+1)->IsPair h' s.heap.objs.size x y->h'.objs.size=s.heap.objs.size+1 ->
   (∀c o,c≠z->c≠j->c≠k->s.heap.get? c=some o->h'.get? c=some o)->Q (.ref s.heap.objs.size) { s with heap:=h' }) :
  Yb1 (model prog w) A (Builtin.«zip.__next__» ⟨[.ref z],[]⟩) (λfin s'=>∃v,fin = .done (.ret v)/\Q v s') E s:=by
 show Yb1 _ _ (field (.ref z) 2 >>= _) _ _ _;refine Vzw (wpAny_field hz rfl (x:=.bool false) rfl ?_);refine Vzw (wpAny_field hz rfl (x:=.ref TI) rfl ?_);refine Vzw (wpAny_seqItems u rfl ?_);refine Vzw (yR hz hT λ_ h a=>?_);simp only[Yh,if_false];rw[<-Y9];refine Vzw (Vzw (Vzw (Vzs ?_)));refine Vzw (wpAny_nextOf_list_item (h1.extBut a.extBut D.i1z) (p.extBut a.extBut D.l1z) hx λ_ i b=>Vzv (Vzv ?_));refine Vzw (Vzw (Vzs ?_));refine Vzw (wpAny_nextOf_list_item ((h2.extBut a.extBut D.i2z).extBut b.extBut D.i12.symm) ((r.extBut a.extBut D.l2z).extBut b.extBut D.l2i1) H λf g d=>Vzv (Vzv (Vzv ?_)));have hsz:f.objs.size=s.heap.objs.size:=by rw[d.1,b.1,a.1]
 refine Vzw (wpAny_newTuple (hsz:=by show 2<=Yb0;decide) (Vzv ⟨_,rfl,?_⟩));have n:∀c o,f.get? c=some o->(f.push { cls:=.type "tuple",data:=.seq #[x,y] }).get? c=some o:=λc o e=>Vzu _ e;rw[hsz];exact F _ (n _ _ (d.extBut _ _ D.i2z.symm (b.extBut _ _ D.i1z.symm h))) (((i.extBut d.extBut D.i12)).at λo e=>n _ o e) (g.at λo e=>n _ o e) (by rw[<-hsz];exact Z0 _ rfl) (by rw[Heap.size_push,hsz]) λc o C B I e=>n c o (d.extBut _ _ I (b.extBut _ _ B (a.extBut _ _ C e)))
theorem uA {z TI TO i j n q:Yau}{C:Bool}{p v:Nat}{xs ys:Qqw}{Q:Fin->Vzx->Prop} (u:A.handled=none) (D:ZipApart z TI TO i j n q)
  (hz:iu s.heap z TI TO T C) (hT:s.heap.get? T=some oT) (t:IsPair s.heap TI (.ref i) (.ref j))
  (h1:s.heap.IsListIter i n p) (h2:s.heap.IsListIter j q v) (h:s.heap.IsList n xs) (m:s.heap.IsList q ys) (F:xs[p]? = none\/ys[v]? = none)
  (y:∀h' e,(∀c o,c≠z->c≠i->c≠j->s.heap.get? c=some o->h'.get? c=some o)->(∃o,h'.get? e=some o/\o.cls = .type "StopIteration")->E (.ref e) { s with heap:=h' }) :
  Yb1 (model prog w) A (Builtin.«zip.__next__» ⟨[.ref z],[]⟩) Q E s:=by
 show Yb1 _ _ (field (.ref z) 2 >>= _) _ _ _;refine Vzw (wpAny_field hz rfl (x:=.bool false) rfl ?_);refine Vzw (wpAny_field hz rfl (x:=.ref TI) rfl ?_);refine Vzw (wpAny_seqItems t rfl ?_);refine Vzw (yR hz hT λ_ _ a=>?_);simp only[Yh,if_false];rw[<-Y9];refine Vzw (Vzw (Vzw (Vzs ?_)));cases hx:xs[p]? with
 | none=>
  refine Vzw (wpAny_nextOf_list_end u (h1.extBut a.extBut D.i1z) (h.extBut a.extBut D.l1z) hx λd e b l=>?_);exact y d e (λc o k r _ x=>b _ _ r (a.extBut _ _ k x)) l
 | some x=>
  refine Vzw (wpAny_nextOf_list_item (h1.extBut a.extBut D.i1z) (h.extBut a.extBut D.l1z) hx λd _ b=>Vzv (Vzv ?_));refine Vzw (Vzw (Vzs ?_));refine Vzw (wpAny_nextOf_list_end u ((h2.extBut a.extBut D.i2z).extBut b.extBut D.i12.symm) ((m.extBut a.extBut D.l2z).extBut b.extBut D.l2i1) (by lia) λg e f l=>?_);exact y g e (λc o k B r x=>f _ _ r (b.extBut _ _ B (a.extBut _ _ k x))) l
theorem Bn {z TI TO e:Yau}{p:Bool}{g:Nat}{xs ys:Qqw}{x y:Vzy}{Q:Option Vzy->Vzx->Prop} (D:ZipApart z TI TO a b d e)
  (hz:iu s.heap z TI TO T p) (hT:s.heap.get? T=some oT) (j:IsPair s.heap TI (.ref a) (.ref b))
  (h1:s.heap.IsListIter a d i) (h2:s.heap.IsListIter b e g) (f:s.heap.IsList d xs) (h:s.heap.IsList e ys) (hx:xs[i]? = some x) (q:ys[g]? = some y)
  (l:∀h',iu h' z TI TO T true->h'.IsListIter a d (i+1)->h'.IsListIter b e (g+1)->IsPair h' s.heap.objs.size x y->h'.objs.size=s.heap.objs.size+1 ->
   (∀c o,c≠z->c≠a->c≠b->s.heap.get? c=some o->h'.get? c=some o)->Q (some (.ref s.heap.objs.size)) { s with heap:=h' }) :
  Yb1 (model prog w) A (pyNext (.ref z)) Q E s:=by
 have k:s.TypeIs (.ref z) "zip" :=⟨_,hz,rfl⟩;exact Vzw (wpAny_attempt (wpAny_callSpecial?_slot (name:=WU "__next__") k F.slot_zip_next
  (wpAny_call_entry F.slot_zip_next k F.entry_zip_next
   (uG D hz hT j h1 h2 f h hx q λh' t m v r u n=>Vzv (l h' t m v r u n)) (F.args_zip_next_1 _))))
theorem AI {z TI TO h i:Yau}{u:Bool}{k:Nat}{xs ys:Qqw}{Q:Option Vzy->Vzx->Prop} (q:A.handled=none) (D:ZipApart z TI TO a d h i)
  (hz:iu s.heap z TI TO T u) (hT:s.heap.get? T=some oT) (j:IsPair s.heap TI (.ref a) (.ref d))
  (h1:s.heap.IsListIter a h m) (h2:s.heap.IsListIter d i k) (f:s.heap.IsList h xs) (g:s.heap.IsList i ys) (n:xs[m]? = none\/ys[k]? = none)
  (p:∀h',(∀c o,c≠z->c≠a->c≠d->s.heap.get? c=some o->h'.get? c=some o)->Q none { s with heap:=h' }):Yb1 (model prog w) A (pyNext (.ref z)) Q E s:=by
 have l:s.TypeIs (.ref z) "zip" :=⟨_,hz,rfl⟩;refine Vzw (wpAny_attempt (wpAny_callSpecial?_slot (name:=WU "__next__") l F.slot_zip_next
  (wpAny_call_entry F.slot_zip_next l F.entry_zip_next (uA q D hz hT j h1 h2 f g n λh' e x r=>?_) (F.args_zip_next_1 _))))
 obtain⟨o,v,t⟩:=r;refine Vzw (wpAny_isInstance (T:= "StopIteration") (b:=true) ⟨o,v,t⟩ isSubtype_stop ?_);exact Vzv (p _ x)
end
def tY (H0 H:Hp) (xs ys acc:Qqt):Prop:=∀(j:Nat) x y,j<acc.length->xs[j]? = some x->ys[j]? = some y->∃t,acc[j]? = some (.ref t)/\H t=some (.tup [x,y])/\H0 t=none
theorem JW {z TI TO r S:Yau}{G:Vzy} (hh:A.in1.handled=none) (D:ZipApart z TI TO r C a b) (hq:SqL X.K H0 a xs) (af:SqL X.K H0 b ys) (aq:H0 S=none) (hsz:min xs.length ys.length<=1000000)
  (hR:∀s' H' acc,Inv X pins σ H' s'->ab H0 H'->H' S=some (.lst acc)->acc.length=min xs.length ys.length->tY H0 H' xs ys acc->R (.ok (.ret G)) s') :
  ∀(k i:Nat) (s:Vzx) (H:Hp) (acc:Qqt),min xs.length ys.length - i=k->i<=min xs.length ys.length->Inv X pins σ H s->(∀c∈[z,TI,TO,r,C],cN X pins H c)->ab H0 H->H S=some (.lst acc)->acc.length=i->tY H0 H xs ys acc ->
   IsPair s.heap TI (.ref r) (.ref C)->(∃u v,IsPair s.heap TO u v)->s.heap.IsListIter r a i->s.heap.IsListIter C b i->(IsZip s.heap z TI TO .none\/∃T bb p q,iu s.heap z TI TO T bb/\H T=some (.tup [p,q])) ->
   codeAny (model X.prog X.w) A (.builtin "list.extend.loop" ⟨[.ref S,.ref z,G],[]⟩) R s:=by
 have as:∀{H:Hp},(∀c∈[z,TI,TO,r,C],cN X pins H c)->∀{c:Yau}{o:HO},H c=some o->c∉[z,TI,TO,r,C]:=λO c o e E=>by rw[(O c E).1]at e;cases e
 intro k
 induction k with
 | zero=>
  intro i s H acc hk hi I O Q hS N DB l h h1 h2 m;refine codeAny_builtin F.entry_extend_loop ?_;rw[ZB F.plain_extend_loop _];obtain⟨a9,rv,p,_⟩:=I.list (Q.seq hq);obtain⟨ae,a7,p',_⟩:=I.list (Q.seq af);have hl:=rv.length;have aw:=a7.length;have vo:a9.toArray[i]? = none\/ae.toArray[i]? = none:=by
   grind
  obtain⟨u,v,h⟩:=h;have L:∀g:Heap,(∀c o,c∉[z,TI,TO,r,C]->s.heap.get? c=some o->g.get? c=some o)->R (.ok (.ret G)) { s with heap:=g }:=λg B=>hR _ H acc (I.dJ (t':=s.toks) (wr:=[z,TI,TO,r,C]) O B) Q hS (by lia) DB;rcases m with m | ⟨T,bb,pp,qq,m,hT⟩
  ·exact Vzw (wpAny_pyNext_zip_end hh D m l h h1 h2 p.isList p'.isList vo λg B=>Vzv (L g λc o d e=>B c o (λq=>d (by simp[q])) (λq=>d (by simp[q])) (λq=>d (by simp[q])) (λq=>d (by simp[q])) e))
  ·obtain⟨_,fP,_,oT,eT,_⟩:=(show bC X.prog X.w H s.heap T (.tup [pp,qq])from I.hok T _ hT);exact Vzw (AI hh D m eT l h1 h2 p.isList p'.isList vo λg B=>Vzv (L g λc o d e=>B c o (λq=>d (by simp[q])) (λq=>d (by simp[q])) (λq=>d (by simp[q])) e))
 | succ k ih=>
  intro i s H acc hk hi I O Q hS N DB l h h1 h2 m;refine codeAny_builtin F.entry_extend_loop ?_;rw[ZB F.plain_extend_loop _];obtain⟨a9,rv,p,_⟩:=I.list (Q.seq hq);obtain⟨ae,a7,p',_⟩:=I.list (Q.seq af);have hx:xs[i]? = some xs[i]:=XJ (by lia);have hy:ys[i]? = some ys[i]:=XJ (by lia);generalize xs[i]=x at hx;generalize ys[i]=y at hy;obtain⟨u,hu,ru⟩:=rv.get hx;obtain⟨v,hv,ap⟩:=a7.get hy;obtain⟨_,_,h⟩:=h;have J:H s.heap.objs.size=none:=I.hok.fresh (XD _);have P:∀(g:Heap) (T:Yau) (bb:Bool) (p q:V),iu g z TI TO T bb->(upd H s.heap.objs.size (.tup [x,y])) T=some (.tup [p,q])->IsPair g TI (.ref r) (.ref C)->(∃u v,IsPair g TO u v)->g.IsListIter r a (i+1)->g.IsListIter C b (i+1)->IsPair g s.heap.objs.size u v->(∀c o,c∉[z,TI,TO,r,C]->s.heap.get? c=some o->g.get? c=some o) ->
    Yb1 (model X.prog X.w) A.in1 (updateSeq S (·.push (.ref s.heap.objs.size)) >>= λ_=>again (.builtin "list.extend.loop" ⟨[.ref S,.ref z,G],[]⟩)) (λL s'=>match L with | .done f=>R (.ok f) s' | .again c'=>c'.quiet=true/\codeAny (model X.prog X.w) A c' R s') (λe s'=>R (.error e) s') { s with heap:=g }:=λg T bb pp qq ai U Vk OW ag aj Vl B=>by
   have I2:Inv X pins σ (upd H s.heap.objs.size (.tup [x,y])) { s with heap:=g }:=I.kG (t':=s.toks) (wr:=[z,TI,TO,r,C]) O B (XD _) ⟨by show 2<=Yb0;decide,[u,v],.cons ru (.cons ap .nil),⟨_,Vl,rfl,_,rfl⟩⟩;have s1:ab H (upd H s.heap.objs.size (.tup [x,y])):=ab.new J;have M:=s1 _ _ hS;have ah:S≠s.heap.objs.size:=nw hS J
   have W:∀c∈[z,TI,TO,r,C],cN X pins (upd H s.heap.objs.size (.tup [x,y])) c:=λc E=>⟨by
    have av:∃o,s.heap.get? c=some o:=by
     simp only[XQ,Yi,or_false]at E;obtain⟨_,e1,_⟩:=h1;obtain⟨_,e2,_⟩:=h2;rcases E with rfl | rfl | rfl | rfl | rfl
     ·rcases m with m | ⟨_,_,_,_,m,_⟩ <;> exact⟨_,m⟩
     ·exact⟨_,l⟩
     ·exact⟨_,h⟩
     ·exact⟨_,e1⟩
     ·exact⟨_,e2⟩
    obtain⟨o,e⟩:=av;rw[ao (X3 (Z1 e))];exact(O c E).1,(O c E).2⟩
   obtain⟨_,Ve,_,rr,_,e3⟩:=I2.Gf M;have ak:(upd H s.heap.objs.size (.tup [x,y])) s.heap.objs.size=some (.tup [x,y]):=aa;generalize upd H s.heap.objs.size (.tup [x,y])=H2 at I2 s1 M W U ak;refine Vzw (wpAny_updateSeq e3 rfl (Vzv ⟨plainId_quiet F.plain_extend_loop _,?_⟩) (by rw[XO];lia) (by rw[Array.size_push,XO];lia));have nS:∀{c:Yau},c∈[z,TI,TO,r,C]->c≠S:=λE e=>(as O hS) (by rwa [<-e]);have up:∀c o,c≠S->g.get? c=some o->(g.update S (Z9 λz=>z.push (.ref s.heap.objs.size))).get? c=some o:=λc o n e=>(W9 _ _ (Ya4 n)).trans e;have au:T≠S:=nw U M
   have RU:tY H0 (upd H2 S (.lst (acc++[.ref s.heap.objs.size]))) xs ys (acc++[.ref s.heap.objs.size]):=λj x' y' hj Z a0=>by
    by_cases a8:j<acc.length
    ·obtain⟨t,e1,e2,e3⟩:=DB j x' y' a8 Z a0;exact⟨t,by rwa [Yp a8],by rw[ao λe=>by rw[e,hS]at e2;cases e2];exact s1 _ _ e2,e3⟩
    ·rw[XI,XZ]at hj;have Y:j=acc.length:=by lia
     rw[Y,N,hx]at Z;rw[Y,N,hy]at a0;cases Z;cases a0;exact⟨s.heap.objs.size,by rw[Y];simp,by rwa [ao ah.symm],Q.free J⟩
   obtain⟨u1,v1,OW⟩:=OW;exact ih (i+1) _ _ _ (by lia) (by lia) (I2.FX (jG:=Ve++[.ref s.heap.objs.size]) (ys:=acc++[.ref s.heap.objs.size]) (t':=s.toks) (f:=λz=>z.push (.ref s.heap.objs.size)) M e3 (by simp) (rr.append (.cons (show RelV (.ref s.heap.objs.size) (.ref s.heap.objs.size)from rfl) .nil)) (by rw[XI,XZ];have:=sizeLine_eq;lia)) (λc E=>⟨by rw[ao (nS E)];exact(W c E).1,(W c E).2⟩) (ar aq (Q.trans s1)) aa (by rw[XI,N];rfl) RU (up _ _ (nS (by simp)) Vk) ⟨u1,v1,up _ _ (nS (by simp)) OW⟩ (ag.at λo e=>up _ o (nS (by simp)) e) (aj.at λo e=>up _ o (nS (by simp)) e) (.inr ⟨T,bb,pp,qq,up _ _ (nS (by simp)) ai,by rwa [ao au]⟩)
  rcases m with m | ⟨T,bb,pp,qq,m,hT⟩
  ·refine Vzw (wpAny_pyNext_zip_item D m l h h1 h2 p.isList p'.isList (x:=u) (y:=v) (by simpa using hu) (by simpa using hv) λg a1 a2 a3 a4 a5 a6 B=>?_);exact P g s.heap.objs.size false x y a1 aa (B _ _ D.TIz D.TITO D.TIi1 D.TIi2 l) ⟨_,_,a2⟩ a3 a4 a5 λc o d e=>B c o (λq=>d (by simp[q])) (λq=>d (by simp[q])) (λq=>d (by simp[q])) (λq=>d (by simp[q])) e
  ·obtain⟨_,fP,_,oT,eT,_⟩:=(show bC X.prog X.w H s.heap T (.tup [pp,qq])from I.hok T _ hT);refine Vzw (Bn D m eT l h1 h2 p.isList p'.isList (x:=u) (y:=v) (by simpa using hu) (by simpa using hv) λg a1 a3 a4 a5 a6 B=>?_);exact P g T true pp qq a1 (ab.new J _ _ hT) (B _ _ D.TIz D.TIi1 D.TIi2 l) ⟨_,_,B _ _ D.TOz D.TOi1 D.TOi2 h⟩ a3 a4 a5 λc o d e=>B c o (λq=>d (by simp[q])) (λq=>d (by simp[q])) (λq=>d (by simp[q])) e
theorem C8:typeLookup (.type "zip") "__len__" = pure none:=by rw[typeLookup_type,builtinLookup_eq_fast];kernel_rfl
theorem zp:typeLookup (.type "zip") "__length_hint__" = pure none:=by rw[typeLookup_type,builtinLookup_eq_fast];kernel_rfl
theorem Co {s:Vzx}{z TI TO l m S:Yau}{g:Vzy} (N:A.in1.handled=none) (D:ZipApart z TI TO l m a b) (hq:SqL X.K H0 a xs) (r:SqL X.K H0 b ys) (i:H0 S=none) (hsz:min xs.length ys.length<=1000000)
  (I:Inv X pins σ H s) (B:∀c∈[z,TI,TO,l,m],cN X pins H c) (W:ab H0 H) (hS:H S=some (.lst [])) (J:IsPair s.heap TI (.ref l) (.ref m)) (h:∃u v,IsPair s.heap TO u v) (h1:s.heap.IsListIter l a 0) (h2:s.heap.IsListIter m b 0) (hz:IsZip s.heap z TI TO .none)
  (P:∀s' H' acc,Inv X pins σ H' s'->ab H0 H'->H' S=some (.lst acc)->acc.length=min xs.length ys.length->tY H0 H' xs ys acc->R (.ok (.ret g)) s') :
  Yb1 (model X.prog X.w) A.in1 (Builtin.List.listExtendWith (.ref S) (.ref z) g)
   (λfin s'=>match fin with | .done f=>R (.ok f) s' | .again c'=>c'.quiet=true/\codeAny (model X.prog X.w) A c' R s') (λe s'=>R (.error e) s') s:=by
 have d:∀{c:Yau},c∈[z,TI,TO,l,m]->c≠S:=λ{c} k e=>by
  have:=(B c k).1;lia
 have L:S≠z:=(d (by simp)).symm;have hT:s.TypeIs (.ref z) "zip" :=⟨_,hz,rfl⟩;refine Vzw (wpAny_typeOf hT ?_);have T:Yal (.ref S) (.ref z)=false:=by simp[Yal,L]
 have U:(Value.type "zip" == Value.type "list")=false:=by decide
 have Z:(Value.type "zip" == Value.type "tuple")=false:=by decide
 simp only[T,U,Z,Zx,Yh,if_false];refine Vzw (wpAny_pyIter_zip hz ?_);refine Vzw (Vzs ?_);refine Vzw (wpAny_specialOf hT C8 ?_);refine Vzw (wpAny_specialOf hT zp ?_);refine Vzv ?_;show Yb1 _ A.in1 (rule "list.extend.makes-room" >>= λ_=>Builtin.List.listTouch (.ref S) >>= λ_=>
  again (.builtin "list.extend.loop" ⟨[.ref S,.ref z,g],[]⟩)) _ _ _
 refine Vzw (wpAny_rule ?_);refine Vzw ?_;obtain⟨_,_,_,Q,_,C⟩:=I.Gf hS;cases Q;refine Vzw (wpAny_updateSeq C rfl ?_);have M:=I.FX (jG:=[.none]) (ys:=[.non]) (t':=s.toks) (f:=λz=>z.push .none) hS C (by simp) (.cons (show RelV .non .none from rfl) .nil) (by decide);refine wpAny_updateSeq (hz:=by seq_fits) (Heap.get?_update_self (Z9 (·.push Value.none)) C rfl) rfl ?_
 obtain⟨_,Y,_,E,_,O⟩:=M.Gf aa;have G:∃q,Y=[q]:=by
  cases E with
  | cons _ t=>cases t;exact⟨_,rfl⟩
 obtain⟨_,rfl⟩:=G;have p:∀c o,c≠S->s.heap.get? c=some o->((s.heap.update S (Z9 (·.push Value.none))).update S (Z9 (·.pop))).get? c=some o:=λc o n e=>(W9 _ _ (Ya4 n)).trans ((W9 _ _ (Ya4 n)).trans e)
 obtain⟨u,v,h⟩:=h;refine Vzv ⟨plainId_quiet F.plain_extend_loop _,JW N D hq r i hsz P _ 0 _ _ [] rfl (XT _) (M.FX (jG:=[]) (ys:=[]) (t':=s.toks) (f:=λz=>z.pop) aa O (by simp) .nil (XT _)) (λc k=>⟨by rw[ao (d k),ao (d k)];exact(B c k).1,(B c k).2⟩) (ar i (ar i W)) aa rfl (λj x y hj=>by simp at hj) (p _ _ (d (by simp)) J) ⟨u,v,p _ _ (d (by simp)) h⟩ (h1.at λo e=>p _ o (d (by simp)) e) (h2.at λo e=>p _ o (d (by simp)) e) (.inl (p _ _ (d (by simp)) hz))⟩
def Il (K:Vzz):Qqt->Hp->VK->Prop:=λvs H Q=>∃(a b:Yau) (xs ys:Qqt),vs=[.ref a,.ref b]/\SqL K H a xs/\SqL K H b ys/\min xs.length ys.length<=1000000/\∀(D:Yau) (acc:Qqt) (H':Hp),H D=none->ab H H'->H' D=some (.lst acc)->acc.length=min xs.length ys.length->tY H H' xs ys acc->Q (.ref D) H'
theorem Dr {k:Nat}{ea m:Expr}{ta:TA}{V p2 pos yA:Pos} (hr:bB k X.A) (y:Gl X "list") (w:X.mg "list" = none) (T:Gl X "zip") (hm:X.mg "zip" = none) (ha:PA X [ea,m] ta)
  (hs:Yb2 [ea,m] X.env=(false,eval ea X.env)::Yb2 [m] X.env:=by rfl) (D:(backTo yA (Yb2 [m] X.env)).any (·.1)=false:=by rfl) :
  PE X (.Call (.Name "list" V) [.Call (.Name "zip" p2) [ea,m] [] yA] [] pos) (λσ H Q=>ta σ H λvs H1=>Il X.K vs H1 Q):=by
 intro d s σ H Q I h;refine wpAny_Call_Name_kw (eN I y w fZ ?_ (by decide) (by decide));refine W0 ?_ rfl rfl;refine Ya2 (Call_ (eN I T hm boot_zip (W0 (thn (ha yA d s σ H _ I h) λ_ s1 ⟨vs,H1,r,E,q1⟩=>?_) hs D)));obtain⟨a,b,_,ys,e,N,n,x,q⟩:=q1;subst e;obtain⟨_,_,rfl,E,r2⟩:=vals2 E;cases E;cases r2;obtain⟨_,_,O,_⟩:=r.list N;obtain⟨_,_,t,_⟩:=r.list n;have la : @LT.lt Nat _ a s1.heap.objs.size:=by obtain⟨_,e,_⟩:=O.isList;exact Z1 e
 have lb : @LT.lt Nat _ b s1.heap.objs.size:=by obtain⟨_,e,_⟩:=t.isList;exact Z1 e
 refine call_zip_2 O.isList t.isList λh' Z G B R W _ hk=>?_;have M:Inv X d σ H1 { s1 with heap:=h' }:=r.kept (t':=s1.toks) hk;refine Yai ?_;have J:∀c∈[s1.heap.objs.size+4,s1.heap.objs.size+2,s1.heap.objs.size+3,s1.heap.objs.size,s1.heap.objs.size+1],s1.heap.objs.size<=c/\c<h'.objs.size:=λc v=>by
  grind
 refine callType_codes (Q₁:=λp j=>p = .ref h'.objs.size/\j={ s1 with heap:=h'.push { cls:=.type "list",data:=.seq #[] } }) F.called_list (F.typeCall_list_1 _) F.entry_list_init (code_list_new _ ⟨rfl,rfl⟩) λp j l=>?_;obtain⟨rfl,rfl⟩:=l;have hS:(h'.push { cls:=.type "list",data:=.seq #[] }).get? h'.objs.size=some { cls:=.type "list",data:=.seq #[] }:=Z0 _ rfl;have P:∀c o,h'.get? c=some o->(h'.push { cls:=.type "list",data:=.seq #[] }).get? c=some o:=λc o e=>Vzu _ e;have g:H1 h'.objs.size=none:=M.hok.fresh (XD _);have S:Inv X d σ (upd H1 h'.objs.size (.lst [])) { s1 with heap:=h'.push { cls:=.type "list",data:=.seq #[] } }:=M.kG (t':=s1.toks) (wr:=[]) (λb hb=>by cases hb) (λb o _ e=>P b o e) (XD _) ⟨XT _,[],0,.nil,hS⟩;refine⟨⟨_,hS,rfl⟩,F.args_list_init_2 _ _,?_⟩;show Yb1 _ X.A.in1.in1 (do let old <-Builtin.List.listItems (.ref h'.objs.size);Builtin.List.listUpdate (.ref h'.objs.size) (λ_=>#[]);letGo old.toList.reverse;Builtin.List.listExtendWith (.ref h'.objs.size) (.ref (s1.heap.objs.size+4)) .none) _ _ _;refine Vzw ?_;refine Vzw (wpAny_seqItems hS rfl (Vzv ?_));refine Vzw (wpAny_updateSeq hS rfl ?_);have u:∀c∈[s1.heap.objs.size+4,s1.heap.objs.size+2,s1.heap.objs.size+3,s1.heap.objs.size,s1.heap.objs.size+1],∀o,h'.get? c=some o->((h'.push { cls:=.type "list",data:=.seq #[] }).update h'.objs.size (Z9 λ_=>#[])).get? c=some o:=λc v o e=>(W9 _ _ (Y5 (J c v).2)).trans (P c o e);refine Vzw (wpAny_letGo ?_);refine Co (A:=X.A.in1) (H0:=H1) hr.hd (by constructor <;> (show((_:Nat)≠_)) <;> lia) N n g x (S.FX (jG:=[]) (ys:=[]) (t':=s1.toks) (f:=λ_=>#[]) aa hS rfl .nil (XT _)) (λc v=>?_) (ar g (ab.new g)) aa (u _ (by simp) _ G) ⟨_,_,u _ (by simp) _ B⟩ (R.at λo e=>u _ (by simp) o e) (W.at λo e=>u _ (by simp) o e) (u _ (by simp) _ Z) λ_ L C Y s0 z U DB=>⟨rfl,.ref _,L,Y,rfl,q _ C L g s0 z U DB⟩;have i:=J c v;refine r.nG i.1 ?_;rw[ao (X3 i.2),ao (X3 i.2)];exact r.hok.fresh i.1
end
section
open PySem.Spec PyProof.Rows PySem.W
section
variable {s:Vzx}
end
end
section
open PySem.Spec PyProof.Rows
section
variable {s:Vzx}
end
end
section
open PySem.Spec PyProof.Rows PySem.W
structure PAi (X:Cx) (es:List Expr) (t:TA):Prop where
 go:PA X es t
structure PSi (X:Cx) (st:Stmt) (t:TS):Prop where
 go:PS X st t
structure Xd (X:Cx) (st:List Stmt) (t:TS):Prop where
 go:PSs X st t
theorem Dw:bootBuiltins "set" = some (.type "set"):=by decide +kernel
section
variable {s:Vzx}
end
end
section
open PySem.Spec PyProof.Rows
mutual
def ql:Yaz->Bool
 | .str _=>true
 | .tuple xs=>kF xs
 | _=>false
def kF:Qqy->Bool
 | []=>true
 | x::r=>ql x && kF r
end
mutual
def AD (w:Yay):Yaz->Int
 | .str x=>hashStr w x
 | .tuple xs=>reduceHash (Builtin.Tuple.tupleHashOf (tw w xs))
 | _=>0
def tw (w:Yay):Qqy->List Int
 | []=>[]
 | x::r=>AD w x::tw w r
end
mutual
def EE:Yaz->Nat
 | .str _=>1
 | .tuple xs=>yE xs+1
 | _=>0
def yE:Qqy->Nat
 | []=>0
 | x::r=>EE x+yE r
end
section
variable {P:Yax}
mutual
theorem rN:∀(d:Yaz) (v:Vzy) (A:Yaw) (s:Vzx) (as:Qqx) (Q:Int->Vzx->Prop),ql d=true->Reads s.heap v d as->A.units+d.depth<cLine ->
  Q (AD w d) { s with toks:=s.toks+EE d }->Yb1 (model P w) A (pyHash v) Q E s
 | .str x,_,A,s,_,Q,_,r,_,h=>by cases r;exact wpAny_pyHash_str h
 | .tuple xs,_,A,s,_,Q,ht,r,hu,h=>by
  cases r with
  | @tuple a o vs n _ as h1 h2 h3 h4=>
   rw[ZT]at hu;refine W.pyHash_slot (T:= "tuple") (B:=Builtin.«tuple.__hash__») ⟨o,h1,h2⟩ F.slot_tuple_hash F.entry_tuple_hash (F.args_tuple_hash_1 _) (beq_builtin_none _) (.inr (by lia)) ?_;show Yb1 _ _ (Builtin.Tuple.tupleItemsOf (.ref a) >>= _) _ _ s;refine Vzw (wpAny_tupleItemsOf h1 h3 (Vzw ?_));rw[<-Y9];refine wA xs vs.toList A.in1 s _ #[] _ (by simpa[ql]using ht) h4 (by lia) λb c=>?_;show Yb1 _ _ (retInt (Builtin.Tuple.tupleHashOf b.toList)) _ _ _;rw[c];exact Vzw (wpAny_mkInt (Vzv ⟨_,_,rfl,by assumption⟩))
 | .none,_,_,_,_,_,ht,_,_,_ | .bool _,_,_,_,_,_,ht,_,_,_ | .int _,_,_,_,_,_,ht,_,_,_ | .list _,_,_,_,_,_,ht,_,_,_ | .dict _,_,_,_,_,_,ht,_,_,_=>by simp[ql]at ht
theorem wA:∀(ds:Qqy) (vs:Qqz) (A:Yaw) (s:Vzx) (as:Qqx) (b:Array Int) (Q:Array Int->Vzx->Prop),kF ds=true->ReadsAll s.heap vs ds as->A.units+Z3 ds<cLine ->
  (∀b':Array Int,b'.toList=b.toList++tw w ds->Q b' { s with toks:=s.toks+yE ds }) ->
  Yb1 (model P w) A (forIn vs b λx r=>do let h <-pyHash x;pure PUnit.unit;pure (ForInStep.yield (r.push h))) Q E s
 | [],_,A,s,_,b,Q,_,r,_,h=>by
  cases r;exact Vzv (h b (by simp[tw]))
 | d::ds,_,A,s,_,b,Q,ht,r,hu,h=>by
  cases r with
  | cons c a=>
   simp only[kF,Yd]at ht;rw[Z3]at hu;rw[Zm];refine Vzw (Vzw (rN d _ A s _ _ ht.1 c (by lia) (Vzw (Vzv (Vzv ?_)))));refine wA ds _ A { s with toks:=s.toks+EE d } _ _ Q ht.2 a (by lia) λb' _=>?_
   grind [tw,yE,Nat.add_assoc]
end
mutual
theorem p9:∀(n:Nat) (d:Yaz) (v:Vzy) (A:Yaw) (s:Vzx) (as:Qqx) (Q:Bool->Vzx->Prop),ql d=true->Reads s.heap v d as->d.depth<=n->Q true s->Yb1 (model P w) A (eqIsQuiet n v) Q E s
 | n,.str x,_,A,s,_,Q,_,r,_,h=>by
  cases r;rw[eqIsQuiet_byValue n (by rfl)];exact Vzv h
 | 0,.tuple xs,_,_,_,_,_,_,_,hn,_=>by rw[ZT]at hn;lia
 | n+1,.tuple xs,_,A,s,_,Q,ht,r,hn,h=>by
  cases r with
  | @tuple a o vs m _ as h1 h2 h3 h4=>
   have hT:s.TypeIs (.ref a) "tuple" :=⟨o,h1,h2⟩;rw[ZT]at hn;unfold eqIsQuiet;refine Vzw (wpAny_specialOf hT F.slot_tuple_eq.lookup ?_);refine Vzw (wpAny_isInstance hT isSubtype_tuple_tuple ?_);refine Vzw (wpAny_seqItems h1 h3 (Vzw ?_));rw[<-Y9];refine rn n xs vs.toList A s _ _ (by simpa[ql]using ht) h4 (by lia) ?_;exact Vzv h
 | _,.none,_,_,_,_,_,ht,_,_,_ | _,.bool _,_,_,_,_,_,ht,_,_,_ | _,.int _,_,_,_,_,_,ht,_,_,_ | _,.list _,_,_,_,_,_,ht,_,_,_ | _,.dict _,_,_,_,_,_,ht,_,_,_=>by simp[ql]at ht
theorem rn:∀(n:Nat) (ds:Qqy) (vs:Qqz) (A:Yaw) (s:Vzx) (as:Qqx) (Q:Option Bool×Unit->Vzx->Prop),kF ds=true->ReadsAll s.heap vs ds as->Z3 ds<=n->Q (none,()) s ->
  Yb1 (model P w) A (forIn vs ((none,()):Option Bool×Unit) λy r=>do
   let b <-eqIsQuiet n y
   if (!b)=true then pure (ForInStep.done (some false,()))else pure (ForInStep.yield (none,()))) Q E s
 | n,[],_,A,s,_,Q,_,r,_,h=>by
  cases r;exact Vzv h
 | n,d::ds,_,A,s,_,Q,ht,r,hn,h=>by
  cases r with
  | cons c a=>
   simp only[kF,Yd]at ht;rw[Z3]at hn;rw[Zm];refine Vzw (Vzw (p9 n d _ A s _ _ ht.1 c (by lia) ?_));refine Vzv ?_;exact rn n ds _ A s _ Q ht.2 a (by lia) h
end
mutual
theorem wN {h h':Heap}{e:Yau}{o:Obj}{es:Array DictEntry}{ep:Nat} (f:h.get? e=some o) (c:o.data = .dict es ep) (b:UV e h h'):∀(d:Yaz) (v:Vzy) (as:Qqx),ql d=true->Reads h v d as->Reads h' v d as
 | .str x,_,_,_,r=>by cases r;exact .str _ _
 | .tuple xs,_,_,ht,r=>by
  cases r with
  | @tuple a o' vs n _ as h1 h2 h3 h4=>
   have g:a≠e:=λz=>by
    lia
   exact .tuple ((b.2 a g).trans h1) h2 h3 (nA f c b xs vs.toList _ (by simpa[ql]using ht) h4)
 | .none,_,_,ht,_ | .bool _,_,_,ht,_ | .int _,_,_,ht,_ | .list _,_,_,ht,_ | .dict _,_,_,ht,_=>by simp[ql]at ht
theorem nA {h h':Heap}{e:Yau}{o:Obj}{es:Array DictEntry}{ep:Nat} (b:h.get? e=some o) (a:o.data = .dict es ep) (c:UV e h h'):∀(ds:Qqy) (vs:Qqz) (as:Qqx),kF ds=true->ReadsAll h vs ds as->ReadsAll h' vs ds as
 | [],_,_,_,r=>by cases r;exact .nil
 | d::ds,_,_,ht,r=>by
  cases r with
  | cons g f=>
   simp only[kF,Yd]at ht;exact .cons (wN b a c d _ _ ht.1 g) (nA b a c ds _ _ ht.2 f)
end
end
structure kq (K:Type) [DecidableEq K] where
 enc:K->Yaz
 ok:K->Prop
 td:∀k,ql (enc k)=true
 dep:∀k,(enc k).depth<=8
 lay:∀k,ok k->(enc k).canLay0=true
 eqv:∀x y,ok x->ok y->Z7 (enc x) (enc y)=decide (x=y)
def og {K:Type} [DecidableEq K] (P:Yax) (w:Yay) (C:kq K):HeapKind P w K where
 is:=λh k a=>C.ok k/\∃as,Reads h (.ref a) (C.enc k) as
 hash:=λk=>AD w (C.enc k)
 draws:=λk=>EE (C.enc k)
 room:=λA=>A.units+8<cLine
 inj:=λ{h a x y} hx hy=>by
  obtain⟨ox,as,rx⟩:=hx;obtain⟨oy,bs,ry⟩:=hy;have h1:=C.eqv x y ox oy;rw[<-(SeqAt.Reads.unique _ _ _ _ _ (C.lay x ox) rx ry),(C.eqv x x ox ox),Yb4 rfl]at h1;lia
 keeps:=λ{h h' k a d o es ep} hk ho hd hs=>⟨hk.1,hk.2.elim λas r=>⟨as,wN ho hd hs _ _ _ (C.td k) r⟩⟩
 pyHash:=λ{A E s k a Q} hu hk h=>by
  obtain⟨_,as,r⟩:=hk;exact rN _ _ A s as Q (C.td k) r (by have:=C.dep k;lia) h
 eqBool:=λ{A E s x y a b Q} hu hx hy h=>by
  obtain⟨ox,as,rx⟩:=hx;obtain⟨oy,bs,ry⟩:=hy;refine SeqAt.eqBoolOverData P w A E s (.ref a) (.ref b) _ _ as bs Q rx ry (C.lay x ox) (C.lay y oy) (by have:=C.dep x;have:min (C.enc x).depth (C.enc y).depth<=(C.enc x).depth:=Nat.min_le_left _ _;lia) ?_
  rwa [C.eqv x y ox oy]
 quiet:=λ{A E s k a Q} hk h=>by
  obtain⟨_,as,r⟩:=hk;exact p9 8 _ _ A s as Q (C.td k) r (C.dep k) h
section
variable {K:Type} [DecidableEq K]
abbrev KPs (kvs:List (K×Yau×V)) (xs:List (K×Yau×Vzy)):Prop:=Paired (λ(p:K×Yau×V) (q:K×Yau×Vzy)=>p.1=q.1/\p.2.1=q.2.1/\RelV p.2.2 q.2.2) kvs xs
def valN (kvs:List (K×Yau×V)) (k:K):Option V:=(kvs.find? λx=>decide (x.1=k)).map (·.2.2)
def putN (kvs:List (K×Yau×V)) (k:K) (b:Yau) (v:V):List (K×Yau×V):=if (valN kvs k).isSome=true then kvs.map (λx=>if x.1=k then(x.1,x.2.1,v)else x)else kvs++[(k,b,v)]
theorem KPs.val {kvs:List (K×Yau×V)}{xs:List (K×Yau×Vzy)} (r:KPs kvs xs) (k:K):g6 (valN kvs k) ((atKey xs k).map (·.2)):=by
 induction r with
 | nil=>exact True.intro
 | @cons p q ps qs h t ih=>
  obtain⟨b,_,c⟩:=h;unfold valN atKey;rw[Yz,Yz,b];by_cases a:q.1=k
  ·rw[Yb4 a];exact c
  ·rw[Yb5 a];exact ih
theorem KPs.length {kvs:List (K×Yau×V)}{xs:List (K×Yau×Vzy)} (r:KPs kvs xs):kvs.length=xs.length:=by
 induction r with
 | nil=>rfl
 | cons _ _ ih=>rw[XX,XX,ih]
theorem KPs.snoc {kvs:List (K×Yau×V)}{xs:List (K×Yau×Vzy)} (r:KPs kvs xs) (k:K) (b:Yau)  (a:RelV v u):KPs (kvs++[(k,b,v)]) (xs++[(k,b,u)]):=by
 induction r with
 | nil=>exact .cons ⟨rfl,rfl,a⟩ .nil
 | cons h t c=>exact .cons h c
theorem KPs.put {kvs:List (K×Yau×V)}{xs:List (K×Yau×Vzy)} (r:KPs kvs xs) (k:K) (b:Yau)  (a:RelV v u):KPs (putN kvs k b v) (storedH xs k b u):=by
 unfold putN storedH;have e:=(r.val k).Fu;rw[Option.isSome_map]at e;rw[e]
 split
 ·clear e;rename_i h;clear h
  induction r with
  | nil=>exact .nil
  | @cons p q ps qs h t ih=>
   rw[XS,XS];refine .cons ?_ ih;unfold putAt;lia
 ·exact r.snoc k b a
def dNf (w:Yay) (C:kq K) (a:Yau) (kvs:List (K×Yau×V)):Heap->Prop:=λh=>kvs.length<=Yb0/\(a == sysModules)=false/\∃xs:List (K×Yau×Vzy),KPs kvs xs /\
 ∃o es ep,h.get? a=some o/\o.ExactDict/\o.data = .dict es ep/\es.toList=xs.map (λx=>(⟨AD w (C.enc x.1),.ref x.2.1,x.2.2⟩:DictEntry))/\(xs.map (·.1)).Nodup
def dN (w:Yay) (C:kq K) (a:Yau) (kvs:List (K×Yau×V)):HO:=.ext (dNf w C a kvs)
def pf (Kf:Vzz) (C:kq K) (H:Hp) (kvs:List (K×Yau×V)):Prop:=∀x∈kvs,C.ok x.1/\Den Kf H (.ref x.2.1) (C.enc x.1)
theorem Jv {P:Yax}{C:kq K}{kvs:List (K×Yau×V)} (x:dNf w C a kvs h):bC P w H h a (dN w C a kvs):=by
 refine⟨x,?_,λ_ _ y k=>?_⟩
 ·obtain⟨_,_,_,_,o,_,_,e,_⟩:=x;exact⟨o,e⟩
 ·obtain⟨z,l,d,r,o,b,c,e,q⟩:=y;exact⟨z,l,d,r,o,b,c,k o e,q⟩
section
variable {s:Vzx}{C:kq K}{kvs:List (K×Yau×V)}
theorem Jb (I:Inv X pins σ H s) (e:H a=some (dN X.w C a kvs)) (d:pf X.K C H kvs):kvs.length<=Yb0/\(a == sysModules)=false/\∃xs,KPs kvs xs/\s.heap.DictOfH (og X.prog X.w C) a xs:=by
 obtain⟨z,l,xs,r,o,u,A,c,i,f,j,g⟩:=(I.hok a _ e).1;refine⟨z,l,xs,r,o,u,A,c,i,f,j,λx b=>?_,g⟩;have:∀{l:List (K×Yau×V)}{m:List (K×Yau×Vzy)},KPs l m->pf X.K C H l->∀x∈m,(og X.prog X.w C).is s.heap x.1 x.2.1:=by
  intro l m q
  induction q with
  | nil=>intro _ x b;cases b
  | @cons p q ps qs h t ih=>
   intro d x b;rcases XQ.mp b with e | b
   ·subst e;obtain⟨k,n,_⟩:=h;have c:=d p (.head _);rw[k,n]at c;exact⟨c.1,I.reads c.2 rfl⟩
   ·exact ih (λy v=>d y (.tail _ v)) x b
 exact this r d x b
def NR (w:Yay) (Kf:Vzz) (C:kq K) (H:Hp) (a:Yau) (y:V) (o:Option V):Prop:=∃kvs k b,H a=some (dN w C a kvs)/\pf Kf C H kvs/\y = .ref b/\C.ok k/\Den Kf H (.ref b) (C.enc k)/\o=valN kvs k
def QW (w:Yay) (Kf:Vzz) (C:kq K) (H:Hp) (a:Yau) (y v:V) (H':Hp):Prop:=∃kvs k b,H a=some (dN w C a kvs)/\pf Kf C H kvs/\y = .ref b/\C.ok k/\Den Kf H (.ref b) (C.enc k)/\kvs.length<Yb0/\H' = upd H a (dN w C a (putN kvs k b v))
theorem zj (kvs:List (K×Yau×V)) (k:K) (b:Yau) (v:V):(putN kvs k b v).length<=kvs.length+1:=by
 unfold putN
 grind
variable {y:V}{r:Vzy}{o:Option V}
theorem O1 {d:V} (v:A.units+10<cLine) (I:Inv X pins σ H s) (g:NR X.w X.K C H a y o) (p:RelV y u) (j:RelV d r) (h:∀w' s',Inv X pins σ H s'->RelV (o.getD d) w'->Q w' s') :
  Yb1 (model X.prog X.w) A (call (.builtin "dict.get") [.ref a,u,r]) Q E s:=by
 obtain⟨_,k,b,e,t,rfl,m,n,l⟩:=g;cases(show u=Value.ref b from p);obtain⟨z,i,q,c,f⟩:=Jb I e t;refine call_meetsIn PySem.F.slot_dict_get f.typeIs PySem.F.entry_dict_get (PySem.F.args_dict_get_3 _ _ _) (meetsH_dict_get_default (og X.prog X.w C) a b i r) ⟨(by show A.units+1+8<cLine;lia),k,q,⟨m,I.reads n rfl⟩,f,h _ _ (I.tok _) ?_⟩;rw[l];exact(c.val k).getD j
theorem GV (B:A.units+10<cLine) (I:Inv X pins σ H s) (g:NR X.w X.K C H a y (some v)) (i:RelV y u) (h:∀w' s',Inv X pins σ H s'->RelV v w'->Q w' s') :
  Yb1 (model X.prog X.w) A (getItem (.ref a) u) Q E s:=by
 obtain⟨_,k,b,e,x,rfl,q,r,l⟩:=g;cases(show u=Value.ref b from i);obtain⟨z,_,n,f,j⟩:=Jb I e x;obtain⟨w',m,c⟩:=g6.some_of (v:=v) (o:=(atKey n k).map (·.2)) (by rw[l];exact f.val k)
 obtain⟨p,t,d⟩:=Option.map_eq_some_iff.mp m;refine wpAny_getItem_heap (knd:=og X.prog X.w C) (by show A.units+1+8<cLine;lia) ⟨q,I.reads r rfl⟩ j t ?_;rw[d];exact h w' _ (I.tok _) c
theorem Fm {Q:Unit->Vzx->Prop} (N:A.units+10<cLine) (I:Inv X pins σ H s) (g:QW X.w X.K C H a y v H') (j:RelV y u) (D:RelV v r) (h:∀s',Inv X pins σ H' s'->Q () s') :
  Yb1 (model X.prog X.w) A (setItem (.ref a) u r) Q E s:=by
 obtain⟨d,k,b,e,M,rfl,G,J,l,rfl⟩:=g;cases(show u=Value.ref b from j);obtain⟨z,x,_,c,p⟩:=Jb I e M;refine wpAny_setItem_heap (knd:=og X.prog X.w C) (hsz:=by rwa [<-c.length]) (by show A.units+1+8<cLine;lia) ⟨G,I.reads J rfl⟩ p λ_ f F=>h _ ?_;obtain⟨q,B,L,i,o,m,t,_,n⟩:=f;exact EU I (by rw[e];exact True.intro) F ⟨q,i⟩ (Jv ⟨by have:=zj d k b v;lia,x,_,c.put k b D,q,B,L,i,o,m,t,n⟩)
end
section
variable {C:kq K}{o i e f:Expr}{ty:TE}
def PH (w:Yay) (C:kq K):TE:=λ_ H Q=>∀p,H p=none->Q (.ref p) (upd H p (dN w C p []))
theorem HV:PE X (.Dict [] [] pos) (PH X.w C):=λ_ s _ H Q I h=>
 wpAny_Dict_empty ⟨.ref s.heap.objs.size,_,I.laid (a:=s.heap.objs.size) (o:=dN X.w C s.heap.objs.size []) (t':=s.toks) (λ_ _ q=>Vzu _ q) (XD _)
  (Jv ⟨XT _,by have:=I.big;simpa using(Y5 this),[],.nil,_,#[],0,Z0 _ rfl,⟨rfl,rfl,rfl⟩,rfl,rfl,YZ⟩),rfl,h _ (I.hok.fresh (XD _))⟩
def ON (w:Yay) (Kf:Vzz) (C:kq K) (td ty tx:TE):TE:=λσ H Q=>td σ H λx H1=>∃a kvs,x = .ref a/\H1 a=some (dN w C a kvs)/\ty σ H1 λy H2=>tx σ H2 λz H3=>∃o,NR w Kf C H3 a y o/\Q (o.getD z) H3
theorem F0 (S:X.A.units+10<cLine) (T:PE X o td) (J:PE X e ty) (L:PE X f tx) (m:M2 X o "get" apos e f dR):PE X (.Call (.Attribute o "get" apos) [e,f] [] dR) (ON X.w X.K C td ty tx):=by
 intro c s j H Q I h;refine wpAny_Call_method m.base m.few m.line PySem.F.plainAttrs_dict PySem.F.slot_dict_get PySem.F.type_dict_get (thn (T c s j H _ I h) λu E ⟨x,r,p,N,a,_,M,d,v⟩=>?_);subst M;obtain rfl:u=Value.ref a:=N;obtain⟨_,_,_,_,k,_,_,l,n,_⟩:=(p.hok a _ d).1;refine⟨⟨k,l,n.1⟩,λb q=>?_,?_⟩
 ·cases q;exact⟨k,l,n.2.1⟩
 rw[m.Jw];refine Calls.callWith_builtin rfl (Calls.evalArgs_plain (Ya2 (thn (J c E j r _ p v) λ_ B ⟨y,U,V,t,P⟩=>
  Ya2 (thn (L c B j U _ V P) λ_ _ ⟨z,O,G,R,_,g,q3⟩=>Yai ?_))))
 exact O1 S G g t R λ_ _ D i=>⟨_,O,D,i,q3⟩
def TH (w:Yay) (Kf:Vzz) (C:kq K) (td ty:TE):TE:=λσ H Q=>td σ H λx H1=>ty σ H1 λy H2=>∃a v,x = .ref a/\NR w Kf C H2 a y (some v)/\Q v H2
theorem zA {w0:Yay}{K0:Vzz} (B:X.w=w0) (hK:X.K=K0) (G:X.A.units+10<cLine) (J:PE X o td) (hi:PE X i ty) (E:OS i):PE X (.Subscript o i pos) (TH w0 K0 C td ty):=by
 subst B hK;intro b s e H Q I h;refine Ed PySem.F.slot_dict_getitem.lookup E (thn (J b s e H _ I h) λu n ⟨x,k,D,t,M⟩=>thn (hi b n e k _ D M) λ_ _ ⟨y,L,f,l,a,v,r,g,z⟩=>?_);subst r;obtain rfl:u=Value.ref a:=t;obtain⟨_,_,_,d,_⟩:=id g;obtain⟨_,_,_,_,j,_,_,m,q,_⟩:=(f.hok a _ d).1;exact⟨⟨j,m,q.1⟩,GV G f g l λ_ _ p c=>⟨v,L,p,c,z⟩⟩
def Sj (w:Yay) (Kf:Vzz) (C:kq K) (td ty tv:TE):TS:=λD σ H=>tv σ H λv H1=>td σ H1 λx H2=>ty σ H2 λy H3=>∃a H4,x = .ref a/\QW w Kf C H3 a y v H4/\D.nx σ H4
theorem HZ (E:X.A.units+10<cLine) (F:PE X o td) (hi:PE X i ty) (p:PE X value tv) (B:swapsWith value (some (.Subscript o i pos')) pos.line X.env=pure false) :
  PS X (.Assign [.Subscript o i pos'] value pos) (Sj X.w X.K C td ty tv):=by
 intro b s c H D I h;refine wpAny_Assign_Subscript (thn (p b s c H _ I h) λr k ⟨v,d,z,t,M⟩=>thn (F b k c d _ z M) λu f ⟨x,G,J,n,q⟩=>thn (hi b f c G _ J q) λ_ _ ⟨y,_,l,e,a,L,m,g,q3⟩=>?_) B;subst m;obtain rfl:u=Value.ref a:=n;exact Fm E l g e t λ_ j=>⟨c,L,j,q3⟩
end
end
end
section
open PySem.Spec PyProof.Rows PySem.W
def CH (h:Heap) (d:Yau) (es:Array DictEntry) (ep:Nat):Prop:=∃o,h.get? d=some o/\o.ExactDict/\o.data = .dict es ep
theorem CH.mono {es:Array DictEntry} (x:CH h d es ep) (k:∀o,h.get? d=some o->h'.get? d=some o):CH h' d es ep:=let ⟨o,e,r⟩:=x;⟨o,k o e,r⟩
section
variable {P:Yax}{s:Vzx}{es:Array DictEntry}
theorem Fh {Q:α->Vzx->Prop} (d:A.handled=none) (h:∀h' e,(∀b o,s.heap.get? b=some o->h'.get? b=some o)->(∃o,h'.get? e=some o/\o.cls = .type "StopIteration")->E (.ref e) { s with heap:=h' }) :
  Yb1 (model P w) A (newExc (.type "StopIteration") [] >>= λe=>(raiseNew e:Sem α)) Q E s:=by
 refine Vzw (JH λa e _ k _ c _=>?_);refine Vzw (wpAny_handled ?_);rw[d];exact Vzw (Vzv (wpAny_throw (h a e k ⟨_,c,rfl⟩)))
theorem Ab {Q:Option Vzy->Vzx->Prop} (n:A.handled=none) (g:s.heap.IsKeyIter it d i es.size ep) (C:CH s.heap d es ep)
  (y:∀e h',es[i]? = some e->h'.IsKeyIter it d (i+1) es.size ep->UV it s.heap h'->Q (some e.key) { s with heap:=h' }) (m:es[i]? = none->∀h',Heap.ExtBut it s.heap h'->Q none { s with heap:=h' }):Yb1 (model P w) A (pyNext (.ref it)) Q E s:=by
 have hT:=g.typeIs;obtain⟨o,j,r,f⟩:=g;obtain⟨_,h,_,c⟩:=C;have x:Builtin.Dict_items.ownsTuple "dict_keyiterator" = false:=by decide
 have a:¬ ((i:Int)<0):=by lia
 (refine Vzw (wpAny_attempt (wpAny_callSpecial?_slot (name:=WU "__next__") hT F.slot_dict_keyiterator_next (wpAny_call_entry F.slot_dict_keyiterator_next hT F.entry_dict_keyiterator_next ?_ (F.args_dict_keyiterator_next_1 _)))))
 refine Vzw (Vzv (Vzw (Vzw ?_)))
 first | (refine Vzw (wpAny_typeNameOfWhole_keyiter hT (Vzv ?_))) | (refine Vzw (wpAny_typeNameOf_keyiter hT (Vzv ?_)))
 (refine Vzw (wpAny_fieldsOf j f ?_))
 (simp only[x,Yh,if_false])
 show Yb1 _ _ (if (Value.ref d == Value.none)=true then _ else _) _ _ _
 (rw[Yb8 (show¬ (Value.ref d == Value.none)=true from XN)])
 refine Vzw (Vzv (Vzw (wpAny_dictEntries h c ?_)));rw[Yb8 (by simp)];refine Vzw (Vzv (Vzw (wpAny_dictEpoch h c ?_)))
 (rw[Yb8 (by simp)])
 refine Vzv ?_;cases he:es[i]? with
 | some e=>
  (simp only[a,if_false,Yv,he])
  (refine Vzw ?_)
  first | (refine Vzw (wpAny_typeNameOfWhole_keyiter hT (Vzv ?_))) | (refine Vzw (wpAny_typeNameOf_keyiter hT (Vzv ?_)))
  (refine Vzw (wpAny_isOneOf_keyiter hT ?_))
  show Yb1 _ _ (setField (.ref it) 1 (rawInt ((i:Int)+1)) >>= _) _ _ _;refine Vzw (wpAny_setField j f (by simp) ?_);have k:(s.heap.update it (Obj.mapFields (·.setIfInBounds 1 (rawInt ((i:Int)+1))))).IsKeyIter it d (i+1) es.size ep:=⟨_,Heap.get?_update_self _ j (Obj.isFreed_of_fields (Obj.data_mapFields f _)),(Obj.cls_mapFields ..).trans r,by rw[Obj.data_mapFields f];simp[rawInt]⟩
  have l:=y e _ he k (ZW ..);generalize s.heap.update it (Obj.mapFields (·.setIfInBounds 1 (rawInt ((i:Int)+1))))=h' at k l ⊢
  refine Vzw (Vzs (Vzw (wpAny_isOneOf_keyiter (s:={ s with heap:=h' }) k.typeIs ?_)));exact Vzv (Vzv ⟨_,rfl,Vzv l⟩)
 | none=>
  (simp only[a,if_false,Yv,he])
  (refine Vzw ?_)
  first | (refine Vzw (wpAny_typeNameOfWhole_keyiter hT (Vzv ?_))) | (refine Vzw (wpAny_typeNameOf_keyiter hT (Vzv ?_)))
  show Yb1 _ _ (setField (.ref it) 0 .none >>= _) _ _ _;refine Vzw (wpAny_setField j f (by simp) ?_);refine Fh (A:=A.in1) n λ_ e v t=>?_;obtain⟨B,z,u⟩:=t;refine Vzw (wpAny_isInstance (T:= "StopIteration") (b:=true) ⟨B,z,u⟩ isSubtype_stop ?_);exact Vzv (m he _ λb _ p q=>v _ _ ((W9 _ _ (Ya4 p)).trans q))
theorem Fs (g:(d == sysModules)=false) (c:CH s.heap d es ep)
  (e:Q (.ref s.heap.objs.size) { s with heap:=s.heap.push { cls:=.type "dict_keyiterator",data:=.fields #[.ref d,.int 0 0,.int es.size 0,.int ep 0] } }):Yb1 (model P w) A (pyIter (.ref d)) Q E s:=by
 obtain⟨o,a,f,b⟩:=c;have hT:s.TypeIs (.ref d) "dict" :=⟨o,a,f.1⟩
 (refine wpAny_pyIter_slot hT F.slot_dict_iter (wpAny_call_entry F.slot_dict_iter hT F.entry_dict_iter ?_ (F.args_dict_iter_1 _)))
 refine Vzw (Vzw (wpAny_notOrdered_dict hT ?_));refine Vzv ?_;show Yb1 _ _ (Builtin.Dict.showsAll d >>= _) _ _ _;unfold Builtin.Dict.showsAll
 (rw[Yb8 (by lia)])
 refine Vzw (Vzv (Vzw (wpAny_dictEntries a b (Vzw (wpAny_dictEpoch a b ?_)))));refine Vzw (wpAny_newObj_type (Vzv ⟨_,rfl,"dict_keyiterator",_,⟨_,Z0 _ rfl,rfl⟩,F.slot_dict_keyiterator_next.lookup,?_⟩));simpa[rawInt]using e
end
theorem Gm {P:Yax} (m:A.handled=none) (I d:Yau) (l:d≠I) (es:Array DictEntry) (ep:Nat) :
  Walks P w A I [I,d] [I] es.size (λi v=>∃e,es[i]? = some e/\v=e.key) (λi h=>h.IsKeyIter I d i es.size ep/\CH h d es ep) where
 sub:=λb j=>by simp_all
 frame:=λ_ _ _ a c=>⟨a.1.at λo e=>c I (.head _) o e,a.2.mono λo e=>c d (.tail _ (.head _)) o e⟩
 item:=λi s Q E _ a f=>by
  refine Ab m a.1 a.2 (λe g k c n=>f _ g s.toks ⟨e,k,rfl⟩ ⟨c,a.2.mono λo q=>(n.2 d l).trans q⟩ λb o j q=>(n.2 b λz=>j (XR.mpr z)).trans q) λk=>?_
  simp_all
 done:=λs Q E a f=>Ab m a.1 a.2 (λe g k=>by simp_all) λ_ g c=>f g s.toks λb o j q=>c b o (λz=>j (XR.mpr z)) q
 self:=λ_ _ _ _ a f=>wpAny_pyIter_keyiter a.1 f
theorem IJ {P:Yax}{es:Array DictEntry} (lo:(d == sysModules)=false):KdlSrc P w "dict" d d es.size (λi v=>∃e,es[i]? = some e/\v=e.key) (λh=>CH h d es ep) where
 type:=λ_ ⟨o,e,c,_⟩=>⟨o,e,c.1⟩
 there:=λ_ ⟨_,e,_⟩=>⟨Z1 e,Z1 e⟩
 keep:=λ_ _ x k=>x.mono λo e=>k d (.inl rfl) o e
 notList:=by decide
 notTuple:=by decide
 hint:=λ_ _ _ _ ⟨o,e,c,_⟩ a=>kdl_hint_dict ⟨o,e,c.1⟩ a
 iter:=λ_ _ b x=>⟨_,_,λ_ _ a=>Fs lo x a,Gm b _ d (X3 (let ⟨_,e,_⟩:=x;Z1 e)) es ep,⟨_,Z0 _ rfl,rfl,rfl⟩,x.mono λ_ e=>Vzu _ e⟩
section
variable {K:Type} [DecidableEq K] {C:kq K}{s:Vzx}
def EC (w:Yay) (Kf:Vzz) (C:kq K) (a r:Sh) (sp:Sp):V->Hp->VK->Prop:=λx H Q=>∃d kvs xs,x = .ref d/\H d=some (dN w C d kvs)/\kvs.map (λkv=>V.ref kv.2.1)=xs/\xs.length<64/\pL sp xs [] H λks H1=>
 ∃kds,ay Kf H1 ks kds/\(∀d∈kds,(Sh.bE a r).has d)/\(∀d∈kds,d.depth<=100)/\∀(D:Yau) (p:List Nat),H1 D=none->p.Perm (Z6 xs.length)->eW kds p->Q (.ref D) (upd H1 D (.lst (picked xs p)))
theorem tE {w:Yay}:∀{kvs:List (K×Yau×V)}{xs:List (K×Yau×Vzy)}{vs:Qqz},KPs kvs xs->vs.length=xs.length->(∀(j:Nat) v,vs[j]? = some v->∃e,(xs.map λx=>(⟨AD w (C.enc x.1),.ref x.2.1,x.2.2⟩:DictEntry))[j]? = some e/\v=e.key)->aO (kvs.map λkv=>V.ref kv.2.1) vs
 | _,_,[],.nil,_,_=>.nil
 | _,_,_::_,.nil,h,_=>by cases h
 | _,_,[],.cons _ _,h,_=>by cases h
 | _,_,v::vs,.cons (a:=p) (b:=q) hp t,h,hv=>by
  refine .cons ?_ (tE (w:=w) t (Nat.succ.inj h) λj u e=>hv (j+1) u e);obtain⟨e,c,d⟩:=hv 0 v rfl;cases c;rw[d];show Value.ref q.2.1=Value.ref p.2.1;rw[hp.2.1]
theorem yQ {a r:Sh}{b:Bool}{k:Nat}{x:V}{Q:VK} (hc:X.calm=true) (U:gw a b) (F:d6 X.prog X.w X.K X.mg X.base CX0 k f fd ps sp) (hr:bB (k+2) X.A) (hb:Binds X.K fd ps []) (I:Inv X pins σ H s) (rx:RelV x u) (h:EC X.w X.K C a r sp x H Q) :
  Yb1 (model X.prog X.w) X.A (call (.builtin "sorted") [u] [(WU "key",.ref f)]) (EP X pins σ Q) X.xe s:=by
 obtain⟨d,G,ys,rfl,hq,z,_,q⟩:=h;cases rx;obtain⟨_,J,xs,l,o,es,ep,h1,E,T,Z,_⟩:=(I.hok d _ hq).1;have M:G.length=ys.length:=by grind
 have hl:=l.length;have B:es.size=xs.length:=by rw[<-X6,Z,XA]
 refine call_function_entry_kw kind_sorted plain_sorted entry_sorted (ksk_s1 _ _) ?_
 (refine Vzw (m:=checkCount "sorted" 1 1 _) (Vzv ?_))
 refine Vzw (kdu_collect (A:=X.A.in1) (IJ (es:=es) (ep:=ep) J) (show X.A.in1.handled=none from I.ok.hd hc) ⟨o,h1,E,T⟩ (by lia) λh1 L acc S P=>?_);have i:acc.toList.length=xs.length:=by rw[X6,P.1,B]
 have n:aO ys acc.toList:=by
  rw[<-z];refine tE (C:=C) (w:=X.w) l i λj v e=>?_;obtain⟨_,_,N⟩:=P.2 j v (by simp_all)
  grind
 (refine Vzw (wpAny_newList ?_ (by lia)))
 have O:=I.kept (t':=L) S;have c:(h1.push (seqObj "list" acc.toList.toArray 0)).get? h1.objs.size=some (seqObj "list" acc.toList.toArray 0):=Z0 _ rfl;have g:∀b o,s.heap.get? b=some o->(h1.push (seqObj "list" acc.toList.toArray 0)).get? b=some o:=λb o e=>Vzu _ (S b o e);generalize acc.toList=its at c g n i ⊢;generalize h1.push (seqObj "list" its.toArray 0)=E at c g ⊢;have t:=O.hok.fresh (XD _);have R:=O.nG (XD _) t;generalize h1.objs.size=D at c t R ⊢;refine Vzw (Vzs (wpAny_call_entry_kw slot_list_sort ⟨_,c,rfl⟩ entry_list_sort ?body (ksk_l1 _ _)))
 case body=>
  rw[ksk_t1];refine rA (s:={ s with heap:=E,toks:=L }) U F hr hb (I.kept (t':=L) g) c R n (by lia) q λ_ _ ⟨y,J,hs,Au,N⟩=>⟨y,J,hs,Au,λp _ hp W z Y=>?_⟩;refine⟨_,rfl,Vzv ⟨_,rfl,?_⟩⟩;exact⟨.ref _,_,Y,rfl,N _ p z hp W⟩
def NA (w:Yay) (Kf:Vzz) (C:kq K) (a r:Sh) (sp:Sp) (ta:TA):TE:=λσ H Q=>ta σ H λvs H1=>∃x,vs=[x]/\EC w Kf C a r sp x H1 Q
theorem wj {a r:Sh}{b:Bool}{k:Nat}{e:Expr}{ta:TA}{p j pos d:Pos} (z:gw a b) (F:d6 X.prog X.w X.K X.mg X.base CX0 k f fd ps sp) (J:bB (k+2) X.A) (N:Binds X.K fd ps [])
  (t:Gl X "sorted") (L:X.mg "sorted" = none) (g:Gl X y) (i:X.mg y=some (.ref f)) (D:PA X [e] ta) (B:X.calm=true:=by rfl) (m:(y == ("__debug__" : Str))=false:=by decide)
  (v:backTo pos (Yb2 [e] X.env)=(false,eval e X.env)::backTo pos (Yb2 [] X.env):=by rfl) (o:(backTo pos (Yb2 [e] X.env)).any (·.1)=false:=by rfl)
  (M:(backToKw pos (keywordEach [⟨some "key",.Name y j,d⟩] X.env)).all (·.1.isSome)=true:=by rfl) (l:(backToKw pos (keywordEach [⟨some "key",.Name y j,d⟩] X.env)).any (·.1.isNone)=false:=by rfl) :
  PE X (.Call (.Name "sorted" p) [e] [⟨some "key",.Name y j,d⟩] pos) (NA X.w X.K C a r sp ta):=by
 intro c s G H Q I h;refine wpAny_Call_Name_kw (eN I t L boot_sorted ?_);refine callWith_kw (thn (D pos c s G H _ I h) λ_ _ ⟨_,_,n,O,P⟩=>?_) v o M l;obtain⟨x,rfl,q⟩:=P;obtain⟨u,rfl,E⟩:=O.one;refine kws_cons (jq n g i (kws_nil ?_) m);exact yQ B z F J N n E q
end
def TQ (T:Yau) (H:Hp):Prop:=∀b,H b=none\/(∃o xs,H b=some (.frz o (.lst xs)))\/(b=T/\H b=some (.tbl #[]))
theorem Hn {P:Yax}{w:Yay}{C:Str->Option Vzy}{k:Nat}{J c:Yau}{fd:Yav}{sp:Sp}{s₁:Vzx}{vs:Qqz}{p:List Int}
  (Q:K.In s₁.heap) (hT:s₁.heap.get? T=some (tabObj #[])) (hc:CodeHd s₁.heap c T) (N:K.lookup T=none)
  (M:s₁.heap.Ns mainGlobals mg) (f:s₁.heap.Ns builtinsNs C) (E:∀x:Str,x ≠ "__name__" -> C x=bootBuiltins x) (UZ:s₁.heap.NoLimit) (hg:s₁.gens = #[])
  (l:s₁.heap.get? a=some { cls:=.type "list",data:=.seq vs.toArray }) (hi:IntsAre vs p) (hl:p.length<=Yb0) (hr:bB k callerA)
  (F:∀base:Heap,d6 P w K mg base CX0 k J fd [x] sp) (Z:∀(s:Vzx) (u:Vzy),BindsTo s fd ⟨[u],[]⟩ [(x,u)])
  (I:∀H:Hp,H T=some (.tbl #[])->SqL K H a (p.map V.int)->sp [.ref a] H (λv _=>v = .bl true) λ_ _ _=>False) :
  codeAny (model P w) callerA (.call (.ref J) ⟨[.ref a],[]⟩) (λr s'=>r = .ok (.ret (.bool true))/\OldK s₁.heap s'.heap/\s'.os=s₁.os/\AllBare s'.gens) s₁:=by
 have S:=wC hi;have t:a≠T:=nw l hT
 have core:∀H:Hp,TQ T H->H T=some (.tbl #[])->SqL K H a (p.map V.int)->HOk P w H s₁.heap->(∀b,H b≠none->b=a\/b=T)->(H a≠none->K.lookup a=none) ->
   codeAny (model P w) callerA (.call (.ref J) ⟨[.ref a],[]⟩) (λr s'=>r = .ok (.ret (.bool true))/\OldK s₁.heap s'.heap/\s'.os=s₁.os/\AllBare s'.gens) s₁:=by
  intro H hO D hS y hA hK;have j:∀{b:Yau}{m:Str->Option Vzy},s₁.heap.Ns b m->(Fd s₁.heap H).Ns b m:=λ{b m} ⟨o,es,ep,e,d,r⟩=>⟨o,es,ep,Ba e (by
   cases q:H b with
   | none=>rfl
   | some u=>
    rcases hA b (by rw[q];simp)with rfl | rfl
    ·rw[l]at e;cases e;cases d
    ·rw[hT]at e;cases e;cases d),d,r⟩
  have G:K.In (Fd s₁.heap H):=λb o e=>Ba (Q b o e) (by
   cases q:H b with
   | none=>rfl
   | some u=>
    rcases hA b (by rw[q];simp)with rfl | rfl
    ·rw[hK (by rw[q];simp)]at e;cases e
    ·rw[N]at e;cases e)
  refine codeAny_mono ((F _).run callerA [] s₁ H ⟨[.ref a],[]⟩ [.ref a] [.ref a] _ _ hr ⟨rfl,⟨G,j M,⟨C,j f,E⟩,let ⟨mc,h1,h2⟩:=UZ;⟨mc,j h1,h2⟩⟩,λb o e=>NM e,ZQ (FJ _ _),trivial,λb f=>absurd (show b∈([]:Qqx)from f) (by simp),y,.of_eq hg⟩ (Z s₁ (.ref a)) (.cons rfl .nil) (I H D hS)) λr s' h=>?_;cases r with
  | error e=>exact False.elim h
  | ok fl=>
   cases fl with
   | next=>exact False.elim h
   | brk=>exact False.elim h
   | cont=>exact False.elim h
   | ret u=>
    obtain⟨v,_,os,n,B,O,r',q⟩:=h;subst q;obtain rfl:u=Value.bool true:=r';refine⟨rfl,⟨λb o e=>?_,λb o e=>B.there b o e (by simp)⟩,os,n⟩;rcases hO b with z | ⟨X,_,z⟩ | ⟨rfl,z⟩
    ·exact .inl (B.keep b o e z (by intro z;exact absurd (show b∈([]:Qqx)from z) (by simp)) (by simp))
    ·have L:=B.qy b X _ z;obtain⟨R,_⟩:=y b _ z;obtain⟨e2,_⟩:=O b _ L;rw[e]at R;cases R;exact .inl e2
    ·obtain⟨A,L⟩:=B.qB b _ z;rw[hT]at e;cases e;obtain⟨oc,Y,_,_,_,_,_,_,_,W,U,c3,c4,_⟩:=hc;have ht:s₁.heap.TableAt c b #[]:=⟨⟨oc,Y,W,U,c3,c4⟩,hT⟩;exact .inr (.inl ⟨ht.isCodeTable,rfl,#[],A,rfl,(O b _ L)⟩)
 cases hk:K.lookup a with
 | some o=>
  have e:=Q a o hk;rw[l]at e;cases e;refine core (λb=>if b=T then some (.tbl #[])else none) (λb=>?_) (Yb7 rfl) (.inr ⟨_,vs.toArray,_,hk,rfl,rfl,rfl,by rwa [XO,hi.length],by simpa using S⟩) (λb u z=>?_) (λb z=>?_) λz=>absurd (Yb8 t) z
  ·by_cases f:b=T
   ·exact .inr (.inr ⟨f,Yb7 f⟩)
   ·exact .inl (Yb8 f)
  ·by_cases f:b=T
   ·have i:=(Yb7 f).symm.trans z;cases i;subst f;exact hT
   ·have i:=(Yb8 f).symm.trans z;cases i
  ·by_cases f:b=T
   ·exact .inr f
   ·exact absurd (Yb8 f) z
 | none=>
  refine core (λb=>if b=T then some (.tbl #[])else if b=a then some (.frz { cls:=.type "list",data:=.seq vs.toArray } (.lst (p.map V.int)))else none) (λb=>?_) (Yb7 rfl)
   (.inl (.inr ⟨{ cls:=.type "list",data:=.seq vs.toArray },(Yb8 t).trans (Yb7 rfl)⟩)) (λb u z=>?_) (λb z=>?_) λ_=>hk
  ·by_cases f:b=T
   ·exact .inr (.inr ⟨f,Yb7 f⟩)
   ·by_cases g:b=a
    ·exact .inr (.inl ⟨_,_,(Yb8 f).trans (Yb7 g)⟩)
    ·exact .inl ((Yb8 f).trans (Yb8 g))
  ·by_cases f:b=T
   ·have i:=(Yb7 f).symm.trans z;cases i;subst f;exact hT
   ·by_cases g:b=a
    ·have i:=((Yb8 f).trans (Yb7 g)).symm.trans z;cases i;subst g;exact⟨l,by rwa [XA],vs,_,S,l⟩
    ·have i:=((Yb8 f).trans (Yb8 g)).symm.trans z;cases i
  ·by_cases f:b=T
   ·exact .inr f
   ·by_cases g:b=a
    ·exact .inl g
    ·exact absurd ((Yb8 f).trans (Yb8 g)) z
theorem JJ {l:W.OpenLaw}{k:Nat}{q:Yax}{loose:Qqv}{J:(Str->Option Vzy)->Heap->Prop}{y:Yay->Heap->Prop}{d:DefRec}{K:Params->Vzz}{sp:Yay->Sp}{c:Yau}
  (z:l.most=some n) (i:n<=Yb0) (j:d.params.defaults=[]) (E:bB k callerA)
  (I:∀(w:Yay) (h:Heap),y w h->(K w.params).In h/\h.get? T=some (tabObj #[])) (C:∀(w:Yay) (h:Heap),(K w.params).In h->CodeHd h c T) (t:∀w:Yay,(K w.params).lookup T=none)
  (F:∀(w:Yay) (mg:Str->Option Vzy) (fa:Yau) (h:Heap),(K w.params).In h->h.Ns mainGlobals mg->mg d.name=some (.ref fa) ->
   ∃fd:Yav,(∀(s:Vzx) (u:Vzy),BindsTo s fd ⟨[u],[]⟩ [(x,u)])/\∀base:Heap,d6 l.prog w (K w.params) mg base CX0 k fa fd [x] (sp w))
  (m:∀(w:Yay) (H:Hp) (a:Yau) (ns:List Int),ns.length<=n->H T=some (.tbl #[])->SqL (K w.params) H a (ns.map V.int)->sp w [.ref a] H (λv _=>v = .bl true) λ_ _ _=>False) :
  W.WalkO q loose J y l.row.toRowW d [] (λf vs=>PySem.call f vs):=by
 refine Att.zS z j λw _ _ mg _ fa o _ _ _ a vs ns G Y _ _ _ r A L e B=>?_;obtain⟨p,hT⟩:=I w _ Y;obtain⟨fd,M,hF⟩:=F w mg fa _ p G.T.g r;exact Hn p hT (C w _ p) (t w) G.T.g G.T.b G.T.builtins G.T.nolimit B A L (XG e i) E hF M (λH D hS=>m w H a ns e D hS)
def yV (K:Vzz):Qqt->Hp->VK->Prop:=λvs H Q=>∃l ns,vs=[.ref l]/\SqL K H l (ns.map V.str)/\ns.length<64/\∀(D:Yau) (ms:Qqv),H D=none->ms.Perm ns->UpS ms->Q (.ref D) (upd H D (.lst (ms.map V.str)))
theorem fY {k:Nat} (D:bB k X.A):fV X (.builtin "sorted") (yV X.K):=by
 intro _ s _ H _ _ Q I x h;obtain⟨l,ns,rfl,B,_,q⟩:=h;obtain⟨u,rfl,y⟩:=x.one;cases y;obtain⟨vs,g,C,_⟩:=I.list B;have j:ns.length=vs.length:=by have:=g.length;rwa [XA]at this
 (refine Calls.call_function_entry kind_sorted plain_sorted entry_sorted (args_sorted1 _) ?_)
 (refine Vzw (m:=checkCount "sorted" 1 1 _) (Vzv ?_))
 refine Vzw (collect_list C.isList ?_ (by rw[sizeLine_eq];lia))
 (refine Vzw (wpAny_newList ?_ (by rw[sizeLine_eq];lia)))
 have b:=wG s.heap vs;have a:=pW s.heap vs;show Yb1 _ _ (_ >>= λ_=>_) _ _ { s with heap:=(i0 s.heap vs).push (seqObj "list" vs.toArray 0) };rw[show((s.heap.push (seqObj "list" #[] 0)).update s.heap.objs.size (Z9 (· ++ vs.toArray))).objs.size=s.heap.objs.size+1 from(j8 s.heap vs)]
 generalize(i0 s.heap vs).push (seqObj "list" vs.toArray 0)=h2 at b a ⊢;have f:=I.hok.fresh (YL _)
 (refine Vzw (Vzs (wpAny_call_entry slot_list_sort ⟨_,b,rfl⟩ entry_list_sort ?body (args_list_sort _))))
 case body=>
  refine zC (s:={ s with heap:=h2 }) (ds:=ns.map PyData.str) (I.kept (t':=s.toks) a) b (I.nG (YL _) f) g (λr G _ h2 t=>ur g r G h2 t) (by lia) λp _ c n o=>?_;refine⟨_,rfl,Vzv ⟨_,rfl,?_⟩⟩;rw[XA]at c;have d:∀i∈p,i<ns.length:=λi e=>by have:=c.mem_iff.mp e;simpa using this
  have v:picked (ns.map V.str) p=(p.map λi=>ns.getD i ZY).map V.str:=by
   rw[Yg];refine X8 λi e=>?_;simp[Yl,d i e]
  have w:(p.map λi=>(ns.map PyData.str).getD i .none)=(p.map λi=>ns.getD i ZY).map PyData.str:=by
   rw[Yg];refine X8 λi e=>?_;simp[Yl,d i e]
  have z:UpS (p.map λi=>ns.getD i ZY):=by
   unfold eW at n
   rwa [w,Yu]at n
  rw[v]at o;exact⟨.ref _,_,o,rfl,q _ _ f (Ao c) z⟩
section
variable {P:Yax}{s:Vzx}
theorem Gp {Q:Option Vzy->Vzx->Prop}{l:Yau}{xs:Qqw}{k:Nat}{d:Array (Option Vzy)} (r:s.heap.get? l=some { cls:=.type "list",data:=.seq xs k,slots:=d }) (i:A.handled=none)
  (h:∀(h':Heap) (tk:Nat),(∀b o,s.heap.get? b=some o->h'.get? b=some o)->Q none { s with heap:=h',toks:=tk }):Yb1 (model P w) A (getAttr? (.ref l) "keys") Q E s:=by
 have p:=PySem.list_getattribute;have v:=PySem.list_getattr_none;have x:bindSpecial (.builtin "list.__getattribute__") (.ref l)=pure (.builtin "list.__getattribute__",[.ref l]):=by rfl
 have n:isSubtype (.type "AttributeError") (.type "AttributeError")=pure true:=by rfl
 have f:∀(s1:Vzx) u (R:Result->Vzx->Prop),s1.heap=s.heap->(∀e h' tk,Shared.TypeIs { s1 with heap:=h',toks:=tk } e "AttributeError" -> (∀b o,s.heap.get? b=some o->h'.get? b=some o)->R (.error e) { s1 with heap:=h',toks:=tk })->codeAny (model P w) A (Code.call (.builtin "list.__getattribute__") ⟨[.ref l,.str "keys" u],[]⟩) R s1:=λs1 u R c q=>
  codeAny_call_builtin PySem.F.slot_list_getattribute.plain PySem.am_entry_list_getattribute (PySem.F.slot_list_getattribute.check _ _ _ _ _ _ _ _ ⟨_,by rwa [c],rfl⟩ (PySem.F.args_list_getattribute_2 _ _) (meets_getattribute_miss_list l xs k d "keys" u (by rfl) (by decide +kernel) (by rw[sizeLine_eq];decide) P w A R _ ⟨by rwa [c],i,λh' tk e g=>by
   obtain⟨a,_,t,u,j⟩:=g;rw[c]at a;exact q _ h' tk ⟨_,j,rfl⟩ a⟩))
 wp_walk
 refine f _ _ _ rfl λe h' tk m a=>?_;refine Vzw (wpAny_isInstance m n ?_)
 wp_walk
 exact h h' tk a
theorem jA:entryFor table "dict.update.loop" = some Builtin.«dict.update.loop»:=entryFor_of_tree (by kernel_rfl)
theorem eJ:plainId "dict.update.loop" = true:=by decide +kernel
theorem oU {kvs:List (Key×Vzy)} (x:h.DictOf (aQ P w) a kvs) (k:∀o,h.get? a=some o->h'.get? a=some o):h'.DictOf (aQ P w) a kvs:=by
 obtain⟨o,b,c,d,e⟩:=x;exact⟨o,b,c,k o d,e⟩
def iZ (P:Yax) (w:Yay) (h:Heap) (p:Yau×Key×Vzy):Prop:=∃key n o,h.get? p.1=some o/\o.cls = .type "tuple" /\ o.data = .seq #[key,p.2.2] n/\(aQ P w).is p.2.1 key=true
theorem iZ.keep {p:Yau×Key×Vzy} (x:iZ P w h p) (k:∀o,h.get? p.1=some o->h'.get? p.1=some o):iZ P w h' p:=by
 obtain⟨key,n,o,h1,h2⟩:=x;exact⟨key,n,o,k o h1,h2⟩
theorem pair_items {Q:Qqz->Vzx->Prop}{p:Yau×Key×Vzy} (x:iZ P w s.heap p) (h:∀key,(aQ P w).is p.2.1 key=true->Q [key,p.2.2] s):Yb1 (model P w) A (Builtin.Dict.pairItems (.ref p.1)) Q E s:=by
 obtain⟨key,n,o,_,b,c,a⟩:=x;obtain⟨_,_,_,_⟩:=o;subst b c
 wp_walk
 exact h key a
theorem BV {wr:Qqx}{G:Array GenState->Array GenState->Prop}{H:Nat->Vzy->Prop}{St:Nat->Vzx->Prop} (W:WalksS P w A.in1 I fp wr G n H St) (S:Yau) (j:S∉fp)
  (ps:List (Yau×Key×Vzy)) (hz:ps.length=n) (U:∀i v,H i v->∃p,ps[i]? = some p/\v = .ref p.1) (F:n<=1000) (l:∀p∈ps,p.1≠S/\p.1∉wr) :
  ∀(r:List (Yau×Key×Vzy)) (i:Nat) (s:Vzx) (kvs:List (Key×Vzy)),r=ps.drop i->i<=n->kvs.length<=i->(∀p∈ps,iZ P w s.heap p)->St i s->s.heap.DictOf (aQ P w) S kvs ->
   (∀s',Moved (S::wr) G s s'->s'.heap.DictOf (aQ P w) S (merged kvs (r.map (·.2)))->R (.ok (.ret .none)) s') ->
   codeAny (model P w) A (.builtin "dict.update.loop" ⟨[.ref S,.ref I,rawInt i,.none],[]⟩) R s:=by
 have g:=mt (W.sub S) j;have J:=λb (z:b∈wr)=>XF S z;intro r
 induction r with
 | nil=>
  intro i s kvs C V t K c hS y;have B:i=n:=by
   have:=Zf.mp C.symm;lia
  subst B;refine codeAny_builtin jA ?_;rw[ZB eJ _];refine Vzw (m:=pyNext (.ref I)) (W.done s _ _ c λs' d=>?_);exact Vzv (y s' (d.mono J) (oU hS λo e=>d.heap S _ g e))
 | cons x r X=>
  intro i s kvs C V t K c hS y;have u:i<ps.length:=by
   grind
  have a:ps[i]? = some x/\r=ps.drop (i+1):=by
   rw[Yj u]at C
   grind
  refine codeAny_builtin jA ?_;rw[ZB eJ _];refine Vzw (m:=pyNext (.ref I)) (W.item i s _ _ (by lia) c λv s' Q N d=>?_);obtain⟨_,f,rfl⟩:=U i v Q;rw[a.1]at f;cases f;have k:∀p∈ps,iZ P w s'.heap p:=λp q=>(K p q).keep λo e=>d.heap p.1 _ (l p q).2 e;refine Vzw (Vzs (Vzw (wpAny_tryCatch (pair_items (k x (XB a.1)) λ_ O=>Vzs ?_))));refine wpAny_dictSet_pairs O (oU hS λo e=>d.heap S _ g e) (λh' T D=>?_) (by rw[sizeLine_eq];lia);refine Vzv ⟨plainId_quiet eJ _,?_⟩;have Y:(stored kvs x.2.1 x.2.2).length<=kvs.length+1:=merged_length_le kvs [x.2];refine X (i+1) _ _ a.2 (by lia) (by lia) (λp q=>(k p q).keep λo e=>(D.2 p.1 (l p q).1).trans e) (W.frame _ s' _ _ N (YL _) λb F o e=>?_) T λE M L=>y E (Moved.trans W.gtrans ((d.mono J).then_heap (Nat.le_add_right s'.toks 1) (h':=h') λb o F e=>(D.2 b λz=>F (z ▸ XC)).trans e) M) L;rw[D.2 b (λh:b=S=>j (by rwa [<-h]))];exact e
theorem Bq {l a:Yau}{items:Qqw}{ps:List (Yau×Key×Vzy)}{R:Result->Vzx->Prop} (G:A.handled=none) (j:∃sl k,s.heap.get? l=some { cls:=.type "list",data:=.seq items k,slots:=sl }) (hi:items.toList=ps.map λp=>Value.ref p.1) (J:∀p∈ps,iZ P w s.heap p) (I:ps.length<=1000) (H:s.heap.DictOf (aQ P w) a []) (y:l≠a)
  (h:∀(h':Heap) (tk:Nat),h'.DictOf (aQ P w) a (merged [] (ps.map (·.2)))->(∀b o,b≠a->s.heap.get? b=some o->h'.get? b=some o)->R (.ok (.ret .none)) { s with heap:=h',toks:=tk }) :
  Yb1 (model P w) A.in1 (Builtin.«dict.__init__» ⟨[.ref a,.ref l],[]⟩) (λfin s'=>match fin with | .done f=>R (.ok f) s' | .again c'=>c'.quiet=true/\codeAny (model P w) A c' R s') (λe s'=>R (.error e) s') s:=by
 obtain⟨sl,k,j⟩:=j;have E:=H;obtain⟨O,_,_,t,D,u,_⟩:=E;obtain⟨_,_,_,_⟩:=O;obtain⟨M,_⟩:=D;subst M u;unfold Builtin.«dict.__init__» Builtin.Dict.selfAndRest Builtin.Dict.notOrdered Builtin.Dict.updateCommon Builtin.Dict.updateFrom Builtin.Dict.addrOf;generalize hG:getAttr? = GA;generalize hPI:pyIter=PI
 wp_walk
 subst hG;refine Gp j G λx tk N=>?_
 wp_walk
 subst hPI;have c:=N;have g:x.IsList l items:=⟨_,c _ _ j,rfl,k,rfl⟩;refine wpAny_pyIter_list g (Vzv ⟨plainId_quiet eJ _,?_⟩);have m:ps.length=items.size:=by have:=congrArg List.length hi;rw[XA,X6]at this;exact this.symm
 have q:∀p∈ps,p.1<x.objs.size/\p.1≠a:=λp d=>by
  obtain⟨_,n,o,L,_,_⟩:=J p d;refine⟨Z1 (c _ _ L),λz=>?_⟩;lia
 refine BV ((Walks.list (show A.in1.handled=none from G) x.objs.size l (X3 (Z1 (c _ _ j))) items).toS) a (by simp only[XQ,Yi,or_false,not_or];exact⟨X3 (Z1 (c _ _ t)),y.symm⟩) ps m (λi v _=>?_) (by lia)
  (λp d=>⟨(q p d).2,λz=>absurd (q p d).1 (by simp_all)⟩) ps 0 _ [] rfl (XT _) (XD _) (λp d=>(J p d).keep λo e=>Vzu _ (c _ _ e))
  ⟨⟨_,Z0 _ rfl,rfl,rfl⟩,g.push _⟩ (oU H λo e=>Vzu _ (c _ _ e)) λs' r B=>?_
 ·have S:items.toList[i]? = some v:=by rwa [Zb]
  grind
 ·obtain⟨h',K,Q,C,F⟩:=s';obtain rfl:K = s.gens:=r.gens;obtain rfl:Q = s.drawn:=r.drawn;obtain rfl:F = s.os:=r.os;refine h h' C B λb o I e=>r.heap b o (λz=>?_) (Vzu _ (c _ _ e));rcases XQ.mp z with z | z
  ·exact I z
  ·exact absurd (Z1 (c _ _ e)) (by simp_all)
theorem qz {l:Yau}{items:Qqw}{ps:List (Yau×Key×Vzy)}{Q:Vzy->Vzx->Prop} (t:A.handled=none) (m:∃sl k,s.heap.get? l=some { cls:=.type "list",data:=.seq items k,slots:=sl }) (hi:items.toList=ps.map λp=>Value.ref p.1) (q:∀p∈ps,iZ P w s.heap p) (z:ps.length<=1000)
  (h:∀(h':Heap) (tk:Nat),h'.DictOf (aQ P w) s.heap.objs.size (merged [] (ps.map (·.2)))->(∀b o,s.heap.get? b=some o->h'.get? b=some o)->Q (.ref s.heap.objs.size) { s with heap:=h',toks:=tk }) :
  Yb1 (model P w) A (call (.type "dict") [.ref l]) Q E s:=by
 obtain⟨c,_,_⟩:=PySem.F.kt_called_dict.mro;have C:=PySem.F.kt_called_dict.made;have D:=PySem.F.kt_called_dict.sub;refine wpAny_call (codeAny_of_tree (show Yb1 _ _ (callAny (.type "dict") _) _ _ _ from Vzv ⟨Code.quiet_builtin _ (by decide +kernel),codeAny_builtin PySem.F.entry_type_call ?_⟩));rw[Around.under_plain (weight_type_call_type "dict" [.ref l] []) rfl]
 repeat any_goals (first | assumption | wp_step)
 refine codeAny_mono (kt_code_dict_new (prog:=P) (w:=w) (.ref l) (E:=E) (Q₁:=λi d=>i = .ref s.heap.objs.size/\d={ s with heap:=s.heap.push { cls:=.type "dict",data:=.dict #[] } }) ⟨rfl,rfl⟩) λr d n=>?_;cases r with
 | error e=>exact n
 | ok y=>
  cases y with
  | ret i=>
   obtain⟨rfl,rfl⟩:=n;have u:=PySem.F.kt_called_dict.init.lookup;have x:=PySem.F.kt_called_dict.init.bind (.ref s.heap.objs.size)
   repeat any_goals (first | assumption | wp_step)
   refine codeAny_mono (codeAny_call_builtin (R:=wants (λr f=>r = .none/\Q (.ref s.heap.objs.size) f) E) PySem.F.kt_called_dict.init.plain PySem.F.entry_dict_init (PySem.F.kt_called_dict.init.check _ _ _ _ _ _ _ _ ⟨_,(Z0 _ rfl),rfl⟩ (PySem.F.args_dict_init_2 _ _) ?_)) λj f a=>?_
   ·obtain⟨sl,k,m⟩:=m;refine Bq t ⟨sl,k,Vzu _ m⟩ hi (λp B=>(q p B).keep λo e=>Vzu _ e) z (Heap.DictOf.new _) (X3 (Z1 m)) λh' tk v q=>?_;exact⟨rfl,h h' tk v λb o e=>q b o (X3 (Z1 e)) (Vzu _ e)⟩
   ·cases j with
    | error e=>exact a
    | ok g=>
     cases g with
     | ret r=>
      obtain⟨rfl,_⟩:=a
      repeat any_goals (first | assumption | wp_step)
     | _=>exact a.elim
  | _=>exact n.elim
end
def Ku:Qqt->Hp->VK->Prop:=λvs H Q=>∃(l:Yau) (bs:Qqx) (kvs:List (Str×V)),vs=[.ref l]/\H l=some (.lst (bs.map V.ref))/\bs.length=kvs.length/\kvs.length<=1000/\(∀(i:Nat) b (kv:Str×V),bs[i]? = some b->kvs[i]? = some kv->H b=some (.tup [.str kv.1,kv.2])) /\
 ∀p,H p=none->Q (.ref p) (upd H p (.dK (o6 [] (kvs.map λkv=>((Sum.inr kv.1:Key),kv.2)))))
theorem pH {X:Cx}{pins:List (Yau×Obj)}{σ:St}{H:Hp}{s:Vzx} (I:Inv X pins σ H s):∀(bs:Qqx) (kvs:List (Str×V)),bs.length=kvs.length->(∀(i:Nat) b kv,bs[i]? = some b->kvs[i]? = some kv->H b=some (.tup [.str kv.1,kv.2])) ->
  ∃ps:List (Yau×Key×Vzy),ps.map (λp=>Value.ref p.1)=bs.map Value.ref/\ps.length=kvs.length/\(∀p∈ps,iZ X.prog X.w s.heap p)/\KV (kvs.map λkv=>((Sum.inr kv.1:Key),kv.2)) (ps.map (·.2))
 | [],[],_,_=>⟨[],rfl,rfl,λp f=>(by cases f),.nil⟩
 | [],_::_,h,_=>by cases h
 | _::_,[],h,_=>by cases h
 | b::bs,kv::kvs,h,k=>by
  obtain⟨ps,_,_,t,m⟩:=pH I bs kvs (Nat.succ.inj h) λi c d g j=>k (i+1) c d g j;obtain⟨_,_,r,o,g,j,n,l⟩:=(show bC X.prog X.w H s.heap b (.tup [.str kv.1,kv.2])from I.hok b _ (k 0 b kv rfl rfl));cases r with
  | @cons a key as us r1 rt=>
   obtain⟨u,rfl,q⟩:=aO.one rt;refine⟨(b,.inr kv.1,u)::ps,by simp_all,by simp_all,λp f=>?_,.cons ⟨rfl,q⟩ m⟩;rcases XQ.mp f with e | f
   ·rw[e];exact⟨key,n,o,g,j,l,ET (k:=.inr kv.1) r1⟩
   ·exact t p f
theorem CY {k:Nat} (t:bB k X.A):fV X (.type "dict") Ku:=by
 intro _ s _ H _ _ Q I o h;obtain⟨l,e,c,rfl,f,b,_,z,q⟩:=h;obtain⟨u,rfl,p⟩:=aO.one o;cases(show u=Value.ref l from p);obtain⟨_,_,n,v,r⟩:=(show bC X.prog X.w H s.heap l (.lst (e.map V.ref))from I.hok l _ f);obtain⟨_,_,_,x,g⟩:=pH I e c b z;have B:=z9 v;refine qz t.hd ⟨_,_,r⟩ (by lia) x (by lia) λ_ y m i=>?_;have j:=lS (c.map λd=>((Sum.inr d.1:Key),d.2)) [];rw[YE,XA]at j;exact⟨.ref s.heap.objs.size,_,I.laid (a:=s.heap.objs.size) (t':=y) i (XD _) (Hu (by grind) (beq_eq_false_iff_ne.mpr (Ya4 (X3 I.big))) (g.merge .nil) m),rfl,q _ (I.hok.fresh (XD _))⟩
theorem Nt:bootBuiltins "dict" = some (.type "dict"):=by decide +kernel
theorem vT {z:Str}{v:V}:∀(kvs:List (Str×V)) (acc:List (Key×V)),(∀kv∈kvs,kv.1=z->kv.2=v)->(eu acc (Sum.inr z)=some v\/∃kv∈kvs,kv.1=z)->eu (o6 acc (kvs.map λkv=>((Sum.inr kv.1:Key),kv.2))) (Sum.inr z)=some v
 | [],acc,_,h=>h.elim id λ⟨_,h,_⟩=>(nomatch h)
 | kv::r,acc,hv,h=>by
  refine vT r (putK acc (Sum.inr kv.1) kv.2) (λq a=>hv q (.tail _ a)) ?_;rw[LO]
  grind
end
end L2
namespace LG
open PySem L2 PySem.Builtin PySem.Builtin.Str
def sgn (c:Nat):Bool:=decide (33<=c) && decide (c<=126) && decide (c≠37)
def dig (c:Nat):Bool:=decide (48<=c) && decide (c<=57)
def low (c:Nat):Bool:=decide (97<=c) && decide (c<=122)
def dY (p:Nat->Bool) (l:List Nat):Bool:=!l.isEmpty && l.all p
def bH:List Nat->List Nat
 | 45::r=>r
 | l=>l
def Kh (l:List Nat):Nat:=if dY dig (bH l)=true then 0 else if dY low l=true then 1 else 2
def dh (z:Str):Bool:=dY sgn z.cps.toList
def dS (z:Str):Nat:=Kh z.cps.toList
def jK:Nat->Str
 | 0=> "number"
 | 1=> "name"
 | _=> "other"
def cA:Nat->Str
 | 0=> "number"
 | 1=> "name"
 | _=> "any"
theorem k4 (h:x.cps.toList=y.cps.toList):x=y:=by
 cases x;cases y;simp only[Str.mk.injEq];exact ZO.mp h
theorem takeWhile_all {α:Type}{p:α->Bool}:∀{l:List α},(l.takeWhile p).length=l.length↔l.all p=true
 | []=>by simp
 | a::r=>by
  rw[List.takeWhile_cons,ZK];by_cases h:p a=true
  ·rw[Yb7 h,h,YY];simp only[XX,Nat.add_right_cancel_iff];exact takeWhile_all
  ·rw[Yb8 h];simp[h]
theorem strip_nil (z y:Str):decide (V.str (Yao z y)=V.str "")=z.cps.toList.all (λc=>y.cps.contains c):=by
 have e:Yao z y=strSub z (stripLo (λc=>y.cps.contains c) true z) (stripHi (λc=>y.cps.contains c) true z (stripLo (λc=>y.cps.contains c) true z)):=PyProof.Rows.stripBy_eq _ true true z;have d:=PyProof.Rows.lo_facts (λc=>y.cps.contains c) z;have j:=PyProof.Rows.hi_facts (λc=>y.cps.contains c) z (stripLo (λc=>y.cps.contains c) true z) d.1;have a:stripLo (λc=>y.cps.contains c) true z=(z.cps.toList.takeWhile λc=>y.cps.contains c).length:=by simp[stripLo]
 have g:z.length=z.cps.toList.length:=by simp[Str.length]
 (rw[Yc,decide_eq_true_eq])
 constructor
 ·intro h;have f:(Yao z y).cps.size=0:=by
   have:Yao z y = "" :=by injection h
   rw[this];rfl
  rw[e]at f;have b:stripHi (λc=>y.cps.contains c) true z (stripLo (λc=>y.cps.contains c) true z)<=stripLo (λc=>y.cps.contains c) true z:=by
   have k:(Array.extract z.cps (stripLo (λc=>y.cps.contains c) true z) (stripHi (λc=>y.cps.contains c) true z (stripLo (λc=>y.cps.contains c) true z))).size=0:=f;rw[Array.size_extract]at k;have i:z.length=z.cps.size:=rfl;lia
  rcases ZC (stripLo (λc=>y.cps.contains c) true z) z.length with hl | hl
  ·rcases d.2.2 with q | q
   ·lia
   ·have:=j.2.2.1 (stripLo (λc=>y.cps.contains c) true z) b hl;rw[q]at this;cases this
  ·have q:stripLo (λc=>y.cps.contains c) true z=z.length:=Nat.le_antisymm d.1 hl;rw[a,g]at q;exact takeWhile_all.mp q
 ·intro h;have b:=takeWhile_all.mpr h;rw[<-a,<-g]at b;have:Yao z y = "" :=by
   rw[e,b];refine k4 ?_;refine Yo ?_;show(Array.extract z.cps z.length _).toList.length=0;rw[X6,Array.size_extract];have i:z.length=z.cps.size:=rfl;lia
  rw[this]
theorem zg (z:Str):(Txt.removeprefix z "-").cps.toList=bH z.cps.toList:=by
 rw[StrLaws.removeprefix_eq];have d:(("-" : Str)).length=1:=rfl;have i:(("-" : Str)).cps = #[45]:=by decide +kernel
 rw[d];have f:z.length=z.cps.toList.length:=by simp[Str.length]
 have j:subAt z "-" 0=(z.cps.extract 0 (0+1) == #[45]):=by
  unfold subAt;rw[d,i]
 rw[j];cases e:z.cps.toList with
 | nil=>
  have c:z.length=0:=by rw[f,e];rfl
  rw[c];simp[bH,e]
 | cons a r=>
  have c:z.length=r.length+1:=by rw[f,e];rfl
  have k:z.cps.extract 0 (0+1) = #[a]:=by
   apply ZO.mp;rw[Array.toList_extract,e];simp
  rw[k,c];by_cases b:a=45
  ·subst b;simp[bH]
  ·have g:(#[a] == #[45])=false:=by
    rw[beq_eq_false_iff_ne];intro h;apply b;simpa using h
   rw[g];simp only[YO,Yh,if_false];rw[e];unfold bH
   split
   ·rename_i q;cases q;exact(b rfl).elim
   ·rfl
section
open PySem.StrLaws
def isB (l:List Nat) (i:Nat):Bool:=decide (l[i]? = some 32)
theorem zx:∀l:List Nat,(Z6 l.length).countP (isB l)=l.count 32
 | []=>rfl
 | a::r=>by
  rw[XX,List.range_succ_eq_map,Y3,List.countP_map,List.count_cons];have e:(isB (a::r) ∘ Nat.succ)=isB r:=by rfl
  rw[e,zx r];have b:isB (a::r) 0=(a == 32):=by rw[Yc];simp[isB]
  rw[b]
theorem vE (z:Str) (i:Nat):subAt z " " i=isB z.cps.toList i:=by
 have b:((" " : Str)).cps.toList=[32]:=by decide +kernel
 have a:((" " : Str)).length=1:=rfl;rw[subAt_eq,a,b];unfold isB;cases e:z.cps.toList[i]? with
 | none=>
  grind [Y8]
 | some c=>
  have d:=ba e;rw[Yj d]
  grind
theorem rV (z:Str) (a:Nat) (b:z.length<a):∀(m k:Nat) (st:Array Nat×Nat),k+m<=z.length+1->st.1.size<=k->st.2<=k ->
  st.1.size+(List.range' k m).countP (isB z.cps.toList)<=(forIn (List.range' k m) st (occBody z " " z.length a)).run.1.size
 | 0,k,st,_,_,_=>by
  exact XD _
 | m+1,k,st,hk,hs,hf=>by
  have f:((" " : Str)).length=1:=rfl;rw[List.range'_succ,Zm,Y3];unfold occBody;by_cases c:isB z.cps.toList k=true
  ·have g:k<z.length:=by
    grind [isB,ba,Str.length]
   rw[Yb7 c,Yb7 ⟨⟨⟨by lia,hf⟩,by rw[f];lia⟩,by rwa [vE]⟩];have d:=rV z a b m (k+1) (st.1.push k,k+((" " : Str)).length) (by lia) (by simp_all) (by lia);have e:(st.1.push k,k+((" " : Str)).length).1.size=st.1.size+1:=by simp
   rw[e]at d;refine XG ?_ d;lia
  ·rw[Yb8 c,Yb8 (by grind [vE])];exact(rV z a b m (k+1) (st.1,st.2) (by lia) (by lia) (by lia))
theorem FO (z:Str):z.cps.toList.count 32<=(occurrences z " " 0 z.length (z.length+1)).length:=by
 rw[occ_eq];have h:=rV z (z.length+1) (Zv _) (z.length+1) 0 (#[],0) (by lia) (by simp) (XD _);have e:(List.range' 0 (z.length+1)).countP (isB z.cps.toList)=z.cps.toList.count 32:=by
  rw[<-List.range_eq_range',Zk,List.countP_append];have a:z.length=z.cps.toList.length:=by rfl
  have b:isB z.cps.toList z.length=false:=by
   unfold isB
   simp_all
  rw[a,zx,<-a];simp[b]
 simp_all
theorem Cn (z:Str):(Z5 z " ").length=(occurrences z " " 0 z.length (z.length+1)).length+1\/(Z5 z " " = [z]/\z.cps.toList.count 32=0):=by
 unfold Z5
 split
 ·rename_i h
  right
  refine⟨rfl,?_⟩;rw[Bool.or_eq_true,decide_eq_true_eq,decide_eq_true_eq]at h;have b:((" " : Str)).length=1:=rfl;rcases h with h | h
  ·have a:z.cps.toList=[]:=Yo (by rw[X6];have:z.length=z.cps.size:=rfl;lia);rw[a];rfl
  ·exfalso;have e:PySem.Builtin.Str.strKind (" " : Str)=1:=by decide +kernel
   grind [PySem.Builtin.Str.strKind]
 ·split
  ·simp_all
  ·left
   rw[length_partsBetween]
theorem DD (ts:Qqv) (a:ts≠[]):(Ya9 " " ts).cps.toList.count 32=(ts.map λt=>t.cps.toList.count 32).sum+(ts.length - 1):=by
 have b:((" " : Str)).cps.toList=[32]:=by decide +kernel
 induction ts with
 | nil=>exact(a rfl).elim
 | cons x r _=>
  cases r with
  | nil=>show x.cps.toList.count 32=_;simp
  | cons y r=>
   have e:Ya9 " " (x::y::r)=x ++ " " ++ Ya9 " " (y::r):=rfl
   grind [Ya9,Str.cps_append,Yx,Zs,XS,YC,XX,Zh]
theorem Aw:∀{l:List Nat},l.sum=0->∀x∈l,x=0
 | [],_,x,h=>by cases h
 | a::r,hs,x,h=>by
  simp only[YC]at hs
  (rcases XQ.mp h with rfl | h)
  ·lia
  ·exact Aw (by lia) x h
theorem split_free (z:Str):∀x∈Z5 z " ",32∉x.cps.toList:=by
 intro x b;have a:=DD (Z5 z " ") (by grind);rw[(StrLaws.join_split z " ")]at a;rcases Cn z with h | h
 ·rw[h]at a;have d:=FO z;have c:(List.map (λt:Str=>t.cps.toList.count 32) (Z5 z " ")).sum=0:=by lia
  exact List.count_eq_zero.mp (Aw c (x.cps.toList.count 32) (XE.mpr ⟨x,b,rfl⟩))
 ·grind
theorem M6 {a b c d:List Nat} (h:a++32::b=c++32::d) (f:32∉a) (g:32∉c):a=c/\b=d:=by
 induction a generalizing c with
 | nil=>
  cases c with
  | nil=>simp at h;exact⟨rfl,h⟩
  | cons e c=>simp at h;exact(g (by simp[<-h.1])).elim
 | cons e a _=>
  cases c with
  | nil=>simp at h;exact(f (by simp[h.1])).elim
  | cons _ c=>
   simp_all
theorem DT (x y:Str) (r:Qqv):(Ya9 " " (x::y::r)).cps.toList=x.cps.toList++32::(Ya9 " " (y::r)).cps.toList:=by
 have a:((" " : Str)).cps.toList=[32]:=by decide +kernel
 have e:Ya9 " " (x::y::r)=x ++ " " ++ Ya9 " " (y::r):=rfl
 grind [Str.cps_append,Yx,Yn,List.singleton_append]
theorem AK:∀{ts us:Qqv},ts≠[]->us≠[]->(∀x∈ts,32∉x.cps.toList)->(∀x∈us,32∉x.cps.toList)->(Ya9 " " ts).cps.toList=(Ya9 " " us).cps.toList->ts=us
 | [x],[y],_,_,_,_,h=>by rw[k4 (x:=x) (y:=y) h]
 | [x],y::y2::r,_,_,hx,_,h=>by
  grind [DT,Ya9]
 | x::x2::r,[y],_,_,_,hy,h=>by
  grind [DT,Ya9]
 | x::x2::r,y::y2::q,_,_,hx,hy,h=>by
  rw[DT,DT]at h;obtain⟨b,c⟩:=M6 h (hx x (by simp)) (hy y (by simp));have:=AK (ts:=x2::r) (us:=y2::q) (by simp) (by simp) (λz a=>hx z (XF _ a)) (λz a=>hy z (XF _ a)) c;rw[k4 b,this]
theorem Cf (a:ws≠[]) (h:∀x∈ws,32∉x.cps.toList):Z5 (Ya6 " " ws) " " = ws:=by
 have e:Ya6 " " ws=Ya9 " " ws:=StrLaws.glued_eq_join " " ws;refine AK ?_ a (split_free _) h ?_
 ·grind [L2.sP,Ya6,absurd]
 ·grind [StrLaws.join_split,Ya6]
end
theorem oG (y:Str) (p:Nat->Bool) (h1:∀c<200,y.cps.contains c=p c) (h2:∀x∈y.cps.toList,x<200) (h3:∀c,200<=c->p c=false):(λc=>y.cps.contains c)=p:=by
 grind
theorem MF (c:Nat) (h:200<=c):sgn c=false:=by grind [sgn,decide_eq_false]
theorem NS (c:Nat) (h:200<=c):dig c=false:=by grind [dig,decide_eq_false]
theorem Mg (c:Nat) (h:200<=c):low c=false:=by grind [low,decide_eq_false]
@[irreducible] def He:Str:= "0123456789"
@[irreducible] def GX:Str:= "abcdefghijklmnopqrstuvwxyz"
@[irreducible] def vX:Str:= "!\"#$&'()*+,-./0123456789:;<=>?@ABCDEFGHIJKLMNOPQRSTUVWXYZ[\\]^_`abcdefghijklmnopqrstuvwxyz{|}~"
theorem ND:He = "0123456789" :=by unfold He;rfl
theorem NE:GX = "abcdefghijklmnopqrstuvwxyz" :=by unfold GX;rfl
theorem Ii:vX = "!\"#$&'()*+,-./0123456789:;<=>?@ABCDEFGHIJKLMNOPQRSTUVWXYZ[\\]^_`abcdefghijklmnopqrstuvwxyz{|}~" :=by unfold vX;rfl
theorem ID:(λc=>He.cps.contains c)=dig:=oG _ _ (by decide +kernel) (by decide +kernel) NS
theorem Jk:(λc=>GX.cps.contains c)=low:=oG _ _ (by decide +kernel) (by decide +kernel) Mg
theorem FZ:(λc=>vX.cps.contains c)=sgn:=oG _ _ (by decide +kernel) (by decide +kernel) MF
theorem nq (z:Str):decide (V.str z=V.str "")=z.cps.toList.isEmpty:=by
 rw[Yc,decide_eq_true_eq,Zw];constructor
 ·intro h;have:z = "" :=by injection h
  rw[this];rfl
 ·intro h;have:z = "" :=k4 (by rw[h];rfl);rw[this]
theorem Ma (z y:Str):((!decide (V.str z=V.str "")) && decide (V.str (Yao z y)=V.str ""))=dY (λc=>y.cps.contains c) z.cps.toList:=by
 rw[nq,strip_nil];rfl
theorem Hf (hi:i<3) (a:j<3):decide (V.str (jK i)=V.str (jK j))=decide (i=j):=by
 match i,j,hi,a with
 | 0,0,_,_=>decide +kernel
 | 0,1,_,_=>decide +kernel
 | 0,2,_,_=>decide +kernel
 | 1,0,_,_=>decide +kernel
 | 1,1,_,_=>decide +kernel
 | 1,2,_,_=>decide +kernel
 | 2,0,_,_=>decide +kernel
 | 2,1,_,_=>decide +kernel
 | 2,2,_,_=>decide +kernel
theorem ue (l:List Nat):Kh l<3:=by
 grind [Kh]
def eF (l:List Nat):Nat:=if dY dig (bH l)=true then 0 else if l.all low=true then 1 else 2
theorem Ah (z:Str):∀(n a:Nat),a+n<=z.cps.toList.length->((Z6 n).map λk=>a+k).filterMap (λi=>z.cps[i]?)=(z.cps.toList.drop a).take n
 | 0,a,_=>by simp
 | n+1,a,h=>by
  rw[Zk,XH,List.filterMap_append,Ah z n a (by lia)]
  grind [Zb,XJ,XS,YU,Zi,List.filterMap_nil,List.take_succ,List.getElem?_drop]
theorem vt (z:Str) {l u:Option Int}{a:Nat} (h:strSliceIndices l u 1 z.length=(Z6 n).map λk=>a+k) (e:a+n<=z.length):(Yac z l u).cps.toList=(z.cps.toList.drop a).take n:=by
 have d:z.length=z.cps.toList.length:=by rfl
 unfold Yac;rw[h]
 split
 ·rename_i hc;have b:n=z.length:=by simpa using hc
  have c:a=0:=by lia
  grind
 ·show(Ya8 _).toList=_;rw[List.toList_toArray]
  grind [Ah]
theorem rJ (z:Str):(Yac z none (some 1)).cps.toList=z.cps.toList.take 1:=by
 have a:z.length=z.cps.toList.length:=by rfl
 have h:strSliceIndices none (some 1) 1 z.length=(Z6 (min 1 z.length)).map λk=>0+k:=by
  (unfold strSliceIndices sliceRange)
  simp only[show(1:Int) > 0 by decide,if_true,show¬ (1:Int)<0 by decide,if_false];have e:(if (0:Int)<max 0 (min 1 (z.length:Int))then(max 0 (min 1 (z.length:Int)) - 0+1 - 1) / 1 else 0).toNat=min 1 z.length:=by
   split <;> lia
  rw[e]
  (refine X8 λk _=>?_)
  lia
 rw[vt z h (by lia),List.drop_zero]
 simp_all
theorem Dq (z:Str):(Yac z (some 1) none).cps.toList=z.cps.toList.drop 1:=by
 have a:z.length=z.cps.toList.length:=by rfl
 have h:strSliceIndices (some 1) none 1 z.length=(Z6 (z.length - 1)).map λk=>min 1 z.length+k:=by
  (unfold strSliceIndices sliceRange)
  simp only[show(1:Int) > 0 by decide,if_true,show¬ (1:Int)<0 by decide,if_false];have e:(if max 0 (min 1 (z.length:Int))<(z.length:Int)then((z.length:Int) - max 0 (min 1 (z.length:Int))+1 - 1) / 1 else 0).toNat=z.length - 1:=by
   split <;> lia
  grind
 rw[vt z h (by lia)]
 grind [Nat.eq_zero_or_pos,Yo,Nat.min_eq_left,XY,Y1]
theorem Hk (z:Str):decide (V.str (Yac z none (some 1))=V.str "-")=decide (z.cps.toList.head? = some 45):=by
 have c:(("-" : Str)).cps.toList=[45]:=by decide +kernel
 (rw[Yc,decide_eq_true_eq,decide_eq_true_eq])
 constructor
 ·intro h;have e:Yac z none (some 1) = "-" :=by injection h
  have b:=rJ z;rw[e,c]at b;cases q:z.cps.toList with
  | nil=>rw[q]at b;simp at b
  | cons a r=>rw[q]at b;simp at b;simp[b]
 ·intro h;have e:Yac z none (some 1) = "-" :=by
   refine k4 ?_;rw[rJ,c];cases q:z.cps.toList with
   | nil=>rw[q]at h;simp at h
   | cons a r=>rw[q]at h;simp at h;simp[h]
  rw[e]
theorem AW {l:List Nat} (h:l.head? = some 45):l.drop 1=bH l:=by
 cases l with
 | nil=>simp at h
 | cons a r=>simp at h;subst h;rfl
theorem B0 {l:List Nat} (h:l.head? ≠ some 45):l=bH l:=by
 cases l with
 | nil=>rfl
 | cons a r=>
  unfold bH
  simp_all
theorem lt1 (a b:Nat):decide ([a] < [b])=decide (a<b):=by
 (rw[Yc,decide_eq_true_eq,decide_eq_true_eq])
 constructor
 ·intro h;cases h with
  | rel h=>exact h
  | cons h=>cases h
 ·intro h;exact List.Lex.rel h
theorem le1 (a b:Nat):(!decide (([b]:List Nat) < [a]))=decide (a<=b):=by
 rw[lt1];lia
theorem i7 {a b:Str}{lo hi c:Nat} (f:a=⟨#[lo]⟩) (d:b=⟨#[hi]⟩) {R:Bool->Hp->Prop} (h:R (!(decide (lo<=c) && decide (c<=hi))) H2) :
  PN (ud (w8 (λx y H Q=>∃i j,x = .str i/\y = .str j/\Q (.bl (!decide (j.cps.toList<i.cps.toList))) H) (λx y H Q=>∃i j,x = .str i/\y = .str j/\Q (.bl (!decide (j.cps.toList<i.cps.toList))) H) (tC (.str a)) (o5 0) (tC (.str b)))) [some (.str ⟨#[c]⟩)] H2 R:=by
 subst f d;refine⟨_,rfl,_,_,rfl,rfl,_,rfl,?_⟩;rw[(le1 lo c)];by_cases e:lo<=c
 ·rw[Yb4 e]at h ⊢;rw[Yb7 rfl];refine⟨_,_,rfl,rfl,_,rfl,?_⟩;rw[(le1 c hi)]
  rwa [YY]at h
 ·lia
def sg (c:Nat):Str:=⟨#[c]⟩
section
variable {Q:VK}
theorem zW (f:Nat->Bool) (hz:Z2 z=true) (n:z.length<=1000000) (j:H D=none) (m:∀(c:Nat) (H2:Hp) (R:Bool->Hp->Prop),R (f c) H2->tt [some (.str ⟨#[c]⟩)] H2 R)
  (q:∀(H2:Hp),ab H H2->H2 D=some (.lst (((z.cps.toList.filter f).map sg).map V.str))->Q (.ref D) H2) :
  lM (bf 0) tt (o5 0) (Its z) D Q [none] (upd H D (.lst [])):=by
 have k:z.length=z.cps.toList.length:=by rfl
 refine Jd (λi b e H2=>(∃u,e=[u])/\ab H H2/\b=((((z.cps.toList.take i).filter f).map sg).map V.str)) aa ⟨⟨_,rfl⟩,ab.new j,rfl⟩ (λi c b e H2 _ a p=>?_) (λb e H2 a p=>?_)
 ·obtain⟨⟨u,rfl⟩,g,rfl⟩:=p;have d:z.cps.toList[i]? = some c:=by simp_all
  have o:=ba d;have l:z.cps.toList.take (i+1)=z.cps.toList.take i++[c]:=by rw[XW,d];rfl
  have h:((((z.cps.toList.take i).filter f).map sg).map V.str).length<=i:=by
   grind
  refine m _ _ _ ?_;cases hf:f c with
  | true=>
   refine bN ?_;refine⟨_,rfl,_,a,small (by lia),_,aa,⟨_,rfl⟩,ar j g,?_⟩;rw[l,Yq,XH,XH];simp[hf,sg]
  | false=>
   refine aX ⟨_,a,⟨_,rfl⟩,g,?_⟩
   simp_all
 ·grind
theorem S5 (hz:Z2 z=true) {f:Nat->Bool}:∀x∈(z.cps.toList.filter f).map sg,Z2 x=true:=λx hx=>by
 obtain⟨c,hc,rfl⟩:=XE.mp hx
 grind [iM,kN,sg]
theorem oZ {R:Bool->Hp->Prop} (f:Nat->Bool) (n:σ[i]? = some (some (.str z))) (hz:Z2 z=true) (m:z.length<=1000000) (o:∀(c:Nat) (H2:Hp) (R:Bool->Hp->Prop),R (f c) H2->tt [some (.str ⟨#[c]⟩)] H2 R)
  (h:∀H',ab H H'->R (z.cps.toList.all λc=>!f c) H'):ud (tOp (nH K) (vR (Qh (o5 i)) (bf 0) tt (o5 0) 1 []) (P7 Kv)) σ H R:=by
 refine⟨_,n,z,rfl,λD l=>?_⟩;refine zW f hz m l o λH2 k b=>?_;refine⟨XT _,λp g=>?_⟩;refine⟨.list (((z.cps.toList.filter f).map sg).map .str),.list [],.lst (.of (by rwa [ao (aw b g)])) (eX (S5 hz)),.lst (.of aa) .nil,?_,_,rfl,?_⟩
 ·have:Z3 (((z.cps.toList.filter f).map sg).map PyData.str)<=0:=bJ _ λd j=>by
   obtain⟨x,_,rfl⟩:=XE.mp j;exact XD _
  show Z3 _+1<=100;lia
 ·have e:Z7 (.list (((z.cps.toList.filter f).map sg).map .str)) (.list [])=z.cps.toList.all λc=>!f c:=by
   have:Z7 (.list (((z.cps.toList.filter f).map sg).map .str)) (.list [])=(z.cps.toList.filter f).isEmpty:=by
    cases z.cps.toList.filter f with
    | nil=>rfl
    | cons a r=>rfl
   rw[this,Yc,Zw,Y7,Ye];simp
  rw[e];exact h _ (k.trans (ab.new g))
end
inductive Pt where
 | word (w:Str)
 | hole (k:Nat)
 deriving DecidableEq
abbrev Qqs:=List Pt
abbrev Qqr:=List Qqs
def Pt.dat:Pt->Yaz
 | .word w=>.tuple [.str "word",.str w]
 | .hole k=>.tuple [.str "hole",.str (cA k)]
def TOk (w:Str):Prop:=w.length<=10000/\Z2 w=true
def Pt.ok:Pt->Prop
 | .word w=>TOk w
 | .hole k=>k<3
def aD (ps:Qqs):Yaz:=.list (ps.map Pt.dat)
def POk (ps:Qqs):Prop:=ps.length<=10000/\∀p∈ps,p.ok
def Pt.takes:Pt->Str->Bool
 | .word x,w=>decide (w=x)
 | .hole 0,w=>decide (dS w=0)
 | .hole 1,w=>decide (dS w=1)
 | .hole _,w=>dh w
def aR (ps:Qqs) (ws:Qqv):Bool:=decide (ps.length=ws.length) && (ps.zip ws).all λp=>p.1.takes p.2
def Pt.within:Pt->Pt->Bool
 | .word x,q=>q.takes x
 | .hole k,q=>decide (q = .hole k) || decide (q = .hole 2)
def wq (ps qs:Qqs):Bool:=decide (ps.length=qs.length) && (ps.zip qs).all λp=>p.1.within p.2
def Pt.loose:Pt->Int
 | .word _=>0
 | .hole 0=>1
 | .hole 1=>1
 | .hole _=>2
def Pt.around:Pt->Nat
 | .word w=>dS w
 | .hole k=>k
def ia (ps:Qqs):Pt:=match ps with
 | []=>.hole 2
 | p::r=>if r.all (λq=>decide (q=p))=true then p else if r.all (λq=>decide (q.around=p.around))=true then .hole p.around else .hole 2
theorem wJ (hi:i<3) (hj:j<3) (h:cA i=cA j):i=j:=by
 have key:∀i<3,∀j<3,cA i=cA j->i=j:=by decide +kernel
 exact key i hi j hj h
theorem Ec {p q:Pt} (b:p.ok) (c:q.ok) (h:p.dat=q.dat):p=q:=by
 cases p with
 | word w=>
  cases q with
  | word a=>simp[Pt.dat]at h;rw[h]
  | hole k=>
   have:("word" : Str) ≠ "hole" :=by decide +kernel
   grind [Pt.dat]
 | hole k=>
  cases q with
  | word a=>
   have:("hole" : Str) ≠ "word" :=by decide +kernel
   grind [Pt.dat]
  | hole _=>
   simp[Pt.dat]at h;rw[wJ b c h]
def Ni:Sh:=.bE .str (.bE .str .lH)
theorem IE (p:Pt):Ni.has p.dat:=by
 cases p with
 | word w=>exact⟨_,_,rfl,⟨_,rfl⟩,_,_,rfl,⟨_,rfl⟩,rfl⟩
 | hole k=>exact⟨_,_,rfl,⟨_,rfl⟩,_,_,rfl,⟨_,rfl⟩,rfl⟩
theorem OR {p q:Pt} (hp:p.ok) (hq:q.ok):Z7 p.dat q.dat=decide (p=q):=by
 rw[Yc,decide_eq_true_eq,(Sh.ok Ni).eqv _ _ (IE p) (IE q)]
 grind [Ec]
theorem Ex (pt:Pt):pt.dat.depth<=5:=by cases pt <;> simp[Pt.dat,ZT,Z3]
theorem bY (ps:Qqs):(aD ps).depth<=90:=by
 have h:Z3 (ps.map Pt.dat)<=5:=bJ _ λd hd=>by
  obtain⟨pt,_,rfl⟩:=XE.mp hd;exact Ex pt
 grind [aD,ZT]
theorem zv (h:Den K H v (.str x)):v = .str x/\Z2 x=true:=by
 cases h with
 | str q=>exact⟨rfl,q⟩
theorem k9 (h:Den K H v (.tuple [.str x,.str y])):∃a,v = .ref a/\SqT K H a [.str x,.str y]/\Z2 x=true/\Z2 y=true:=by
 cases h with
 | tup e t=>
  cases t with
  | cons c t=>cases t with
   | cons d t=>
    cases t;obtain⟨rfl,f⟩:=zv c;obtain⟨rfl,b⟩:=zv d;exact⟨_,rfl,e,f,b⟩
theorem lX {pt:Pt} (h:Den K H v pt.dat):∃a x y,v = .ref a/\SqT K H a [.str x,.str y]/\Z2 x=true/\Z2 y=true/\(match pt with | .word w=>x = "word" /\ y=w | .hole k=>x = "hole" /\ y=cA k):=by
 cases pt with
 | word w=>obtain⟨a,rfl,c,d,b⟩:=k9 h;exact⟨a,_,_,rfl,c,d,b,rfl,rfl⟩
 | hole k=>obtain⟨a,rfl,c,d,b⟩:=k9 h;exact⟨a,_,_,rfl,c,d,b,rfl,rfl⟩
theorem dH {ps:Qqs} (h:Den K H v (aD ps)):∃a xs,v = .ref a/\SqL K H a xs/\ay K H xs (ps.map Pt.dat):=by
 cases h with
 | lst hq t=>exact⟨_,_,rfl,hq,t⟩
def LOk (w:Str):Prop:=w.length<=10000
theorem LOk.s {w:Str} (h:LOk w):w.length<=Yb0:=XG h (by decide)
def AM (K:Vzz):Sp:=λvs H Q _=>∃z y:Str,vs=[.str z,.str y]/\LOk z/\Q (.bl (dY (λc=>y.cps.contains c) z.cps.toList)) H
def BW (K:Vzz):Sp:=λvs H Q _=>∃z:Str,vs=[.str z]/\LOk z/\Q (.bl (dh z)) H
def Cu (K:Vzz):Sp:=λvs H Q _=>∃z:Str,vs=[.str z]/\LOk z/\Q (.str (jK (dS z))) H
def AJ (K:Vzz):Sp:=λvs H Q _=>∃z:Str,vs=[.str z]/\LOk z/\∀l,H l=none->Q (.ref l) (upd H l (.lst ((Z5 z " ").map V.str)))
def Dv (K:Vzz):Sp:=λvs H Q _=>∃v pt,vs=[v]/\Den K H v (Pt.dat pt)/\Q (.bl (match pt with | .hole _=>true | _=>false)) H
def uE (K:Vzz):Sp:=λvs H Q _=>∃(v:V) (w:Str) (p:Pt),vs=[v,.str w]/\Den K H v p.dat/\p.ok/\LOk w/\Q (.bl (p.takes w)) H
def x8 (K:Vzz):Sp:=λvs H Q _=>∃(a b:Yau) (xs:Qqt) (ps:Qqs) (ws:Qqv),vs=[.ref a,.ref b]/\SqL K H a xs/\ay K H xs (ps.map Pt.dat)/\(∀p∈ps,p.ok)/\SqL K H b (ws.map V.str)/\(∀w∈ws,LOk w)/\∀H',ab H H'->Q (.bl (aR ps ws)) H'
def M7 (K:Vzz):Sp:=λvs H Q _=>∃(v:V) (z:Str) (ps:Qqs),vs=[v,.str z]/\Den K H v (aD ps)/\(∀p∈ps,p.ok)/\LOk z/\Z2 z=true/\∀H',ab H H'->Q (.bl (aR ps (Z5 z " "))) H'
def jr (K:Vzz):Sp:=λvs H Q _=>∃(v:V) (p:Pt),vs=[v]/\Den K H v p.dat/\p.ok/\Q (.str (cA p.around)) H
def jO (K:Vzz):Sp:=λvs H Q _=>∃(v:V) (p:Pt),vs=[v]/\Den K H v p.dat/\p.ok/\Q (.int p.loose) H
def yg (K:Vzz):Sp:=λvs H Q _=>∃(v:V) (ps:Qqs),vs=[v]/\Den K H v (aD ps)/\POk ps/\∀D H',H D=none->ab H H'->H' D=some (.lst (ps.map λp=>.int p.loose))->Q (.ref D) H'
def rK (K:Vzz):Sp:=λvs H Q _=>∃(a:Yau) (xs:Qqt) (ps:Qqs),vs=[.ref a]/\SqL K H a xs/\ay K H xs (ps.map Pt.dat)/\ps≠[]/\POk ps/\∀r H',ab H H'->Den K H' r (ia ps).dat->Q r H'
theorem oW {p:Pt} (h:p.ok):p.around<3:=by
 cases p with
 | word w=>exact ue _
 | hole k=>exact h
theorem sJ {k:Nat}:Z2 (cA k)=true:=by
 match k with
 | 0=>decide +kernel
 | 1=>decide +kernel
 | (n+2)=>show Z2 (cA 2)=true;decide +kernel
theorem y6 {k:Nat} (hk:k<3):decide (V.str (cA k)=V.str "any")=decide (k=2):=by
 match k,hk with
 | 0,_=>decide +kernel
 | 1,_=>decide +kernel
 | 2,_=>decide +kernel
theorem Hj {k:Nat} (hk:k<2) (w:Str):decide (V.str (jK (dS w))=V.str (cA k))=decide (dS w=k):=by
 have h:cA k=jK k:=by
  match k,hk with
  | 0,_=>rfl
  | 1,_=>rfl
 rw[h];exact Hf (ue _) (by lia)
theorem zO (z:Str):dS z<3:=ue _
theorem Gj (z:Str):(Txt.removeprefix z "-").length<=z.length:=by
 have a:(Txt.removeprefix z "-").length=(Txt.removeprefix z "-").cps.toList.length:=by rfl
 have b:z.length=z.cps.toList.length:=by rfl
 rw[a,(zg z),b];generalize z.cps.toList=l;unfold bH
 split <;> simp
theorem Gb {ps:Qqs} (h:ps.length≠ws.length):aR ps ws=false:=by unfold aR;rw[Yb5 h];rfl
theorem IY {f:α×β->Bool}{xs:List α}{ys:List β}{x:α}{y:β} (hx:xs[i]? = some x) (b:ys[i]? = some y) (h:f (x,y)=false):(xs.zip ys).all f=false:=by
 rw[X5];intro q;rw[Ye]at q;have a:(x,y)∈xs.zip ys:=by
  refine XB (i:=i) ?_
  grind
 rw[q _ a]at h;cases h
theorem MG {f:α×β->Bool}{xs:List α}{ys:List β} (h:∀(i:Nat) x y,i<min xs.length ys.length->xs[i]? = some x->ys[i]? = some y->f (x,y)=true):(xs.zip ys).all f=true:=by
 grind [Ye,YW,YF,ba]
theorem gh {ps:Qqs}{x:V} (h:ay K H xs (ps.map Pt.dat)) (hx:xs[i]? = some x):∃p,ps[i]? = some p/\Den K H x p.dat:=by
 obtain⟨d,hd,cf⟩:=h.get hx
 grind
theorem ee {y:V} (h:(ws.map V.str)[i]? = some y):∃w,ws[i]? = some w/\y = .str w:=by
 grind
theorem Nd {c:Hp} (f:LL H0 c) (s:ab c H') {pt:Pt} (h:Den K c v pt.dat):Den K (lim H0 H') v pt.dat:=by
 cases pt with
 | word w=>obtain⟨a,rfl,d,e,b⟩:=k9 h;exact .tup (d.Rq f s) (.cons (.str e) (.cons (.str b) .nil))
 | hole k=>obtain⟨a,rfl,d,e,b⟩:=k9 h;exact .tup (d.Rq f s) (.cons (.str e) (.cons (.str b) .nil))
def bA (pss:Qqr) (n:Nat):Qqs:=(Z6 n).map λi=>ia (pss.map λps=>ps.getD i (.hole 2))
def G1 (K:Vzz):Sp:=λvs H Q _=>∃(a:Yau) (xs:Qqt) (pss:Qqr) (n:Nat),vs=[.ref a]/\SqL K H a xs/\ay K H xs (pss.map aD)/\pss≠[]/\pss.length<=10000/\(∀ps∈pss,POk ps/\ps.length=n) /\
 ∀D acc H',H D=none->ab H H'->H' D=some (.lst acc)->ay K (lim H H') acc ((bA pss n).map Pt.dat)->Q (.ref D) H'
theorem yb (pss:Qqr) (n:Nat):bA pss (n+1)=bA pss n++[ia (pss.map λps=>ps.getD n (.hole 2))]:=by simp[bA,Zk]
theorem c8 {pss:Qqr}{x:V} (h:ay K H xs (pss.map aD)) (hx:xs[i]? = some x):∃ps,pss[i]? = some ps/\Den K H x (aD ps):=by
 obtain⟨d,hd,cf⟩:=h.get hx
 grind
end LG
variable {pss:LG.Qqr}{qs:LG.Qqs}
namespace LG
open PySem L2
def Pt.key:Pt->Yaz
 | .word w=>.tuple [.int 0,.int w.length,.str w]
 | .hole k=>.tuple [.int 1,.int k,.str ""]
def gJ (ps:Qqs):Yaz:=.tuple [.int ps.length,.list (ps.map Pt.key)]
theorem EV (pt:Pt):pt.key.depth<=5:=by cases pt <;> simp[Pt.key,ZT,Z3]
theorem Lb (ps:Qqs):(gJ ps).depth<=100:=by
 have h:Z3 (ps.map Pt.key)<=5:=bJ _ λd hd=>by
  obtain⟨pt,_,rfl⟩:=XE.mp hd;exact EV pt
 grind [gJ,ZT,Z3]
def HG:Sh:=.bE .int (.bE .int (.bE .str .lH))
def p7:Sh:=.bE (.list HG) .lH
theorem NV (pt:Pt):HG.has pt.key:=by
 cases pt with
 | word w=>exact⟨_,_,rfl,⟨_,rfl⟩,_,_,rfl,⟨_,rfl⟩,_,_,rfl,⟨_,rfl⟩,rfl⟩
 | hole k=>exact⟨_,_,rfl,⟨_,rfl⟩,_,_,rfl,⟨_,rfl⟩,_,_,rfl,⟨_,rfl⟩,rfl⟩
theorem mn (ps:Qqs):(Sh.bE .int p7).has (gJ ps):=by
 refine⟨_,_,rfl,⟨_,rfl⟩,_,_,rfl,⟨_,rfl,λx hx=>?_⟩,rfl⟩;obtain⟨pt,_,rfl⟩:=XE.mp hx;exact NV pt
theorem Na {p q:Pt} (h:p.key=q.key):p=q:=by
 cases p with
 | word w=>
  cases q with
  | word a=>simp[Pt.key]at h;rw[h.2]
  | hole k=>simp[Pt.key]at h
 | hole k=>
  cases q with
  | word a=>simp[Pt.key]at h
  | hole _=>
   grind [Pt.key]
theorem map_inj {α β:Type}{f:α->β} (c:∀a b,f a=f b->a=b):∀{l l':List α},l.map f=l'.map f->l=l'
 | [],[],_=>rfl
 | [],_::_,h=>by simp at h
 | _::_,[],h=>by simp at h
 | a::r,b::r',h=>by
  rw[XS,XS]at h;injection h with h1 h2;rw[c a b h1,map_inj c h2]
theorem yK {ps:Qqs} (h:gJ ps=gJ qs):ps=qs:=by
 simp only[gJ,PyData.tuple.injEq,Yag,PyData.list.injEq,and_true]at h
 grind [map_inj,Na]
def ow (l:Qqr):Prop:=l.Pairwise λa b=>ltv (gJ b) (gJ a)=false
def sel (pss:Qqr) (p:List Nat):Qqr:=p.map λi=>pss.getD i []
theorem IP {p:List Nat} (b:p.Perm (Z6 pss.length)):(sel pss p).Perm pss:=by
 have a:(sel pss p).Perm ((Z6 pss.length).map λi=>pss.getD i []):=b.map _
 rwa [jf]at a
theorem BB {p:List Nat} (a:p.Perm (Z6 pss.length)) (h:eW (pss.map gJ) p):ow (sel pss p):=by
 unfold eW at h;unfold ow sel;rw[Yu]at h ⊢;refine h.imp_of_mem λ{i j} _ _ q=>?_
 grind
theorem kj {l l':Qqr} (d:l.Perm l') (h:ow l) (h':ow l'):l=l':=by
 refine map_inj (f:=gJ) (λa b=>yK) ?_;refine lT (Sh.ok (.bE .int p7)) (λx e=>?_) (d.map _) ?_ ?_
 ·obtain⟨c,_,rfl⟩:=XE.mp e;exact mn c
 ·rwa [Yu]
 ·rwa [Yu]
def K5 (H H':Hp) (acc:Qqt):Prop:=∀x∈acc,∃t ys,x = .ref t/\H t=none/\H' t=some (.lst ys)/\ys.length<=10000
def yM (K:Vzz):Sp:=λvs H Q _=>∃w,vs=[.str w]/\LOk w/\∀p,H p=none->Q (.ref p) (upd H p (.tup [.int w.length,.str w]))
def Ai (K:Vzz):Sp:=λvs H Q _=>∃v pt,vs=[v]/\Den K H v (Pt.dat pt)/\pt.ok/\∀r H',ab H H'->Den K (lim H H') r pt.key->Q r H'
def si (K:Vzz):Sp:=λvs H Q _=>∃v ps,vs=[v]/\Den K H v (aD ps)/\POk ps/\∀r H',ab H H'->Den K (lim H H') r (gJ ps)->Q r H'
def Cq (K:Vzz):Sp:=λvs H Q _=>∃a xs pss,vs=[.ref a]/\SqL K H a xs/\xs.length<64/\ay K H xs (pss.map aD)/\(∀ps∈pss,POk ps) /\
 ∀D acc H' l,H D=none->ab H H'->H' D=some (.lst acc)->l.Perm pss->ow l->K5 H H' acc->(∀x∈acc,x ≠ .ref D)->ay K (lim H H') acc (l.map aD)->Q (.ref D) H'
theorem Nk {p:List Nat}{x:V} (a:ay K H xs (pss.map aD)) (b:p.Perm (Z6 pss.length)) (hx:(picked xs p)[i]? = some x) :
  ∃ps,(sel pss p)[i]? = some ps/\ps∈pss/\Den K H x (aD ps):=by
 unfold picked at hx;rw[XM]at hx;cases e:p[i]? with
 | none=>rw[e]at hx;cases hx
 | some j=>
  rw[e]at hx;cases hx;have d:=Y0.mp (b.mem_iff.mp (XB e));have c:=a.Lm j (by simp_all)
  grind [XJ,YH,sel,XM,List.getD,aD]
theorem PY (a:m<3):eqV (([.str "number",.str "name",.str "any"]:Qqt).getD m .non) (.str (cA m))=true:=by
 match m,a with
 | 0,_=>decide +kernel
 | 1,_=>decide +kernel
 | 2,_=>decide +kernel
theorem R3 (b:m<3):∀i,i<m->eqV (([.str "number",.str "name",.str "any"]:Qqt).getD i .non) (.str (cA m))=false:=by
 match m,b with
 | 0,_=>intro i a;lia
 | 1,_=>
  intro i a;have:i=0:=by lia
  subst this;decide +kernel
 | 2,_=>
  intro i a;have:i=0\/i=1:=by lia
  rcases this with rfl | rfl <;> decide +kernel
theorem Mz:([.str "number",.str "name",.str "any"]:Qqt).all gu=true:=rfl
theorem P4 (f:ab H H0) (e:ab H H') {pt:Pt} (h:Den K H v pt.dat):Den K (lim H0 H') v pt.dat:=by
 cases pt with
 | word w=>obtain⟨a,rfl,c,d,b⟩:=k9 h;exact .tup (c.lim f e) (.cons (.str d) (.cons (.str b) .nil))
 | hole k=>obtain⟨a,rfl,c,d,b⟩:=k9 h;exact .tup (c.lim f e) (.cons (.str d) (.cons (.str b) .nil))
theorem js {K:Vzz}{H H0 H':Hp} (b:ab H H0) (a:ab H H'):∀{ps:Qqs}{xs:Qqt},ay K H xs (ps.map Pt.dat)->ay K (lim H0 H') xs (ps.map Pt.dat)
 | [],_,h=>by cases h;exact .nil
 | pt::r,_,h=>by
  cases h with
  | cons c t=>exact .cons (P4 b a c) (js b a t)
def looseD (ps:Qqs):Yaz:=.list (ps.map λp=>.int p.loose)
theorem vM {K:Vzz}{H:Hp}:∀{ps:Qqs},ay K H (ps.map λp=>V.int p.loose) (ps.map λp=>PyData.int p.loose)
 | []=>.nil
 | p::r=>.cons (.int _) vM
theorem jX (ps:Qqs):(Sh.list .int).has (looseD ps):=by
 refine⟨_,rfl,λx hx=>?_⟩;obtain⟨p,_,rfl⟩:=XE.mp hx;exact⟨_,rfl⟩
theorem Fk (ps:Qqs):(looseD ps).depth<=100:=by
 have h:Z3 (ps.map λp=>PyData.int p.loose)<=0:=bJ _ λd a=>by
  obtain⟨p,_,rfl⟩:=XE.mp a;exact XD _
 simp only[looseD,ZT];lia
def tT (l:Qqr) (ps:Qqs):Prop:=ps∈l/\∀q∈l,ltv (looseD q) (looseD ps)=false/\(looseD q=looseD ps->ltv (gJ q) (gJ ps)=false)
theorem mK {l a:Qqr}{p q:Qqs} (h:tT l p) (h':tT a q) (b:∀x,x∈l↔x∈a):p=q:=by
 have c:=h.2 q ((b q).mpr h'.1);have d:=h'.2 p ((b p).mp h.1);have e:=(Sh.ok (.list .int)).tot _ _ (jX p) (jX q) d.1 c.1;exact yK ((Sh.ok (.bE .int p7)).tot _ _ (mn p) (mn q) (d.2 e) (c.2 e.symm))
theorem KP {l:Qqr} (j:l≠[]) (n:ow l):∃ps,l[cS (l.map looseD)]? = some ps/\tT l ps:=by
 obtain⟨d,a,i,k⟩:=rB (Sh.ok (.list .int)) (all:=l.map looseD) (λd a=>by obtain⟨ps,_,rfl⟩:=XE.mp a;exact jX ps) (by intro z;exact j (YI.mp z));rw[XM]at a;cases e:l[cS (l.map looseD)]? with
 | none=>rw[e]at a;cases a
 | some ps=>
  rw[e]at a;cases a;refine⟨ps,rfl,XB e,λq o=>?_⟩;obtain⟨m,b⟩:=YW o;have f:(l.map looseD)[m]? = some (looseD q):=by rw[XM,b];rfl
  refine⟨i m _ f,λg=>?_⟩;rcases Nat.lt_trichotomy m (cS (l.map looseD))with z | z | z
  ·have:=k m _ z f;rw[g,(Sh.ok (.list .int)).irr _ (jX ps)]at this;cases this
  ·rw[z,e]at b;cases b;exact(Sh.ok (.bE .int p7)).irr _ (mn _)
  ·have c:=ba b;have h:=ba e;have:=ZH.mp n _ m h c z;rw[XJ c]at b;rw[XJ h]at e;cases b;cases e;exact this
def bq (z:Str) (ps:Qqs):Bool:=aR ps (Z5 z " ")
def N4 (K:Vzz) (H H':Hp) (l:Qqr) (r:V):Prop:=(l=[]/\r = .non)\/∃(t:Yau) (ys:Qqt) (ps:Qqs),r = .ref t/\H t=none/\H' t=some (.lst ys)/\tT l ps/\Den K (lim H H') r (aD ps)
def tL (K:Vzz):Sp:=λvs H Q _=>∃(z:Str) (a:Yau) (xs:Qqt) (pss:Qqr),vs=[.str z,.ref a]/\SqL K H a xs/\xs.length<64/\ay K H xs (pss.map aD)/\(∀ps∈pss,POk ps)/\LOk z/\Z2 z=true /\
 ∀r H',ab H H'->N4 K H H' (pss.filter (bq z)) r->Q r H'
section
open PySem.Builtin PySem.Builtin.Str
def Dk (H:Hp) (d:Yau) (n:Nat):Prop:=∃a b c:Int,H d=some (.lst [.int a,.int b,.int c])/\0<=a/\0<=b/\b<2147483579/\0<=c/\c<=n
theorem Dk.mono (h:Dk H d n) (hm:n<=m):Dk H d m:=by
 obtain⟨a,b,c,h1,h2,h3,h4,h5,h6⟩:=h;exact⟨a,b,c,h1,h2,h3,h4,h5,by lia⟩
theorem Dk.lst (h:Dk H d n):∃ys,H d=some (.lst ys):=by
 obtain⟨a,b,c,h1,_⟩:=h;exact⟨_,h1⟩
theorem Dk.same (h:Dk H d n) (s:ab H H'):Dk H' d n:=by
 obtain⟨a,b,c,h1,h2⟩:=h;exact⟨a,b,c,s _ _ h1,h2⟩
theorem Dk.upd {o:HO} (h:Dk H d n) (hne:d≠D):Dk (upd H D o) d n:=by
 obtain⟨a,b,c,h1,h2⟩:=h;exact⟨a,b,c,by rwa [ao hne],h2⟩
theorem Dk.ne {p:Yau} (h:Dk H d n) (hp:H p=none):d≠p:=by
 obtain⟨ys,h1⟩:=h.lst;exact aw h1 hp
theorem Dk.free {p:Yau} (h:Dk H' d n) (s:ab (wo d H) H') (hp:H' p=none):H p=none:=by
 have h1:=s.free hp
 rwa [aq (h.ne hp).symm]at h1
theorem cX {p:Yau}{o:HO} (s:ab (wo d H) H') (h:H p=some o) (hne:d≠p):H' p=some o:=s p o (Xe (Ya4 hne) h)
theorem ze {a:Hp} (h:H d=some (.lst ys)) (s:ab (wo d H3) a):ab (lim H H3) (lim H a):=λb o e=>by
 have f:=d9 e;have c:b≠d:=λq=>by simp_all
 rw[bh f];exact s b o (Xe c (bG b o e))
theorem kK {l:Qqv}{r:Int} (h0:0<=r) (h1:r<l.length):∃x∈l,atI (l.map V.str) r=some (.str x):=by
 obtain⟨j,rfl⟩:=Y4 (h0:(0:Int)<=r);have hj:j<l.length:=by lia
 exact⟨l[j],YH hj,d5 (by simp)⟩
theorem Nz {r:Int} (b:0<=r) (h1:r<z.length):∃(c i:Nat),atI z.cps.toList r=some c/\z.cps[i]? = some c:=by
 obtain⟨j,rfl⟩:=Y4 (b:(0:Int)<=r);have a:j<z.cps.size:=by have:z.length=z.cps.size:=rfl;lia
 exact⟨z.cps[j],j,d5 (by simp),YR a⟩
theorem OX {i:Int} (h0:0<=i) (h1:i<n):ixN n i=some i.toNat:=by
 unfold ixN;rw[Yb7 h0,Yb7 h1]
theorem AF {i:Int} (h:0<=i):ki xs none (some i)=xs.take i.toNat:=by
 unfold ki;have a:HT.sIx xs.length 0 none=0:=by simp[HT.sIx]
 rw[a];obtain⟨j,rfl⟩:=Y4 (h:(0:Int)<=i);rw[HT.qF,Yv,List.drop_zero,Nat.sub_zero];simp
structure WOk (w:Str):Prop where
 word:dh w=true
 len:w.length<=6
 ok:Z2 w=true
theorem IZ:sgn 32=false:=by decide
theorem WOk.blank {w:Str} (h:WOk w):32∉w.cps.toList:=λq=>by
 have h1:=h.word;unfold dh dY at h1;rw[Yd,Ye]at h1
 grind [IZ]
def BP:Qqv:=["get","put","a"]
def C0:Qqv:=["0","7","12","-3","007"]
def CG:Qqv:=["id=4","<any>","=","x1","-","A","<","none"]
def K2:Qqv:=["abcdefghijklmnopqrstuvwxyz","0123456789","-09az","!\"#$&'()*+,-./:;<=>?@AZ[\\]^_{|}~"]
theorem w1:∀x∈BP,dh x=true/\x.length<=6/\Z2 x=true:=by decide +kernel
theorem w2:∀x∈C0,dh x=true/\x.length<=6/\Z2 x=true:=by decide +kernel
theorem w3:∀x∈CG,dh x=true/\x.length<=6/\Z2 x=true:=by decide +kernel
theorem w4:∀x∈K2,Z2 x=true/\x.length<=100/\0<x.length/\x.cps.toList.all sgn=true:=by decide +kernel
theorem J3 {p:Nat->Prop}{y:Str} (a:∀c∈y.cps,p c):∀(xs:Qqv) (acc:Array Nat),(∀x∈xs,∀c∈x.cps,p c)->(∀c∈acc,p c)->(∀c∈xs.foldl (λacc q=>acc++y.cps++q.cps) acc,p c)/\acc.size<=(xs.foldl (λacc q=>acc++y.cps++q.cps) acc).size
 | [],acc,_,h=>⟨h,XD _⟩
 | x::r,acc,hx,h=>by
  have d:=J3 a r (acc++y.cps++x.cps) (λz b=>hx z (XF _ b)) λc _=>by
   grind
  grind
theorem Fc {l:Qqv} (s:1<=l.length) (v:l.length<=4) (h:∀y∈l,Z2 y=true/\y.length<=1/\∃c,y=⟨#[c]⟩/\sgn c=true):WOk (Ya6 "" l):=by
 have n:=Et (y:= "") (m:=1) (by decide +kernel) (λy i=>⟨(h y i).1,(h y i).2.1⟩);have t:(("" : Str)).length=0:=rfl;rw[t]at n;refine⟨?_,by lia,n.1⟩;cases l with
 | nil=>simp at s
 | cons x r=>
  obtain⟨c,g,j⟩:=(h x (XC ..)).2.2;have o:=J3 (p:=λc=>sgn c=true) (y:= "") (λc f=>by rw[show(WU "").cps = #[]from rfl]at f;simp at f) r x.cps (λy i c f=>by
   obtain⟨_,rfl,u⟩:=(h y (XF _ i)).2.2;simp at f;subst f;exact u) (λc f=>by
   subst g;simp at f;subst f;exact j)
  have e:(Ya6 "" (x::r)).cps=r.foldl (λd q=>d++(("" : Str)).cps++q.cps) x.cps:=rfl;unfold dh dY;rw[e,Yd];constructor
  ·have k:1<=(r.foldl (λd q=>d++(("" : Str)).cps++q.cps) x.cps).size:=XG (by subst g;simp) o.2;cases q:(r.foldl (λd q=>d++(("" : Str)).cps++q.cps) x.cps).toList with
   | nil=>rw[<-X6,q]at k;simp at k
   | cons a b=>rfl
  ·rw[Ye];intro c f;exact o.1 c (by simpa using f)
def xR (K:Vzz):Sp:=λvs H Q _=>∃(d:Yau) (m:Int) (n:Nat),vs=[.ref d,.int m]/\Dk H d n/\n<1000000/\0<m/\m<1000000/\∀(r:Int) H',ab (wo d H) H'->Dk H' d (n+1)->0<=r->r<m->Q (.int r) H'
def xq (K:Vzz):Sp:=λvs H Q _=>∃z:Str,vs=[.str z]/\TOk z/\∀H',ab H H'->Q (.str (jK (eF z.cps.toList))) H'
def xo (K:Vzz):Sp:=λvs H Q _=>∃(d:Yau) (n:Nat),vs=[.ref d]/\Dk H d n/\n<900000/\∀(x:Str) H',ab (wo d H) H'->Dk H' d (n+6)->WOk x->Q (.str x) H'
structure fU (m:Nat) (x:Str) (ws:Qqv):Prop where
 eq:x=Ya6 " " ws
 pos:1<=ws.length
 le:ws.length<=m
 wd:∀w∈ws,WOk w
theorem fU.split (h:fU m x ws):Z5 x " " = ws:=by
 rw[h.eq];exact Cf (by intro e;have:=h.pos;rw[e]at this;simp at this) λw hw=>(h.wd w hw).blank
theorem fU.ok (h:fU m x ws) (d:m<=12):Z2 x=true/\x.length<=84:=by
 have b:=Et (y:= " ") (m:=6) (by decide +kernel) (λy a=>⟨(h.wd y a).ok,(h.wd y a).len⟩);have c:((" " : Str)).length=1:=rfl;rw[c,<-h.eq]at b;have:=h.le;exact⟨b.1,by lia⟩
def yC (K:Vzz):Sp:=λvs H Q _=>∃(d:Yau) (m:Int) (n:Nat),vs=[.ref d,.int m]/\Dk H d n/\n<800000/\0<m/\m<13/\∀(x:Str) (ws:Qqv) H',ab (wo d H) H'->Dk H' d (n+80)->fU m.toNat x ws->Q (.str x) H'
def Drawn (w:Str) (p:Pt):Prop:=p = .word w\/(p = .hole (eF w.cps.toList)/\eF w.cps.toList<2)\/p = .hole 2
def Ak (ws:Qqv) (ps:Qqs):Prop:=ps.length=ws.length/\∀(i:Nat) w p,ws[i]? = some w->ps[i]? = some p->Drawn w p
def qr (K:Vzz):Sp:=λvs H Q _=>∃(d:Yau) (z:Str) (n:Nat),vs=[.ref d,.str z]/\Dk H d n/\n<800000/\z.length<=9000/\Z2 z=true /\
 ∀F H' ps,H F=none->ab (wo d H) H'->Dk H' d (n+(z.length+2))->POk ps->Ak (Z5 z " ") ps->(∃ys,H' F=some (.lst ys))->Den K (lim H H') (.ref F) (aD ps)->Q (.ref F) H'
end
def me (K:Vzz) (H:Hp) (d:Yau) (z:Str) (F L:Yau) (n i:Nat) (σ:St) (H3:Hp):Prop:=
 (∃u1 u2 u3,σ=[some (.ref d),some (.str z),some (.ref F),u1,u2,u3])/\ab (wo d H) H3/\Dk H3 d (n+i)/\H3 L=some (.lst ((Z5 z " ").map V.str)) /\
 ∃(acc:Qqt) (ps:Qqs),H3 F=some (.lst acc)/\ps.length=i/\(∀p∈ps,Pt.ok p)/\(∀(j:Nat) w p,(Z5 z " ")[j]? = some w->ps[j]? = some p->Drawn w p)/\ay K (lim (upd H F (.lst [])) H3) acc (ps.map Pt.dat)
theorem me.step {F t:Yau}{a b B:Str}{f:Qqt}{ps:Qqs}{pt:Pt} (h:d≠F) (s:F≠L) (hF:H F=none)
  (y:∃u1 u2 u3,σ=[some (.ref d),some (.str z),some (.ref F),u1,u2,u3]) (A:ab (wo d H) H5) (k:Dk H5 d (n+(i+1))) (hL:H5 L=some (.lst ((Z5 z " ").map V.str))) (o:H5 F=some (.lst f)) (g:ps.length=i) (v:∀p∈ps,Pt.ok p)
  (r:∀(j:Nat) w p,(Z5 z " ")[j]? = some w->ps[j]? = some p->Drawn w p) (G:ay K (lim (upd H F (.lst [])) H5) f (ps.map Pt.dat)) (D:(Z5 z " ")[i]? = some B) (C:Drawn B pt) (e:pt.dat = .tuple [.str a,.str b]) (m:pt.ok) (E:Z2 a=true) (I:Z2 b=true) (u:H5 t=none) :
  me K H d z F L n (i+1) σ (upd (upd H5 t (.tup [.str a,.str b])) F (.lst (f++[.ref t]))):=by
 have l:ab H5 (upd H5 t (.tup [.str a,.str b])):=ab.new u;refine⟨y,ar (by rwa [aq h.symm]) (A.trans l),(k.same l).upd h,by rw[ao s.symm];exact l _ _ hL,f++[.ref t],ps++[pt],aa,by simp[g],λp c=>?_,λj w p x c=>?_,?_⟩
 ·(rcases XU.mp c with c | c)
  ·exact v p c
  ·simp only[XR]at c;subst c;exact m
 ·rcases Nat.lt_trichotomy j ps.length with q | q | q
  ·rw[Yp q]at c;exact r j w p x c
  ·subst q;rw[Yw (XD _)]at c;simp at c;subst c;rw[g,D]at x;cases x;exact C
  ·rw[Zu (by rw[XI,XZ];lia)]at c;cases c
 ·rw[jb (ys:=[]) aa,XH];refine(G.same (bM l)).append (.cons ?_ .nil);rw[e];exact .tup (.of ((bK (by rw[ao (aw o u).symm];exact k.free A u)).trans aa)) (.cons (.str E) (.cons (.str I) .nil))
theorem B3 (l:List Nat):eF l<3:=by
 unfold eF
 split
 ·decide
 ·split <;> decide
theorem Ft {k:Nat} (hk:k<3):decide (V.str (jK k)=V.str "other")=decide (k=2):=by
 match k,hk with
 | 0,_=>decide +kernel
 | 1,_=>decide +kernel
 | 2,_=>decide +kernel
theorem Mr {k:Nat} (hk:k<2):jK k=cA k:=by
 match k,hk with
 | 0,_=>rfl
 | 1,_=>rfl
structure Bh (ws:Qqv):Prop where
 pos:1<=ws.length
 le:ws.length<=12
 wd:∀w∈ws,WOk w
theorem Bh.line (h:Bh ws):fU 12 (Ya6 " " ws) ws:=⟨rfl,h.pos,h.le,h.wd⟩
def uD (K:Vzz):Sp:=λvs H Q _=>∃(d:Yau) (m:Int) (n:Nat),vs=[.ref d,.int m]/\Dk H d n/\n<700000/\0<=m/\m<=60 /\
 ∀D (ls:Qqv) H',H D=none->ab (wo d H) H'->Dk H' d (n+2000)->H' D=some (.lst (ls.map V.str))->(∀x∈ls,∃ws,fU 12 x ws)->ls.length<=m.toNat->Q (.ref D) H'
def QJ (Hs:Hp) (acc:Qqt):Prop:=∀x∈acc,∃(s:Yau) (ws:Qqv),x = .ref s/\Hs s=some (.lst (ws.map V.str))/\Bh ws
theorem M5 {r:Int} (a:0<=r) (h1:r<3):∃v:Int,atI [V.int 3,V.int 6,V.int 12] r=some (.int v)/\0<v/\v<13:=by
 have:r=0\/r=1\/r=2:=by lia
 rcases this with rfl | rfl | rfl
 ·exact⟨3,rfl,by decide,by decide⟩
 ·exact⟨6,rfl,by decide,by decide⟩
 ·exact⟨12,rfl,by decide,by decide⟩
theorem Bh.set (h:Bh ws)  (hx:WOk x):Bh (ws.set i x):=by
 refine⟨by rw[List.length_set];exact h.pos,by rw[List.length_set];exact h.le,λw a=>?_⟩;rcases List.mem_or_eq_of_mem_set a with q | q
 ·exact h.wd w q
 ·rwa [q]
structure WS (ws:Qqv) (ps:Qqs):Prop where
 ok:POk ps
 len:ps.length=ws.length
 takes:∀(i:Nat) w p,ws[i]? = some w->ps[i]? = some p->p.takes w=true
theorem rM:∀{ps qs:Qqs},(∀p∈ps,p.ok)->(∀p∈qs,p.ok)->ps.map Pt.dat=qs.map Pt.dat->ps=qs
 | [],[],_,_,_=>rfl
 | [],_::_,_,_,h=>by simp at h
 | _::_,[],_,_,h=>by simp at h
 | p::r,q::t,hp,hq,h=>by
  rw[XS,XS]at h;injection h with h1 h2;rw[Ec (hp p (XC ..)) (hq q (XC ..)) h1,rM (λx a=>hp x (XF _ a)) (λx a=>hq x (XF _ a)) h2]
theorem KH (ps:Qqs):(Sh.list Ni).has (aD ps):=by
 refine⟨_,rfl,λx hx=>?_⟩;obtain⟨pt,_,rfl⟩:=XE.mp hx;exact IE pt
theorem n6 {ps a:Qqs} (b:∀p∈ps,p.ok) (c:∀p∈a,p.ok):Z7 (aD ps) (aD a)=decide (ps=a):=by
 rw[Yc,decide_eq_true_eq,(Sh.ok (.list Ni)).eqv _ _ (KH ps) (KH a)];constructor
 ·intro h;simp only[aD,PyData.list.injEq]at h;exact rM b c h
 ·rintro rfl;rfl
section
variable {S:Yau}
end
def xl (K:Vzz):Sp:=λvs H Q _=>∃(a:Yau) (ns:List Int),vs=[.ref a]/\SqL K H a (ns.map V.int)/\ns.length<=63/\∀H',Q (.bl true) H'
def oD:Option Qqs->Yaz
 | none=>.none
 | some ps=>aD ps
structure Vx (l:Qqr) (o:Option Qqs):Prop where
 nil:o=none↔l=[]
 least:∀ps,o=some ps->tT l ps
theorem m6 (pss:Qqr):(PyData.list (pss.map aD)).depth<=100:=by
 have h:Z3 (pss.map aD)<=90:=bJ _ λd a=>by
  obtain⟨b,_,rfl⟩:=XE.mp a;exact bY b
 simp only[ZT];lia
theorem vA {K:Vzz}{H:Hp}:∀(n:Nat) {xs:Qqt}{ds:Qqy},ay K H xs ds->ay K H (xs.take n) (ds.take n)
 | 0,_,_,_=>by simp;exact .nil
 | n+1,_,_,.nil=>by simp;exact .nil
 | n+1,_,_,.cons h t=>.cons h (vA n t)
section
open PySem.Builtin PySem.Builtin.Str
def PtW:Pt->Prop
 | .word w=>dh w=true/\w.length<=500/\Z2 w=true
 | .hole k=>k<3
def PW (ps:Qqs):Prop:=∀p∈ps,PtW p
def Words (ws:Qqv):Prop:=∀w∈ws,dh w=true
def vZ (pss:Qqr) (ws:Qqv):Bool:=pss.any λps=>aR ps ws
def sj (ps:Qqs) (oss:Qqr):Bool:=oss.any λos=>wq ps os
theorem PtW.ok {p:Pt} (h:PtW p):p.ok:=by
 cases p with
 | word w=>exact⟨XG h.2.1 (by decide),h.2.2⟩
 | hole k=>exact h
def Mh (w:Str):Qqs->Bool
 | []=>false
 | p::_=>p.takes w
def kW (oss:Qqr) (w:Str):Qqr:=(oss.filter (Mh w)).map List.tail
def wkD (w:Str):Yaz:=.tuple [.int w.length,.str w]
def lkD (ws:Qqv):Yaz:=.tuple [.int ws.length,.list (ws.map wkD)]
def wlt (a b:Str):Bool:=ltv (wkD a) (wkD b)
def Bd (w:Str):Prop:=w.length<=500/\Z2 w=true
structure LW (k:Nat) (named:Qqv) (x:Str):Prop where
 wd:dh x=true
 kd:dS x=k
 no:x∉named
 le:∀y,dh y=true->dS y=k->y∉named->wlt y x=false
 bd:Bd x
def named:Qqs->Qqv
 | []=>[]
 | .word w::r=>w::named r
 | .hole _::r=>named r
structure FW (p:Pt) (ps:Qqs) (oss:Qqr) (w:Str):Prop where
 tk:p.takes w=true
 nd:sj ps (kW oss w)=false
 le:∀y,p.takes y=true->sj ps (kW oss y)=false->wlt y w=false
 bd:Bd w
structure LP (ps:Qqs) (oss:Qqr) (ws:Qqv):Prop where
 tk:aR ps ws=true
 kn:vZ oss ws=false
 le:∀vs,aR ps vs=true->vZ oss vs=false->aP (vs.map wkD) (ws.map wkD)=false
 bd:∀w∈ws,Bd w
structure PLn (pss qss:Qqr) (ws:Qqv):Prop where
 pa:vZ pss ws≠vZ qss ws
 wd:Words ws
 bd:∀w∈ws,Bd w
 ne:ws≠[]
 ln:ws.length<=12
 le:∀vs,vZ pss vs≠vZ qss vs->ltv (lkD vs) (lkD ws)=false
structure UR (pss qss:Qqr) (L:Qqu):Prop where
 of:∀ws∈L,∃ps∈pss,LP ps qss ws
 all:∀ps∈pss,sj ps qss=true\/∃ws∈L,LP ps qss ws
def mw (pss:Qqr):Prop:=∀ps∈pss,PW ps/\ps≠[]/\ps.length<=12
def lnV (ws:Qqv):V:=.str (Ya6 " " ws)
def oS:Option Qqv->V
 | none=>.non
 | some ws=>lnV ws
theorem IC (j:Nat):ki xs (some (j:Int)) none=xs.drop j:=by
 unfold ki;rw[HT.qF,HT.Jl];rcases Nat.le_total j xs.length with h | h
 ·rw[Nat.min_eq_left h,XY (by rw[Y1];exact XD _)]
 ·rw[Nat.min_eq_right h,ZP,List.take_zero,Y8 h]
theorem at_of {l:List α} (h:i<l.length):∃x,l[i]? = some x:=⟨l[i],XJ h⟩
end
theorem cY {C:St->Prop}{f:Option V->St} (h:∃u0,σ=f u0) (k:∀u0,C (f u0)):C σ:=by
 obtain⟨u0,rfl⟩:=h;exact k _
theorem qD {C:St->Prop}{f:Option V->Option V->St} (h:∃u0 u1,σ=f u0 u1) (k:∀u0 u1,C (f u0 u1)):C σ:=by
 obtain⟨u0,u1,rfl⟩:=h;exact k _ _
theorem NP {C:St->Prop}{f:Option V->Option V->Option V->St} (h:∃u0 u1 u2,σ=f u0 u1 u2) (k:∀u0 u1 u2,C (f u0 u1 u2)):C σ:=by
 obtain⟨u0,u1,u2,rfl⟩:=h;exact k _ _ _
def Pt.place:Pt->Yaz
 | .word w=>.tuple [.int 0,.int w.length,.str w]
 | .hole k=>.tuple [.int (k+1),.int 0,.str ""]
section
open PySem.Builtin PySem.Builtin.Str
structure Mx (P N:Qqr):Prop where
 nd:N.Nodup
 ko:ow N
 mem:∀p,p∈N↔p∈P/\∀q∈P,wq p q=true->q=p
def pts (d:Yaz):List Nat:=d.shown.cps.toList
def Cut (A:Yaz->Prop):Prop:=∀x y,A x->A y->∀r r':List Nat,pts x++r=pts y++r'->x=y/\r=r'
theorem Fw:∀c<127,sgn c=true->Unicode.isPrintable c=true/\c≠10/\c≠13/\c≠9:=by decide +kernel
theorem kU {c:Nat} (h:sgn c=true):reprChar q c=if c=q\/c=92 then[92,c]else[c]:=by
 obtain⟨h1,h2,h3,h4⟩:=Fw c (by simp only[sgn,Yd,decide_eq_true_eq]at h;lia) h;unfold reprChar;lia
theorem AR (q:Nat):∀(l:List Nat) (acc:Array Nat),(l.foldl (λout c=>out++(reprChar q c).toArray) acc).toList=acc.toList++l.flatMap (reprChar q)
 | [],acc=>by simp
 | c::l,acc=>by
  rw[List.foldl_cons,AR q l,Yr];simp
theorem qT (x:Str):pts (.str x)=reprQuote x::(x.cps.toList.flatMap (reprChar (reprQuote x))++[reprQuote x]):=by
 unfold pts;rw[PyData.shown_str];unfold reprText;rw[ZJ,<-Array.foldl_toList,AR];simp
theorem Eh {q:Nat} (b:q≠92):∀(xs ys:List Nat),(∀c∈xs,sgn c=true)->(∀c∈ys,sgn c=true)->∀r r':List Nat,xs.flatMap (reprChar q)++q::r=ys.flatMap (reprChar q)++q::r'->xs=ys/\r=r'
 | [],[],_,_,r,r',h=>by simpa using h
 | [],y::ys,_,hy,r,r',h=>by
  rw[Yr,kU (hy y (XC ..))]at h
  grind
 | x::xs,[],hx,_,r,r',h=>by
  rw[Yr,kU (hx x (XC ..))]at h
  grind
 | x::xs,y::ys,hx,hy,r,r',h=>by
  rw[Yr,Yr,kU (hx x (XC ..)),kU (hy y (XC ..))]at h;have d:=Eh b xs ys (λc a=>hx c (XF _ a)) (λc a=>hy c (XF _ a)) r r'
  grind
def Sgs (x:Str):Prop:=∀c∈x.cps.toList,sgn c=true
theorem Ll (x:Str):reprQuote x≠92:=by
 grind [reprQuote]
theorem cut_str:Cut λd=>∃x,d = .str x/\Sgs x:=by
 rintro _ _ ⟨x,rfl,e⟩ ⟨y,rfl,b⟩ r _ h;rw[qT,qT]at h;simp only[YB,Yn,Za,Yag]at h;obtain⟨c,a⟩:=h;rw[<-c]at a;obtain⟨_,_⟩:=Eh (Ll x) _ _ e b _ _ a
 grind [k4]
theorem iO (a b:Str):pts (.tuple [.str a,.str b])=40::(pts (.str a)++44::32::(pts (.str b)++[41])):=by
 have e:(("(" : Str)).cps.toList=[40]:=by decide +kernel
 have f:(((if ([PyData.str a,PyData.str b].length == 1)=true then ",)" else ")" : String)):Str).cps.toList=[41]:=by
  rfl
 have c:((", " : Str)).cps.toList=[44,32]:=by decide +kernel
 have d:∀x y:Str,Ya9 ", " [x,y]=x ++ ", " ++ y:=λ_ _=>rfl;unfold pts;rw[PyData.shown_tuple,Yaj,Yaj,PyData.shownAll_nil,d];simp only[Str.cps_append,Yx,e,f,c,Yn,YB,Za]
theorem L3:Cut λd=>∃a b,d = .tuple [.str a,.str b]/\Sgs a/\Sgs b:=by
 rintro _ _ ⟨a,b,rfl,i,j⟩ ⟨k,g,rfl,c,e⟩ r _ h;rw[iO,iO]at h;simp only[YB,Yn,Za,Yag,true_and]at h;obtain⟨_,f⟩:=cut_str _ _ ⟨a,rfl,i⟩ ⟨k,rfl,c⟩ _ _ h;simp only[Yag,true_and]at f;obtain⟨_,_⟩:=cut_str _ _ ⟨b,rfl,j⟩ ⟨g,rfl,e⟩ _ _ f;lia
def jn:List (List Nat)->List Nat
 | []=>[]
 | [t]=>t
 | t::u::r=>t++44::32::jn (u::r)
theorem yH:∀xs:Qqy,(Ya9 ", " (PyData.shownAll xs)).cps.toList=jn (xs.map pts)
 | []=>by rfl
 | [x]=>by rfl
 | x::y::r=>by
  have b:((", " : Str)).cps.toList=[44,32]:=by decide +kernel
  have a:=yH (y::r);rw[Yaj]at a;rw[Yaj,Yaj];have e:Ya9 ", " (x.shown::y.shown::PyData.shownAll r)=x.shown ++ ", " ++ Ya9 ", " (y.shown::PyData.shownAll r):=rfl;rw[e];simp only[Str.cps_append,Yx,b,Yn,a];rfl
theorem mz (xs:Qqy):pts (.list xs)=91::(jn (xs.map pts)++[93]):=by
 have a:(("[" : Str)).cps.toList=[91]:=by decide +kernel
 have b:(("]" : Str)).cps.toList=[93]:=by decide +kernel
 grind [pts,PyData.shown_list,Str.cps_append,Yx,yH,Yn,YB,Za]
def PP (A:Yaz->Prop):Prop:=∀x,A x->∃c t,pts x=c::t/\c≠93
theorem El {a:List Nat}{c:Nat}{t:List Nat} (h:a=c::t):∀l:List (List Nat),∃t',jn (a::l)=c::t'
 | []=>⟨t,h⟩
 | u::l=>⟨t++44::32::jn (u::l),by rw[h];rfl⟩
theorem JL {A:Yaz->Prop} (b:Cut A) (f:PP A):∀xs ys:Qqy,(∀x∈xs,A x)->(∀y∈ys,A y)->∀r r':List Nat,jn (xs.map pts)++93::r=jn (ys.map pts)++93::r'->xs=ys/\r=r'
 | [],[],_,_,r,r',h=>by simpa[jn]using h
 | [],y::ys,_,hy,r,r',h=>by
  obtain⟨c,t,e,n⟩:=f y (hy y (XC ..));obtain⟨i,g⟩:=El e (ys.map pts)
  grind [XS,jn,absurd]
 | x::xs,[],hx,_,r,r',h=>by
  obtain⟨c,t,e,n⟩:=f x (hx x (XC ..));obtain⟨i,g⟩:=El e (xs.map pts)
  grind [XS,jn,absurd]
 | [x],[y],hx,hy,r,r',h=>by
  obtain⟨j,a⟩:=b x y (hx x (XC ..)) (hy y (XC ..)) _ _ h;lia
 | [x],y::y2::ys,hx,hy,r,r',h=>by
  have h:pts x++93::r=(pts y++44::32::jn ((y2::ys).map pts))++93::r':=h;rw[Yn]at h;obtain⟨_,a⟩:=b x y (hx x (XC ..)) (hy y (XC ..)) _ _ h;simp at a
 | x::x2::xs,[y],hx,hy,r,r',h=>by
  have h:(pts x++44::32::jn ((x2::xs).map pts))++93::r=pts y++93::r':=h;rw[Yn]at h;obtain⟨_,a⟩:=b x y (hx x (XC ..)) (hy y (XC ..)) _ _ h;simp at a
 | x::x2::xs,y::y2::ys,hx,hy,r,r',h=>by
  have h:(pts x++44::32::jn ((x2::xs).map pts))++93::r=(pts y++44::32::jn ((y2::ys).map pts))++93::r':=h;rw[Yn,Yn]at h;obtain⟨j,a⟩:=b x y (hx x (XC ..)) (hy y (XC ..)) _ _ h;simp only[YB,Yag,true_and]at a;obtain⟨_,_⟩:=JL b f (x2::xs) (y2::ys) (λz d=>hx z (XF _ d)) (λz d=>hy z (XF _ d)) r r' a;lia
def Oj (A:Yaz->Prop) (d:Yaz):Prop:=∃xs,d = .list xs/\∀x∈xs,A x
theorem Jx {A:Yaz->Prop} (hc:Cut A) (ho:PP A):Cut (Oj A):=by
 rintro _ _ ⟨xs,rfl,hx⟩ ⟨ys,rfl,hy⟩ r r' h;rw[mz,mz]at h;simp only[YB,Yn,Za,Yag,true_and]at h
 grind [JL]
def Part (d:Yaz):Prop:=∃p,PtW p/\d=Pt.dat p
theorem xZ {w:Str} (h:dh w=true):Sgs w:=by
 unfold dh dY at h;rw[Yd]at h;exactλc hc=>Ye.mp h.2 c hc
theorem eH:Sgs "word" /\ Sgs "hole" /\ Sgs "number" /\ Sgs "name" /\ Sgs "any" :=by
 refine⟨?_,?_,?_,?_,?_⟩ <;> exact xZ (by decide +kernel)
theorem Part.pair {d:Yaz} (h:Part d):∃a b,d = .tuple [.str a,.str b]/\Sgs a/\Sgs b:=by
 obtain⟨p,c,rfl⟩:=h;cases p with
 | word w=>exact⟨_,_,rfl,eH.1,xZ c.1⟩
 | hole k=>
  refine⟨_,_,rfl,eH.2.1,?_⟩
  match k with
  | 0=>exact eH.2.2.1
  | 1=>exact eH.2.2.2.1
  | k+2=>exact eH.2.2.2.2
theorem IS:Cut Part:=λx y hx hy r r' h=>L3 x y hx.pair hy.pair r r' h
theorem Ht:PP Part:=by
 intro x hx;obtain⟨a,b,rfl,_⟩:=hx.pair
 grind [iO]
def v3 (pss:Qqr):Yaz:=.list (pss.map aD)
theorem vK {ps:Qqs} (h:PW ps):Oj Part (aD ps):=⟨_,rfl,λx hx=>by obtain⟨p,hp,rfl⟩:=XE.mp hx;exact⟨p,h p hp,rfl⟩⟩
theorem Ae:∀{pss qss:Qqr},(∀ps∈pss,PW ps)->(∀qs∈qss,PW qs)->pss.map aD=qss.map aD->pss=qss
 | [],[],_,_,_=>rfl
 | [],_::_,_,_,h=>by simp at h
 | _::_,[],_,_,h=>by simp at h
 | ps::pss,qs::qss,hp,hq,h=>by
  rw[XS,XS,Yag]at h;rw[rM (λp m=>(hp ps (XC ..) p m).ok) (λp m=>(hq qs (XC ..) p m).ok) (PyData.list.inj h.1),
   Ae (λx a=>hp x (XF _ a)) (λx a=>hq x (XF _ a)) h.2]
def kyD (n:Nat) (one other:Qqr):Yaz:=.list [.int n,v3 one,v3 other]
def Uc (n:Nat):List Nat:=((toString (n:Int):String):Str).cps.toList
theorem NG (n:Nat):pts (.int n)=Uc n:=by
 rfl
structure WL (P Q:Qqr) (l:Qqv):Prop where
 wd:∀x∈l,dh x=true/\Bd x
 up:l.Pairwise λa b=>wlt b a=false
 all:∀y,dh y=true->∃x∈l,wlt y x=false/\kW P x=kW P y/\kW Q x=kW Q y
def dr (n:Nat) (P:Qqr):Qqr:=P.map (List.drop n)
def at_ (n:Nat) (w:Str) (P:Qqr):Qqr:=P.filter λps=>(ps.getD n (.hole 2)).takes w
def ng (c:Nat):Str:=⟨#[45,c]⟩
theorem OK {c:Nat} (h:sgn c=true):c<127:=by simp only[sgn,Yd,decide_eq_true_eq]at h;lia
theorem Ei {q:Nat}:∀{l:List Nat},(∀c∈l,sgn c=true)->(l.flatMap (reprChar q)).length<=2 * l.length
 | [],_=>by simp
 | c::l,h=>by
  have b:=Ei (q:=q) (l:=l) λd a=>h d (XF _ a)
  grind [Yr,XI,XX,kU,XC]
theorem eV (h:Sgs x):(pts (.str x)).length<=2 * x.length+2:=by
 rw[qT,XX,XI,XZ];have:=Ei (q:=reprQuote x) h
 grind [Str.length]
theorem JN {p:Pt} (h:PtW p):(pts p.dat).length<=1100:=by
 cases p with
 | word w=>
  show(pts (.tuple [.str "word",.str w])).length<=1100;rw[iO];have a:=eV eH.1;have c:("word" : Str).length=4:=by decide +kernel
  have b:=eV (xZ h.1);have d:=h.2.1
  grind
 | hole k=>
  show(pts (.tuple [.str "hole",.str (cA k)])).length<=1100;rw[iO];have a:=eV eH.2.1;have c:("hole" : Str).length=4:=by decide +kernel
  have b:(pts (.str (cA k))).length<=20:=by
   match k with
   | 0=>have:=eV eH.2.2.1;have e:("number" : Str).length=6:=(by decide +kernel);show(pts (.str "number")).length<=20;lia
   | 1=>have:=eV eH.2.2.2.1;have e:("name" : Str).length=4:=(by decide +kernel);show(pts (.str "name")).length<=20;lia
   | k+2=>have:=eV eH.2.2.2.2;have e:("any" : Str).length=3:=(by decide +kernel);show(pts (.str "any")).length<=20;lia
  grind
theorem JB {B:Nat}:∀{l:List (List Nat)},(∀t∈l,t.length<=B)->(jn l).length<=l.length * (B+2)
 | [],_=>by simp[jn]
 | [t],h=>by
  have:=h t (XC ..);show t.length<=1 * (B+2);lia
 | t::u::r,h=>by
  have b:=JB (l:=u::r) λx a=>h x (XF _ a)
  grind [XC,jn,XI,XX,Nat.succ_mul]
theorem yD {B:Nat}{xs:Qqy} (h:∀x∈xs,(pts x).length<=B):(pts (.list xs)).length<=xs.length * (B+2)+2:=by
 rw[mz,XX,XI,XZ];have:=JB (B:=B) (l:=xs.map pts) λt ht=>by grind
 simp_all
theorem xP {ps:Qqs} (h:PW ps) (c:ps.length<=12):(pts (aD ps)).length<=13226:=by
 have:=yD (B:=1100) (xs:=ps.map Pt.dat) λx b=>by obtain⟨p,a,rfl⟩:=XE.mp b;exact JN (h p a)
 rw[XA]at this;exact XG this (by lia)
theorem vg (pss:Qqr):(v3 pss).showable=true/\(v3 pss).hasDict=false:=by
 have e:∀p:Pt,p.dat.showable=true/\p.dat.hasDict=false:=λp=>by cases p <;> exact⟨rfl,rfl⟩
 have b:∀l:Qqy,(∀d∈l,d.showable=true/\d.hasDict=false)->Yar l=true/\PyData.hasDictAll l=false:=by
  intro l
  induction l with
  | nil=>intro _;exact⟨by simp only[Yar],by rfl⟩
  | cons d l _=>
   grind [XF,XC,Yar,Bool.and_self,PyData.hasDictAll,Bool.or_self]
 have f:∀a:Qqs,(aD a).showable=true/\(aD a).hasDict=false:=λa=>by
  have:=b (a.map Pt.dat) λd c=>by grind
  assumption
 have:=b (pss.map aD) λd c=>by grind
 assumption
def ky (n:Nat) (P Q:Qqr):Key:=.inr (gB (kyD n P Q))
structure Base (m:Nat) (P0 Q0:Qqr):Prop where
 m12:m<=12
 p:∀ps∈P0,PW ps/\ps.length=m
 q:∀ps∈Q0,PW ps/\ps.length=m
 lp:P0.length<=7
 lq:Q0.length<=8
structure KnK (P0 Q0:Qqr) (kvs:List (Key×V)):Prop where
 nd:(kvs.map (·.1)).Nodup
 of:∀k∈kvs.map (·.1),∃n P Q,n<13/\P.Sublist P0/\Q.Sublist Q0/\k=ky n P Q
end
def ptV:Pt->Qqt
 | .word w=>[.str "word",.str w]
 | .hole k=>[.str "hole",.str (cA k)]
def QE (H:Hp) (v:V) (p:Pt):Prop:=∃t,v = .ref t/\H t=some (.tup (ptV p))
def NL (o:HO):Prop:=∀xs,o ≠ .lst xs
def tO (H:Hp):Hp:=λa=>match H a with
 | some (.lst _)=>none
 | o=>o
theorem Ep {o:HO} (h:tO H a=some o):NL o/\H a=some o:=by
 unfold tO at h
 split at h
 ·cases h
 ·rename_i n;exact⟨λxs e=>n xs (by rw[h,e]),h⟩
theorem HR {o:HO} (h:H a=some o) (n:NL o):tO H a=some o:=by
 unfold tO
 split
 ·rename_i xs e;rw[h]at e;cases e;exact(n xs rfl).elim
 ·exact h
theorem EJ (k:∀a o,NL o->H a=some o->H' a=some o):ab (tO H) (tO H'):=λa o h=>by
 obtain⟨n,e⟩:=Ep h;exact HR (k a o n e) n
theorem Hw:NL (.tup xs):=λys e=>by cases e
inductive PL (K:Vzz) (H:Hp):Qqx->Qqr->Prop
 | nil:PL K H [] []
 | cons {a:Yau}{ys:Qqt}{as:Qqx}{ps:Qqs}{pss:Qqr} (h1:H a=some (.lst ys)) (h2:ay K (tO H) ys (ps.map Pt.dat)) (h3:a∉as) (t:PL K H as pss):PL K H (a::as) (ps::pss)
theorem QE.den {p:Pt} (h:QE H v p) (a:PtW p):Den K (tO H) v p.dat:=by
 obtain⟨t,rfl,h⟩:=h;cases p with
 | word w=>exact .tup (.of (HR h Hw)) (.cons (.str (by decide +kernel)) (.cons (.str a.2.2) .nil))
 | hole k=>exact .tup (.of (HR h Hw)) (.cons (.str (by decide +kernel)) (.cons (.str sJ) .nil))
theorem RD (s:ab H H'):ab (tO H) (tO H'):=EJ λa o _ h=>s a _ h
theorem Pb (h:H a=some (.lst xs)):ab (tO H) (tO (upd H a (.lst ys))):=EJ λc o n hc=>by
 have:c≠a:=λz=>by rw[z,h]at hc;cases hc;exact n _ rfl
 rwa [ao this]
theorem Kr {ps:Qqs} (c:∀w∈ws,WOk w) (h:Ak ws ps):PW ps:=λp d=>by
 obtain⟨i,b⟩:=YW d;have f:=ba b;obtain⟨w,e⟩:=at_of (l:=ws) (i:=i) (by rwa [<-h.1]);have a:=c w (XB e);rcases h.2 i w p e b with rfl | ⟨rfl,_⟩ | rfl
 ·exact⟨a.word,XG a.len (by decide),a.ok⟩
 ·show eF w.cps.toList<3;lia
 ·exact(by decide:2<3)
def bQ {α:Type} (st:List (Key×List α)) (k:Key) (x:α):List (Key×List α):=
 if (st.any λp=>decide (p.1=k))=true then st.map (λp=>if p.1=k then(p.1,p.2++[x])else p)else st++[(k,[x])]
def cC {α:Type} (l:List (Key×α)):List (Key×List α):=l.foldl (λst p=>bQ st p.1 p.2) []
def grp {α:Type} (ks:List Key) (xs:List α):List (List α):=(cC (ks.zip xs)).map (·.2)
theorem zV {l:List (Key×α)}{p:Key×α} (h:l[i]? = some p):cC (l.take (i+1))=bQ (cC (l.take i)) p.1 p.2:=by
 grind [cC,XW,List.foldl_append]
inductive fO {α β:Type} (R:α->β->Prop):List α->List β->Prop
 | nil:fO R [] []
 | cons {a:α}{b:β}{l:List α}{m:List β} (h:R a b) (t:fO R l m):fO R (a::l) (b::m)
theorem fO.len {R:α->β->Prop}{l:List α}{m:List β} (h:fO R l m):l.length=m.length:=by
 induction h with
 | nil=>rfl
 | cons _ _ ih=>rw[XX,XX,ih]
theorem fO.mono {R S:α->β->Prop} (f:∀a b,R a b->S a b) {l:List α}{m:List β} (h:fO R l m):fO S l m:=by
 induction h with
 | nil=>exact .nil
 | cons h _ ih=>exact .cons (f _ _ h) ih
theorem fO.snoc {R:α->β->Prop}{l:List α}{m:List β}{a:α}{b:β} (h:fO R l m) (r:R a b):fO R (l++[a]) (m++[b]):=by
 induction h with
 | nil=>exact .cons r .nil
 | cons h _ ih=>exact .cons h ih
theorem fO.at {R:α->β->Prop}{l:List α}{m:List β} (h:fO R l m):∀{i:Nat}{a:α},l[i]? = some a->∃b,m[i]? = some b/\R a b:=by
 induction h with
 | nil=>intro i a e;cases e
 | cons h _ _=>
  grind
def KZ {α β:Type} (R:α->β->Prop) (p:Key×List α) (q:Key×List β):Prop:=p.1=q.1/\fO R p.2 q.2
theorem Me {R:α->β->Prop}{st:List (Key×List α)}{tt:List (Key×List β)}{k:Key}{x:α}{y:β} (h:fO (KZ R) st tt) (r:R x y):fO (KZ R) (bQ st k x) (bQ tt k y):=by
 have d:(st.any λp=>decide (p.1=k))=(tt.any λp=>decide (p.1=k)):=by
  induction h with
  | nil=>rfl
  | cons h _ c=>rw[Yy,Yy,c,h.1]
 unfold bQ;rw[d]
 split
 ·rename_i hh;clear d hh
  induction h with
  | nil=>exact .nil
  | @cons a b l m h _ c=>
   refine .cons ?_ c;show KZ R (if a.1=k then(a.1,a.2++[x])else a) (if b.1=k then(b.1,b.2++[y])else b);rw[h.1]
   split
   ·exact⟨rfl,h.2.snoc r⟩
   ·exact h
 ·exact h.snoc ⟨rfl,.cons r .nil⟩
theorem DZ {R:α->β->Prop}{xs:List α}{ys:List β} (h:fO R xs ys) (ks:List Key):fO (fO R) (grp ks xs) (grp ks ys):=by
 have e:∀(ks:List Key) {xs:List α}{ys:List β}{st:List (Key×List α)}{tt:List (Key×List β)},fO R xs ys->fO (KZ R) st tt->fO (KZ R) ((ks.zip xs).foldl (λst p=>bQ st p.1 p.2) st) ((ks.zip ys).foldl (λst p=>bQ st p.1 p.2) tt):=λks=>by
  induction ks with
  | nil=>intro xs ys st tt _ h;simpa using h
  | cons k ks c=>
   intro xs ys st tt f d;cases f with
   | nil=>simpa using d
   | cons r t=>exact c t (Me d r)
 have z:=e ks h (st:=[]) (tt:=[]) .nil;unfold grp cC;generalize(ks.zip xs).foldl (λst p=>bQ st p.1 p.2) []=a at z;generalize(ks.zip ys).foldl (λst p=>bQ st p.1 p.2) []=b at z
 induction z with
 | nil=>exact .nil
 | cons h _ c=>exact .cons h.2 c
inductive GL (H0 H:Hp) (D:Yau):Qqx->List (Key×V)->List (Key×Qqt)->Prop
 | nil:GL H0 H D [] [] []
 | cons {a:Yau}{k:Key}{g:Qqt}{as:Qqx}{kvs:List (Key×V)}{st:List (Key×Qqt)} (h:H a=some (.lst g)) (hn:H0 a=none) (hD:a≠D) (ha:a∉as) (hk:k∉kvs.map (·.1)) (hs:st.map (·.1)=kvs.map (·.1)) (t:GL H0 H D as kvs st):GL H0 H D (a::as) ((k,.ref a)::kvs) ((k,g)::st)
theorem GL.keys {b:Qqx} (h:GL H0 H D b kvs st):st.map (·.1)=kvs.map (·.1):=by
 cases h with
 | nil=>rfl
 | cons _ _ _ _ _ a _=>simp[a]
theorem GL.vals {a:Qqx} (h:GL H0 H D a kvs st):kvs.map (·.2)=a.map V.ref:=by
 induction h with
 | nil=>rfl
 | cons _ _ _ _ _ _ _ b=>simp[b]
theorem GL.lists {b:Qqx} (h:GL H0 H D b kvs st):fO (λa g=>H a=some (.lst g)) b (st.map (·.2)):=by
 induction h with
 | nil=>exact .nil
 | cons h _ _ _ _ _ _ c=>exact .cons h c
theorem GL.mem {b:Qqx} (h:GL H0 H D b kvs st):∀a∈b,(∃g,H a=some (.lst g))/\H0 a=none/\a≠D:=by
 induction h with
 | nil=>intro a c;cases c
 | cons h _ _ _ _ _ _ _=>
  simp_all
theorem GL.keep {b:Qqx} (h:GL H0 H D b kvs st) (k:∀a∈b,H' a=H a):GL H0 H' D b kvs st:=by
 induction h with
 | nil=>exact .nil
 | cons h d e c i f t g=>exact .cons ((k _ (.head _)).trans h) d e c i f (g λa z=>k a (.tail _ z))
theorem GL.snoc {k:Key}{g:Qqt}{b:Qqx} (h:GL H0 H D b kvs st) (hL:H L=some (.lst g)) (e:H0 L=none) (f:L≠D) (c:L∉b) (d:k∉kvs.map (·.1)) :
  GL H0 H D (b++[L]) (kvs++[(k,.ref L)]) (st++[(k,g)]):=by
 induction h with
 | nil=>exact .cons hL e f (by simp) (by simp) rfl .nil
 | @cons a k' g' b kvs st h hn' hD' ha' hk' hs t ih=>
  rw[XQ,not_or]at c;simp only[XS,XQ,not_or]at d;refine .cons h hn' hD' ?_ ?_ (by simp[hs]) (ih c.2 d.2)
  ·show a∉b++[L]
   grind
  ·show k'∉(kvs++[(k,V.ref L)]).map (·.1)
   grind
theorem LS {k:Key} (h:eu kvs k=none):k∉kvs.map (·.1)/\(kvs.any λkv=>decide (kv.1=k))=false:=by
 induction kvs with
 | nil=>exact⟨by simp,rfl⟩
 | cons p r _=>
  grind [cW,eu,Yz,decide_eq_false,Yy]
theorem any_keys {st:List (Key×α)}{kvs:List (Key×β)} (h:st.map (·.1)=kvs.map (·.1)) (k:Key):(st.any λp=>decide (p.1=k))=(kvs.any λp=>decide (p.1=k)):=by
 have a:∀{γ:Type} (l:List (Key×γ)),(l.any λp=>decide (p.1=k))=(l.map (·.1)).any λx=>decide (x=k):=λl=>by
  rw[List.any_map];rfl
 rw[a,a,h]
theorem GL.grow {c:Qqx}{k:Key}{x:V} (h:GL H0 H D c kvs st):eu kvs k=some v->∃a g,v = .ref a/\a∈c/\H a=some (.lst g)/\g∈st.map (·.2)/\GL H0 (upd H a (.lst (g++[x]))) D c kvs (bQ st k x):=by
 have l:∀{c kvs st},GL H0 H D c kvs st->eu kvs k=some v->∃a g,v = .ref a/\a∈c/\H a=some (.lst g)/\g∈st.map (·.2)/\(st.any λp=>decide (p.1=k))=true/\GL H0 (upd H a (.lst (g++[x]))) D c kvs (st.map λp=>if p.1=k then(p.1,p.2++[x])else p):=λ{c kvs st} h=>by
  induction h with
  | nil=>intro e;cases e
  | @cons a k' g c kvs st h hn hD ha hk hs t ih=>
   intro e;by_cases d:k' = k
   ·rw[cW d]at e;cases e;refine⟨a,g,rfl,.head _,h,by simp,by rw[Yy,Yb4 d];rfl,?_⟩;have s:(st.map λp=>if p.1=k then(p.1,p.2++[x])else p)=st:=by
     exact(X8 (λp _=>Yb8 λz=>hk (by grind))).trans (List.map_id' st)
    rw[XS,Yb7 d,s];exact .cons aa hn hD ha hk hs (t.keep λb w=>ao λ(z:b=a)=>ha (z ▸ w))
   ·have u:eu kvs k=some v:=by
     unfold eu at e ⊢
     rwa [Yz,Yb5 d]at e
    obtain⟨b,r,j,f,n,i,o,q⟩:=ih u;refine⟨b,r,j,.tail _ f,n,XF _ i,by rw[Yy,o,Bool.or_true],?_⟩;rw[XS,Yb8 d];have m:a≠b:=λz=>ha (z ▸ f);refine .cons (by rwa [ao m]) hn hD ha hk ?_ q;rw[Yg,<-hs];exact X8 λp _=>by show(if p.1=k then(p.1,p.2++[x])else p).1=p.1;split <;> rfl
 intro e;obtain⟨a,g,j,f,n,i,o,q⟩:=l h e;refine⟨a,g,j,f,n,i,?_⟩;unfold bQ
 rwa [Yb7 o]
theorem GL.more {a:Qqx}{k:Key}{x:V} (h:GL H0 H D a kvs st) (e:eu kvs k=none) (hL:H L=some (.lst [x])) (d:H0 L=none) (g:L≠D) (c:L∉a) :
  putK kvs k (.ref L)=kvs++[(k,.ref L)]/\GL H0 H D (a++[L]) (kvs++[(k,.ref L)]) (bQ st k x):=by
 obtain⟨f,b⟩:=LS e;refine⟨by unfold putK;rw[b];rfl,?_⟩;unfold bQ;rw[any_keys h.keys k,b];exact h.snoc hL d g c f
def wsD (ws:Qqv):Yaz:=.list (ws.map PyData.str)
def gD (wss:Qqu):Yaz:=.list (wss.map wsD)
structure GOk (n:Nat) (wss:Qqu):Prop where
 ne:wss≠[]
 le:wss.length<64
 Gk:n<=12
 pos:0<n
 row:∀ws∈wss,ws.length=n/\∀w∈ws,PtW (.word w)
def wAt (wss:Qqu) (p:Nat):Qqv:=wss.map λws=>ws.getD p ZY
def uAt (wss:Qqu) (p:Nat):Qqv:=fg [] (wAt wss p)
def jL (wss:Qqu) (p:Nat) (s l:Int):Bool:=decide (2<=((uAt wss p).length:Int)) && (decide (((uAt wss p).length:Int)<=s) && (uAt wss p).all λw=>decide (l<=((wAt wss p).countP λz=>decide (z=w):Nat)))
theorem mW:∀{ws:Qqv}{ys:Qqt},ay K H ys (ws.map PyData.str)->ys=ws.map V.str
 | [],_,h=>by cases h;rfl
 | w::ws,_,h=>by
  cases h with
  | cons a t=>
   cases a;rw[mW t];rfl
theorem OZ {x:V} (h:Den K H x (wsD ws)):∃r,x = .ref r/\SqL K H r (ws.map V.str):=by
 cases h with
 | lst hq t=>
  rw[mW t]at hq;exact⟨_,rfl,hq⟩
theorem D6 {x:V} (h:Den K H x (gD wss)):∃a xs,x = .ref a/\SqL K H a xs/\ay K H xs (wss.map wsD):=by
 cases h with
 | lst hq t=>exact⟨_,_,rfl,hq,t⟩
theorem qK {x:V} (h:ay K H xs (wss.map wsD)) (hx:xs[i]? = some x):∃ws r,wss[i]? = some ws/\x = .ref r/\SqL K H r (ws.map V.str):=by
 obtain⟨d,a,b⟩:=h.get hx;rw[XM]at a;cases e:wss[i]? with
 | none=>rw[e]at a;cases a
 | some ws=>
  rw[e]at a;cases a;obtain⟨r,rfl,c⟩:=OZ b;exact⟨ws,r,rfl,rfl,c⟩
theorem Jj {p:Nat} (h:wss[i]? = some ws):wAt (wss.take (i+1)) p=wAt (wss.take i) p++[ws.getD p ZY]:=by
 unfold wAt;rw[XW,h];simp
theorem uh (zs:Qqv):(fg [] zs).length<=zs.length:=by
 have:=EM zs [];simpa using this
theorem GOk.O0 (h:GOk n wss) (p:Nat):(wAt wss p).length<64:=by unfold wAt;rw[XA];exact h.le
theorem GOk.RX (h:GOk n wss) (p:Nat):(uAt wss p).length<64:=Y6 (uh _) (h.O0 p)
section
variable {P:Yau}
theorem Bw {ps:Qqw}{o:HO} (h:H P=some (.tbl ps)) (e:H a=some o) (n:∀qs,o ≠ .tbl qs):a≠P:=λz=>by
 rw[z,h]at e;cases e;exact n _ rfl
theorem Iu {ps:Qqw}{o:HO} (h:H P=some (.tbl ps)) (r:Rd H a o) (n:∀qs,o ≠ .tbl qs):Rd (wo P H) a o:=by
 rcases r with r | ⟨b,r⟩
 ·exact .inl (by rwa [aq (Bw h r n)])
 ·exact .inr ⟨b,by rwa [aq (Bw h r λqs e=>by cases e)]⟩
theorem xE {ps:Qqw} (h:H P=some (.tbl ps)) (r:SqL K H a xs):SqL K (wo P H) a xs:=by
 rcases r with r | r
 ·exact .inl (Iu h r λqs e=>by cases e)
 ·exact .inr r
theorem mO {ps:Qqw} (h:H P=some (.tbl ps)) (r:SqT K H a xs):SqT K (wo P H) a xs:=by
 rcases r with r | r
 ·exact .inl (Iu h r λqs e=>by cases e)
 ·exact .inr r
theorem xm {ps:Qqw}{d:Yaz} (h:H P=some (.tbl ps)) (r:Den K H v d):Den K (wo P H) v d:=r.keep (λ_ _ q=>xE h q) λ_ _ q=>mO h q
theorem ke {ps:Qqw}{v:Qqt}{d:Qqy} (h:H P=some (.tbl ps)) (r:ay K H v d):ay K (wo P H) v d:=r.keep (λ_ _ q=>xE h q) λ_ _ q=>mO h q
theorem aN (h:gW P pos qual H):∃ps,H P=some (.tbl ps):=let ⟨ps,e,_⟩:=h;⟨ps,e⟩
theorem av (h:gW P pos qual H) (s:ab H H'):gW P pos qual H':=by
 obtain⟨ps,h1,h2,h3⟩:=h;refine⟨ps,s _ _ h1,h2,h3.imp id λ⟨c,a,b⟩=>⟨c,a,s _ _ b⟩⟩
theorem K8 {c:Yau}{v:Vzy} (h:H2=H1\/∃ps,H1 P=some (.tbl ps)/\H1 c=none/\H2=upd (upd H1 P (.tbl (ps ++ #[u,v,.ref c]))) c (pN c qual)):ab (wo P H1) H2:=by
 rcases h with rfl | ⟨ps,_,a,rfl⟩
 ·exact bc
 ·refine ar ?_ (ar eM bc);by_cases e:c=P
  ·rw[e,eM]
  ·rw[aq e];exact a
theorem yl {o:HO}{ps:Qqw} (s:ab (wo P H) H') (h:H P=some (.tbl ps)) (e:H a=some o) (n:∀qs,o ≠ .tbl qs):H' a=some o:=s _ _ (Xe (Bw h e n) e)
end
def jF (wss:Qqu) (n:Nat) (s l:Int):List Nat:=(Z6 n).filter λp=>jL wss p s l
def plc (wss:Qqu) (n:Nat) (s l:Int):Option Nat:=if jF wss n s l=[]then none else some ((jF wss n s l).getD (cS ((jF wss n s l).map λp=>.int (uAt wss p).length)) 0)
def Wd:Option Nat->V
 | none=>.non
 | some p=>.int p
theorem Hm {s:Int}:jF wss (i+1) s l=jF wss i s l++[i].filter λp=>jL wss p s l:=by
 unfold jF;rw[Zk,Yq]
theorem LB {s:Int}:(jF wss i s l).length<=i:=by
 exact XG (Yt _ _) (by rw[YV];exact XD _)
theorem y3 {p:Nat}{s:Int} (h:p∈jF wss n s l):p<n/\jL wss p s l=true:=by
 obtain⟨h1,h2⟩:=X7.mp h;exact⟨Y0.mp h1,h2⟩
theorem Al (wss:Qqu) (ps:List Nat) (h:ps≠[]):cS (ps.map λp=>PyData.int (uAt wss p).length)<ps.length:=by
 obtain⟨d,b,_⟩:=rB (all:=ps.map λp=>PyData.int (uAt wss p).length) (Sh.ok .int) (λd a=>by
  obtain⟨p,_,rfl⟩:=XE.mp a;exact⟨_,rfl⟩) (λe=>h (YI.mp e))
 have:=ba b
 rwa [XA]at this
theorem yu {p:Nat}{s:Int} (h:plc wss n s l=some p):p<n/\jL wss p s l=true:=by
 unfold plc at h
 split at h
 ·cases h
 ·rename_i hne;have a:=Al wss _ hne;rw[Yl,XJ a]at h;cases h;exact y3 (YH a)
theorem MX (i:Int):(PyData.int i).depth<=100:=XT _
structure GI {α:Type} (l:List (Key×α)) (p:Key×List α):Prop where
 ne:p.2≠[]
 of:∀x∈p.2,(p.1,x)∈l
 le:p.2.length<=l.length
theorem Pg {l:List (Key×α)}{st:List (Key×List α)}{k:Key}{x:α} (h:∀p∈st,GI l p):∀p∈bQ st k x,GI (l++[(k,x)]) p:=λp c=>by
 have d:∀q∈st,GI (l++[(k,x)]) q:=λq a=>⟨(h q a).ne,λy b=>Ys _ ((h q a).of y b),by rw[XI];exact XG (h q a).le (Nat.le_add_right _ _)⟩;unfold bQ at c
 split at c
 ·obtain⟨q,a,rfl⟩:=XE.mp c;by_cases e:q.1=k
  ·rw[Yb7 e];refine⟨by simp,λy b=>?_,?_⟩
   ·rcases XU.mp b with z | z
    ·exact(d q a).of y z
    ·rw[XR.mp z];rw[e];simp
   ·show(q.2++[x]).length<=_;rw[XI,XI,XZ,XZ];exact Nat.succ_le_succ (h q a).le
  ·rw[Yb8 e];exact d q a
 ·rcases XU.mp c with z | z
  ·exact d p z
  ·rw[XR.mp z];refine⟨by simp,λy b=>?_,by simp⟩
   simp_all
theorem vU (l:List (Key×α)):∀p∈cC l,GI l p:=by
 have d:∀(r a:List (Key×α)) (b:List (Key×List α)),(∀p∈b,GI a p)->∀p∈r.foldl (λb p=>bQ b p.1 p.2) b,GI (a++r) p:=λr=>by
  induction r with
  | nil=>intro a b h p c;rw[Ym];exact h p c
  | cons q r e=>
   intro a b h p c;have:=e (a++[q]) (bQ b q.1 q.2) (Pg h) p c
   simp_all
 exact d l [] [] (λp c=>by cases c)
def byW (wss:Qqu) (p:Nat):List Qqu:=grp ((wAt wss p).map Sum.inr) wss
theorem zip_map {α β:Type} (f:α->β):∀l:List α,(l.map f).zip l=l.map λx=>(f x,x)
 | []=>rfl
 | a::l=>by rw[XS,YN,zip_map f l];rfl
theorem oH {p:Nat} (h:g∈byW wss p):g≠[]/\g.length<=wss.length/\(∀ws∈g,ws∈wss)/\∃w:Str,∀ws∈g,ws.getD p ZY=w:=by
 obtain⟨q,d,rfl⟩:=XE.mp h;have f:((wAt wss p).map (Sum.inr:Str->Key)).zip wss=wss.map λws=>(Sum.inr (ws.getD p ZY),ws):=by
  unfold wAt;rw[Yg];exact zip_map _ wss
 rw[f]at d;have b:=vU _ q d;have c:∀ws∈q.2,ws∈wss/\(Sum.inr (ws.getD p ZY):Key)=q.1:=λws a=>by
  obtain⟨v,_,e⟩:=XE.mp (b.of ws a);lia
 refine⟨b.ne,?_,λws a=>(c ws a).1,?_⟩
 ·have:=b.le
  rwa [XA]at this
 ·cases e:q.1 with
  | inl i=>
   simp_all
  | inr w=>
   refine⟨w,λws a=>?_⟩
   simp_all
theorem GOk.sub {p:Nat} (h:GOk n wss) (hg:g∈byW wss p):GOk n g:=by
 obtain⟨h1,h2,h3,_⟩:=oH hg;exact⟨h1,Y6 h2 h.le,h.Gk,h.pos,λws hws=>h.row ws (h3 ws hws)⟩
theorem ij {x:Str}:∀{zs us:Qqv},x∈fg us zs↔x∈us\/x∈zs
 | [],us=>by simp[fg]
 | z::zs,us=>by
  unfold fg;rw[ij]
  grind
theorem gm:∀{zs us:Qqv},us.Nodup->(fg us zs).Nodup
 | [],us,h=>h
 | z::zs,us,h=>by
  unfold fg;refine gm ?_
  grind
def two (wss:Qqu) (p:Nat):Bool:=decide (2<=(uAt wss p).length)
theorem HA {p:Nat} (h:two wss p=true):∃x y,x≠y/\x∈wAt wss p/\y∈wAt wss p:=by
 have b:(uAt wss p).Nodup:=gm (by simp);have a:∀z∈uAt wss p,z∈wAt wss p:=λz c=>(ij.mp c).resolve_left (by simp)
 match e:uAt wss p,(Yb6 h),b,a with
 | x::y::r,_,b,a=>exact⟨x,y,λz=>(YS.mp b).1 (by rw[z];simp),a x (by simp),a y (by simp)⟩
theorem QP {p:Nat} (c:x≠y) (hx:x∈wAt wss p) (d:y∈wAt wss p):two wss p=true:=by
 have b:x∈uAt wss p:=ij.mpr (.inr hx);have a:y∈uAt wss p:=ij.mpr (.inr d);refine Yb4 ?_
 match e:uAt wss p,b,a with
 | [z],b,a=>exact(c ((XR.mp b).trans (XR.mp a).symm)).elim
 | _::_::r,_,_=>simp
def mu (n:Nat) (wss:Qqu):Nat:=(Z6 n).countP (two wss)
theorem Oz (n:Nat) (wss:Qqu):mu n wss<=n:=by
 exact XG List.countP_le_length (by simp)
theorem GW {l:List Nat}{f g:Nat->Bool}{p:Nat} (h:∀q,f q=true->g q=true) (c:p∈l) (h1:f p=false) (h2:g p=true):l.countP f<l.countP g:=by
 induction l with
 | nil=>cases c
 | cons a l _=>
  have b:l.countP f<=l.countP g:=List.countP_mono_left λq _=>h q
  grind
theorem Oq {p:Nat} (r:p<n) (m:two wss p=true) (j:g∈byW wss p):mu n g<mu n wss:=by
 obtain⟨_,_,i,w,_⟩:=oH j;refine GW (p:=p) (λq o=>?_) (Y0.mpr r) ?_ m
 ·obtain⟨x,y,c,f,d⟩:=HA o;have h:∀z∈wAt g q,z∈wAt wss q:=λz l=>by
   obtain⟨k,e,rfl⟩:=XE.mp l;exact List.mem_map_of_mem (i k e)
  exact QP c (h x f) (h y d)
 ·rw[X5];intro z;obtain⟨x,y,c,f,d⟩:=HA z;obtain⟨a,_,rfl⟩:=XE.mp f;obtain⟨b,_,rfl⟩:=XE.mp d
  simp_all
theorem wW {p:Nat}{s:Int} (h:jL wss p s l=true):two wss p=true:=by
 have:=Yb6 (YX.mp h).1;exact Yb4 (by lia)
def prt (n:Nat) (s l:Int):Nat->Qqu->List Qqu
 | 0,g=>[g]
 | N+1,g=>match plc g n s l with
  | none=>[g]
  | some p=>(byW g p).flatMap (prt n s l N)
theorem i5 {n:Nat}{s l:Int}:∀{N:Nat}{wss:Qqu},GOk n wss->∀g∈prt n s l N wss,GOk n g
 | 0,wss,h,g,hg=>by rwa [XR.mp hg]
 | N+1,wss,h,g,hg=>by
  unfold prt at hg
  split at hg
  ·simp_all
  ·rename_i p _;obtain⟨_,a,b⟩:=YA.mp hg;exact i5 (h.sub a) g b
theorem vJ:ay K H xs (wss.map wsD)->fO (λx ws=>Den K H x (wsD ws)) xs wss:=by
 induction wss generalizing xs with
 | nil=>intro h;cases h;exact .nil
 | cons ws wss b=>
  intro h;cases h with
  | cons a t=>exact .cons a (b t)
theorem wH (h:fO (λx ws=>Den K H x (wsD ws)) xs wss):ay K H xs (wss.map wsD):=by
 induction h with
 | nil=>exact .nil
 | cons h _ ih=>exact .cons h ih
def tot {α:Type} (st:List (Key×List α)):Nat:=(st.map λp=>p.2.length).sum
theorem Fe {st:List (Key×List α)}{k:Key}{x:α} (h:(st.map (·.1)).Nodup):((bQ st k x).map (·.1)).Nodup/\tot (bQ st k x)=tot st+1:=by
 unfold bQ
 split
 ·rename_i ha;have e:(st.map λp=>if p.1=k then(p.1,p.2++[x])else p).map (·.1)=st.map (·.1):=by
   grind [Yg,X8]
  refine⟨by rwa [e],?_⟩;have d:∀l:List (Key×List α),(l.map (·.1)).Nodup->(l.any λp=>decide (p.1=k))=true->tot (l.map λp=>if p.1=k then(p.1,p.2++[x])else p)=tot l+1:=λl=>by
   induction l with
   | nil=>intro _ h;cases h
   | cons a l i=>
    intro g ha;have b:=YS.mp g;by_cases e:a.1=k
    ·have f:(l.map λp=>if p.1=k then(p.1,p.2++[x])else p)=l:=by
      have:∀p∈l,(if p.1=k then(p.1,p.2++[x])else p)=p:=λp _=>Yb8 λz=>b.1 (by grind);exact(X8 this).trans (List.map_id' l)
     rw[XS,Yb7 e,f];simp[tot];lia
    ·have c:(l.any λp=>decide (p.1=k))=true:=by
      simp_all
     have:=i b.2 c;rw[XS,Yb8 e];simp only[tot,XS,YC]at this ⊢;lia
  exact d st h ha
 ·rename_i ha;refine⟨?_,by simp[tot]⟩
  grind
theorem tN (l:List (Key×α)):tot (cC l)=l.length:=by
 have b:∀(r:List (Key×α)) (a:List (Key×List α)),(a.map (·.1)).Nodup->tot (r.foldl (λa p=>bQ a p.1 p.2) a)=tot a+r.length:=λr=>by
  induction r with
  | nil=>intro a _;rfl
  | cons q r _=>
   grind [Fe,List.foldl_cons,XX]
 grind [cC,tot]
def g5 {α:Type} (gs:List (List α)):Nat:=(gs.map List.length).sum
theorem A1 (wss:Qqu) (p:Nat):g5 (byW wss p)=wss.length:=by
 have e:g5 (byW wss p)=tot (cC (((wAt wss p).map (Sum.inr:Str->Key)).zip wss)):=by
  unfold g5 byW grp tot;rw[Yg];rfl
 rw[e,(tN (((wAt wss p).map (Sum.inr:Str->Key)).zip wss)),YD,XA];unfold wAt;simp
theorem nu {n:Nat}{s l:Int}:∀{N:Nat}{wss:Qqu},wss≠[]->(prt n s l N wss).length<=wss.length
 | 0,wss,h=>by
  exact ZA.mpr h
 | N+1,wss,h=>by
  unfold prt
  split
  ·show 1<=_
   grind
  ·rename_i p _;have b:∀gs:List Qqu,(∀g∈gs,g≠[])->(gs.flatMap (prt n s l N)).length<=g5 gs:=λgs=>by
    induction gs with
    | nil=>intro _;exact XD _
    | cons g gs _=>
     intro a;rw[Yr,XI];have c:=nu (n:=n) (s:=s) (l:=l) (N:=N) (a g (by simp))
     grind [g5,XS,YC]
   have:=b (byW wss p) λg a=>(oH a).1
   rwa [A1]at this
theorem L7 {s:Int}{N:Nat}{p:Nat} (i:Nat):(((byW wss p).take i).flatMap (prt n s l N)).length<=wss.length:=by
 have a:∀gs:List Qqu,(∀g∈gs,g≠[])->(gs.flatMap (prt n s l N)).length<=g5 gs:=λgs=>by
  induction gs with
  | nil=>intro _;exact XD _
  | cons g gs d=>
   grind [Yr,XI,nu,g5,XS,YC]
 have b:∀(gs:List Qqu) (i:Nat),g5 (gs.take i)<=g5 gs:=λgs=>by
  induction gs with
  | nil=>intro i;simp[g5]
  | cons g gs d=>
   intro i;cases i with
   | zero=>simp[g5]
   | succ i=>
    grind [g5,List.take_succ_cons,XS,YC]
 have e:=a ((byW wss p).take i) λg c=>(oH (YT c)).1
 grind [byW,A1]
def hU (A B:Hp):Hp:=λb=>match A b with
 | some o=>some o
 | none=>B b
section
variable {A:Hp}
theorem Sl:ab A (hU A B):=λb o e=>by unfold hU;rw[e]
theorem VH (a:ab A H) (b:ab B H):ab B (hU A B):=λc o e=>by
 unfold hU;cases q:A c with
 | none=>exact e
 | some o'=>
  have h2:=b c o e
  rwa [(a c o' q)]at h2
theorem Rc (a:ab A H) (b:ab B H):ab (hU A B) H:=λc o e=>by
 unfold hU at e
 split at e
 ·rename_i o' q;cases e;exact a c _ q
 ·exact b c o e
theorem xT {c:Yau} (a:A c=none) (b:B c=none):hU A B c=none:=by grind [hU]
theorem Tq {c:Yau} (h:hU A B c≠none):A c≠none\/B c≠none:=by
 grind [hU]
end
theorem qG {P G:Yau} (h:gW P pos qual H) (f:H G=some (.lst xs)):gW P pos qual (upd H G (.lst ys)):=by
 obtain⟨d,_,g,i⟩:=h;have a:P≠G:=λe=>by lia
 refine⟨d,by rwa [ao a],g,i.imp id λ⟨c,x,y⟩=>⟨c,x,?_⟩⟩;have b:c≠G:=nw y f
 rwa [ao b]
def iC (ws:Qqv):Qqs:=ws.map Pt.word
def byL (rss:Qqu):List Qqu:=grp (rss.map λws=>(Sum.inl (ws.length:Int):Key)) rss
theorem DE (h:g∈byL rss):g≠[]/\g.length<=rss.length/\(∀ws∈g,ws∈rss)/\∃n:Nat,∀ws∈g,ws.length=n:=by
 obtain⟨q,d,rfl⟩:=XE.mp h;rw[zip_map]at d;have b:=vU _ q d;have c:∀ws∈q.2,ws∈rss/\(Sum.inl (ws.length:Int):Key)=q.1:=λws a=>by
  obtain⟨v,_,e⟩:=XE.mp (b.of ws a);lia
 refine⟨b.ne,?_,λws a=>(c ws a).1,?_⟩
 ·have:=b.le
  rwa [XA]at this
 ·obtain⟨f,_⟩:=YQ _ b.ne;refine⟨f.length,λws a=>?_⟩
  grind
theorem KC (rss:Qqu):g5 (byL rss)=rss.length:=by
 have e:g5 (byL rss)=tot (cC ((rss.map λa=>(Sum.inl (a.length:Int):Key)).zip rss)):=by
  unfold g5 byL grp tot;rw[Yg];rfl
 rw[e,(tN ((rss.map λa=>(Sum.inl (a.length:Int):Key)).zip rss)),YD,XA,Zq]
def jv (rss:Qqu):Prop:=rss.length<64/\∀ws∈rss,0<ws.length/\ws.length<=12/\∀w∈ws,PtW (.word w)
def gn (g:Qqu):Nat:=(g.headD []).length
theorem pO (h:jv rss) (j:g∈byL rss):GOk (gn g) g:=by
 obtain⟨f,k,i,n,c⟩:=DE j;obtain⟨b,r,rfl⟩:∃w r,g=w::r:=by
  cases g with
  | nil=>exact(f rfl).elim
  | cons w r=>exact⟨w,r,rfl⟩
 have e:gn (b::r)=n:=c b (by simp);have:=h.2 b (i b (by simp));have l:=c b (by simp);refine⟨f,Y6 k h.1,by lia,by lia,λd a=>⟨by rw[e];exact c d a,(h.2 d (i d a)).2.2⟩⟩
def Dh (s l:Int) (g:Qqu):Qqr:=(prt (gn g) s l 13 g).map λg'=>bA (g'.map iC) (gn g)
def gth (s l:Int) (rss:Qqu):Qqr:=(byL rss).flatMap (Dh s l)
theorem zP (s l:Int) (rss:Qqu) (i:Nat):(((byL rss).take i).flatMap (Dh s l)).length<=rss.length:=by
 have a:∀gs:List Qqu,(∀g∈gs,g≠[])->(gs.flatMap (Dh s l)).length<=g5 gs:=λgs=>by
  induction gs with
  | nil=>intro _;exact XD _
  | cons g gs d=>
   grind [Yr,XI,Dh,XA,nu,g5,XS,YC]
 have b:∀(gs:List Qqu) (i:Nat),g5 (gs.take i)<=g5 gs:=λgs=>by
  induction gs with
  | nil=>intro i;simp[g5]
  | cons g gs d=>
   intro i;cases i with
   | zero=>simp[g5]
   | succ i=>
    grind [g5,List.take_succ_cons,XS,YC]
 have e:=a ((byL rss).take i) λg c=>(DE (YT c)).1
 grind [byL,KC]
theorem Nw {ps:Qqs} (a:ps≠[]) (h:∀p∈ps,PtW p):PtW (ia ps):=by
 cases ps with
 | nil=>exact(a rfl).elim
 | cons p r=>
  have b:=h p (by simp);show PtW (if r.all (λq=>decide (q=p))=true then p else if r.all (λq=>decide (q.around=p.around))=true then .hole p.around else .hole 2)
  split
  ·exact b
  ·split
   ·exact oW b.ok
   ·exact(by decide:2<3)
theorem Cm (h:GOk n g):PW (bA (g.map iC) n)/\bA (g.map iC) n≠[]/\(bA (g.map iC) n).length<=12:=by
 have c:(bA (g.map iC) n).length=n:=by unfold bA;rw[XA,YV]
 refine⟨λp d=>?_,λe=>?_,by rw[c];exact h.Gk⟩
 ·unfold bA at d;obtain⟨i,f,rfl⟩:=XE.mp d;have l:=Y0.mp f;refine Nw (λe=>h.ne (YI.mp (YI.mp e))) λq k=>?_;obtain⟨_,b,rfl⟩:=XE.mp k;obtain⟨ws,a,rfl⟩:=XE.mp b;have o:=h.row ws a;have j:i<ws.length:=by lia
  unfold iC
  simp_all
 ·have:=congrArg List.length e;rw[c]at this;have m:=h.pos;simp at this;lia
theorem MC {s:Int} (h:GOk (gn g) g):mw (Dh s l g):=λps hps=>by
 obtain⟨g',hg',rfl⟩:=XE.mp hps;exact Cm (i5 h g' hg')
theorem Qz {s:Int} (h:jv rss):mw (gth s l rss):=λps hps=>by
 obtain⟨g,hg,hp⟩:=YA.mp hps;exact MC (pO h hg) ps hp
def cx {α:Type} (l:List (Key×α)):List Key:=l.foldl (λks p=>if (ks.any λq=>decide (q=p.1))=true then ks else ks++[p.1]) []
theorem VR {k:Key}:(ks.any λq=>decide (q=k))=true↔k∈ks:=by
 simp
theorem tW {l:List (Key×α)}{p:Key×α} (h:p.1∈cx l):cx (l++[p])=cx l:=by
 have e:cx (l++[p])=if ((cx l).any λq=>decide (q=p.1))=true then cx l else cx l++[p.1]:=by
  unfold cx;simp
 rw[e,Yb7 (VR.mpr h)]
theorem oB {l:List (Key×α)}{p:Key×α} (h:p.1∉cx l):cx (l++[p])=cx l++[p.1]:=by
 have e:cx (l++[p])=if ((cx l).any λq=>decide (q=p.1))=true then cx l else cx l++[p.1]:=by
  unfold cx;simp
 simp_all
theorem snoc_ind {C:List α->Prop} (a:C []) (b:∀l x,C l->C (l++[x])) (l:List α):C l:=by
 have:∀r:List α,C r.reverse:=λr=>by
  induction r with
  | nil=>exact a
  | cons x r c=>rw[List.reverse_cons];exact b _ _ c
 have e:=this l.reverse
 simp_all
theorem pF (l:List (Key×α)):(cx l).Nodup:=by
 refine snoc_ind (C:=λl=>(cx l).Nodup) YZ (λl p d=>?_) l;by_cases c:p.1∈cx l
 ·rw[tW c];exact d
 ·rw[oB c,Zr];refine⟨d,by simp,λa f b g=>?_⟩;rw[XR.mp g];exactλe=>c (e ▸ f)
theorem oK {k:Key} (l:List (Key×α)):k∈cx l↔∃x,(k,x)∈l:=by
 refine snoc_ind (C:=λl=>k∈cx l↔∃x,(k,x)∈l) (by simp[cx]) (λl p _=>?_) l;have e:k∈cx (l++[p])↔k∈cx l\/k=p.1:=by
  grind [cx,tW,id,oB,XU,XR]
 grind
def ofK {α:Type} (l:List (Key×α)) (k:Key):List α:=(l.filter λp=>decide (p.1=k)).map (·.2)
theorem rP (l:List (Key×α)) (p:Key×α) (k:Key):ofK (l++[p]) k=if p.1=k then ofK l k++[p.2]else ofK l k:=by
 unfold ofK
 grind
theorem KW {l:List (Key×α)}{k:Key} (h:k∉cx l):ofK l k=[]:=by
 unfold ofK;rw[YI,Y7];intro p hp e;exact h ((oK l).mpr ⟨p.2,by lia⟩)
theorem Fb (l:List (Key×α)):cC l=(cx l).map λk=>(k,ofK l k):=by
 refine snoc_ind (C:=λl=>cC l=(cx l).map λk=>(k,ofK l k)) rfl (λl p c=>?_) l;have e:cC (l++[p])=bQ (cC l) p.1 p.2:=by
  unfold cC;simp
 rw[e,c];unfold bQ;by_cases h:p.1∈cx l
 ·rw[tW h];have a:(((cx l).map λk=>(k,ofK l k)).any λq=>decide (q.1=p.1))=true:=by
   simp_all
  rw[Yb7 a,Yg];refine X8 λk b=>?_;show(if k=p.1 then(k,ofK l k++[p.2])else(k,ofK l k))=(k,ofK (l++[p]) k);rw[rP];lia
 ·rw[oB h];have a:¬ (((cx l).map λk=>(k,ofK l k)).any λq=>decide (q.1=p.1))=true:=by
   simp_all
  rw[Yb8 a,XH]
  congr 1
  ·refine X8 λk b=>?_;rw[rP,Yb8 (λe:p.1=k=>h (e ▸ b))]
  ·show[(p.1,[p.2])]=[(p.1,ofK (l++[p]) p.1)];rw[rP,Yb7 rfl,KW h];rfl
theorem EL (f:α->Key) (xs:List α):grp (xs.map f) xs=(cx (xs.map λx=>(f x,x))).map λk=>xs.filter λx=>decide (f x=k):=by
 unfold grp;rw[zip_map,Fb,Yg];refine X8 λk _=>?_;show ofK (xs.map λx=>(f x,x)) k=_;unfold ofK;rw[List.filter_map,Yg];simp[Function.comp_def]
theorem JF (wss:Qqu) (p:Nat):∃ks:List Key,ks.Nodup/\(∀k,k∈ks↔∃ws∈wss,(Sum.inr (ws.getD p ZY):Key)=k)/\byW wss p=ks.map λk=>wss.filter λws=>decide ((Sum.inr (ws.getD p ZY):Key)=k):=by
 refine⟨_,pF (wss.map λws=>((Sum.inr (ws.getD p ZY):Key),ws)),λk=>?_,?_⟩
 ·rw[oK];simp
 ·unfold byW wAt;rw[Yg];exact EL (λws:Qqv=>(Sum.inr (ws.getD p ZY):Key)) wss
theorem K6 (rss:Qqu):∃ks:List Key,ks.Nodup/\(∀k,k∈ks↔∃ws∈rss,(Sum.inl (ws.length:Int):Key)=k)/\byL rss=ks.map λk=>rss.filter λws=>decide ((Sum.inl (ws.length:Int):Key)=k):=by
 refine⟨_,pF (rss.map λws=>((Sum.inl (ws.length:Int):Key),ws)),λk=>?_,?_⟩
 ·rw[oK];simp
 ·exact EL (λws:Qqv=>(Sum.inl (ws.length:Int):Key)) rss
theorem Eg {p:Nat}:(∃g∈byW wss p,ws∈g)↔ws∈wss:=by
 obtain⟨_,_,a,e⟩:=JF wss p;rw[e];constructor
 ·simp_all
 ·intro h;exact⟨_,XE.mpr ⟨_,(a _).mpr ⟨ws,h,rfl⟩,rfl⟩,X7.mpr ⟨h,Yb4 rfl⟩⟩
theorem NK:(∃g∈byL rss,ws∈g)↔ws∈rss:=by
 obtain⟨_,_,a,e⟩:=K6 rss;rw[e];constructor
 ·simp_all
 ·intro h;exact⟨_,XE.mpr ⟨_,(a _).mpr ⟨ws,h,rfl⟩,rfl⟩,X7.mpr ⟨h,Yb4 rfl⟩⟩
theorem kI {n:Nat}{s l:Int}:∀{N:Nat}{wss:Qqu}{ws:Qqv},(∃g∈prt n s l N wss,ws∈g)↔ws∈wss
 | 0,wss,ws=>by simp[prt]
 | N+1,wss,ws=>by
  unfold prt
  split
  ·simp
  ·rename_i p _;constructor
   ·rintro⟨g,e,d⟩;obtain⟨c,a,b⟩:=YA.mp e;exact Eg.mp ⟨c,a,kI.mp ⟨g,b,d⟩⟩
   ·intro h;obtain⟨c,a,b⟩:=Eg.mpr h;obtain⟨g,i,f⟩:=kI.mpr b;exact⟨g,YA.mpr ⟨c,a,i⟩,f⟩
def uJ (n:Nat) (g g':Qqu):Prop:=∃(p:Nat) (w w':Str),p<n/\w≠w'/\(∀ws∈g,ws.getD p ZY=w)/\∀ws∈g',ws.getD p ZY=w'
theorem NU {p:Nat} (l:p<n):(byW wss p).Pairwise (uJ n):=by
 obtain⟨_,c,d,e⟩:=JF wss p;rw[e,Yu];refine c.imp_of_mem λ{k g} h j b=>?_;obtain⟨i,_,rfl⟩:=(d k).mp h;obtain⟨a,_,rfl⟩:=(d g).mp j;refine⟨p,_,_,l,λz:i.getD p ZY=a.getD p ZY=>b (congrArg Sum.inr z),λv f=>?_,λv f=>?_⟩
 ·simp_all
 ·simp_all
theorem uJ.sub {h h':Qqu} (s:uJ n g g') (a:∀ws∈h,ws∈g) (b:∀ws∈h',ws∈g'):uJ n h h':=by
 obtain⟨p,w,e,j,d,f,i⟩:=s;exact⟨p,w,e,j,d,λws c=>f ws (a ws c),λws c=>i ws (b ws c)⟩
theorem DW {n:Nat}{s l:Int}:∀{N:Nat}{wss:Qqu},(prt n s l N wss).Pairwise (uJ n)
 | 0,wss=>by simp[prt]
 | N+1,wss=>by
  unfold prt
  split
  ·simp
  ·rename_i p hp;rw[List.pairwise_flatMap];refine⟨λg _=>DW,(NU (yu hp).1).imp λ{g _} b x e y c=>?_⟩;exact b.sub (λd a=>kI.mp ⟨x,e,a⟩) λd a=>kI.mp ⟨y,c,a⟩
theorem xb {s:Int}{N:Nat} (hg:g∈prt n s l N wss)  (h:ws∈g):ws∈wss:=kI.mp ⟨g,hg,h⟩
theorem EA {n:Nat}{s l:Int}:∀{N:Nat}{wss:Qqu},mu n wss<=N->∀g∈prt n s l N wss,plc g n s l=none
 | 0,wss,hm,g,hg=>by
  rw[XR.mp hg];cases e:plc wss n s l with
  | none=>rfl
  | some p=>
   obtain⟨a,b⟩:=yu e;have:0<mu n wss:=List.countP_pos_iff.mpr ⟨p,Y0.mpr a,wW b⟩;lia
 | N+1,wss,hm,g,hg=>by
  unfold prt at hg
  split at hg
  ·simp_all
  ·rename_i p e;obtain⟨a,b⟩:=yu e;obtain⟨_,d,c⟩:=YA.mp hg;have:=Oq a (wW b) d;exact EA (by lia) g c
theorem tI (hi:i<n):(bA pss n)[i]? = some (ia (pss.map λps=>ps.getD i (.hole 2))):=by
 unfold bA
 simp_all
theorem p6 (pss:Qqr) (n:Nat):(bA pss n).length=n:=by simp[bA]
theorem M0 (h:i<ws.length):(iC ws).getD i (.hole 2) = .word (ws.getD i ZY):=by
 unfold iC
 simp_all
theorem Kb (hg:∀ws∈g,ws.length=n) (hi:i<n):((g.map iC).map λps=>ps.getD i (.hole 2))=(wAt g i).map Pt.word:=by
 grind [wAt,Yg,X8,M0]
theorem F9 {ps:Qqs} (k:ps≠[]) (h:∀p,p∈ps↔p∈qs):ia ps=ia qs:=by
 cases ps with
 | nil=>exact absurd rfl k
 | cons p r=>
  cases qs with
  | nil=>exact absurd ((h p).mp (XC ..)) (by simp)
  | cons q t=>
   have d:∀{x y:Pt}{r t:Qqs},(∀p,p∈x::r↔p∈y::t)->∀f:Pt->Pt->Bool,(∀a,f a a=true)->(∀a b,f a b=true->f b a=true)->(∀a b c,f a b=true->f b c=true->f a c=true)->(r.all (λq=>f q x))=true->(t.all (λq=>f q y))=true:=λ{x y r t} h f g j i _=>by
    have u:∀z∈x::r,f z x=true:=λz _=>by
     grind
    grind
   have l:∀f:Pt->Pt->Bool,(∀a,f a a=true)->(∀a b,f a b=true->f b a=true)->(∀a b c,f a b=true->f b c=true->f a c=true)->r.all (λz=>f z p)=t.all (λz=>f z q):=λf g j i=>by
    rw[Yc];exact⟨d h f g j i,d (λp=>(h p).symm) f g j i⟩
   have o:=l (λa b=>decide (a=b)) (λa=>by simp) (λa b e=>by lia) (λa b c e s=>by lia);have n:=l (λa b=>decide (a.around=b.around)) (λa=>by simp) (λa b e=>by lia) (λa b c e s=>by lia);unfold ia;simp only at o n ⊢;rw[<-o,<-n];by_cases m:r.all (λz=>decide (z=p))=true
   ·rw[Yb7 m,Yb7 m];rcases XQ.mp ((h q).mpr (XC ..))with e | e
    ·exact e.symm
    ·grind
   ·grind
theorem zK {p:Nat}{w:Str} (a:g≠[]) (f:∀ws∈g,ws.length=n) (d:p<n) (c:∀ws∈g,ws.getD p ZY=w):(bA (g.map iC) n)[p]? = some (.word w):=by
 rw[tI d,Kb f d];have e:ia ((wAt g p).map Pt.word)=ia [.word w]:=F9 (by simpa[wAt]using a) λq=>by
  rw[XR];constructor
  ·intro h;obtain⟨z,i,rfl⟩:=XE.mp h;obtain⟨ws,b,rfl⟩:=XE.mp i;rw[c ws b]
  ·rintro rfl;obtain⟨ws,b⟩:=YQ _ a;exact XE.mpr ⟨w,XE.mpr ⟨ws,b,c ws b⟩,rfl⟩
 rw[e];simp[ia]
theorem zw {w:Str} (a:w∈ws) (d:∀z∈ws,dh z=true):(ia (ws.map Pt.word)).takes w=true:=by
 cases ws with
 | nil=>cases a
 | cons x r=>
  unfold ia;simp only[XS];by_cases b:(r.map Pt.word).all (λz=>decide (z=Pt.word x))=true
  ·rw[Yb7 b];rcases XQ.mp a with rfl | h
   ·exact Yb4 rfl
   ·have:=Yb6 (Ye.mp b _ (XE.mpr ⟨w,h,rfl⟩));injection this with this;exact Yb4 this
  ·rw[Yb8 b];by_cases c:(r.map Pt.word).all (λz=>decide (z.around=(Pt.word x).around))=true
   ·rw[Yb7 c];have f:dS w=dS x:=by
     rcases XQ.mp a with rfl | h
     ·rfl
     ·exact Yb6 (Ye.mp c _ (XE.mpr ⟨w,h,rfl⟩))
    show(Pt.hole (dS x)).takes w=true;rw[<-f]
    match e:dS w with
    | 0=>exact Yb4 e
    | 1=>exact Yb4 e
    | n+2=>exact(d w a)
   ·rw[Yb8 c];exact d w a
theorem A6 {ps:Qqs} (a:ps.length=ws.length) (h:∀(i:Nat) p w,ps[i]? = some p->ws[i]? = some w->p.takes w=true):aR ps ws=true:=by
 unfold aR;rw[Yb4 a,YY,Ye]
 grind [YW,YF]
theorem Cg (b:∀ws∈g,ws.length=n/\∀w∈ws,dh w=true)  (h:ws∈g):aR (bA (g.map iC) n) ws=true:=by
 have e:=(b ws h).1;refine A6 (by rw[p6,e]) λi p w d _=>?_;have c:i<n:=by grind
 rw[tI c,Kb (λv a=>(b v a).1) c]at d;cases d;refine zw (XE.mpr ⟨ws,h,by simp_all⟩) λz f=>?_;obtain⟨v,a,rfl⟩:=XE.mp f;refine(b v a).2 _ ?_
 simp_all
theorem yT {ps:Qqs}{p:Pt}{w:Str} (h:aR ps ws=true) (b:ps[i]? = some p) (a:ws[i]? = some w):p.takes w=true:=by
 have:=Ye.mp (YX.mp h).2 (p,w) (XB (YF.mpr ⟨b,a⟩));exact this
theorem Hq (sp:uJ n g g') (b:g≠[]) (d:∀ws∈g,ws.length=n) (a:∀ws∈g',ws.length=n)  (h:ws∈g'):aR (bA (g.map iC) n) ws=false:=by
 obtain⟨p,w,w',k,f,i,j⟩:=sp;refine X5.mpr λz=>?_;have l:p<ws.length:=by rwa [a ws h]
 have e:=j ws h;have c:ws[p]? = some w':=by
  simp_all
 have:=yT z (zK b d k i) c;exact f (Yb6 this).symm
theorem uJ.symm (s:uJ n g g'):uJ n g' g:=by
 obtain⟨p,w,w',hp,hne,h1,h2⟩:=s;exact⟨p,w',w,hp,Ya4 hne,h2,h1⟩
theorem pw_all {α:Type}{R:α->α->Prop} (c:∀a b,R a b->R b a):∀{l:List α},l.Pairwise R->∀a∈l,∀b∈l,a≠b->R a b
 | [],_,a,ha,_,_,_=>by cases ha
 | x::r,h,a,ha,b,hb,hne=>by
  obtain⟨_,d⟩:=List.pairwise_cons.mp h;rcases XQ.mp ha with ea | ha'
  ·grind
  ·rcases XQ.mp hb with eb | hb'
   ·simp_all
   ·exact pw_all c d a ha' b hb' hne
def jnG (g:Qqu):Qqs:=bA (g.map iC) (gn g)
def grs (s l:Int) (rss:Qqu):List Qqu:=(byL rss).flatMap λg=>prt (gn g) s l 13 g
theorem UQ (hne:g≠[]) (h:∀ws∈g,ws.length=n):gn g=n:=by
 cases g with
 | nil=>exact absurd rfl hne
 | cons a r=>exact h a (XC ..)
theorem GOk.gn (h:GOk n g):gn g=n:=UQ h.ne λws hw=>(h.row ws hw).1
theorem QM {s:Int} (h:jv rss):gth s l rss=(grs s l rss).map jnG:=by
 unfold gth grs Dh;rw[List.map_flatMap];rw[List.flatMap_def,List.flatMap_def]
 congr 1
 refine X8 λg c=>X8 λa b=>?_;have:=(i5 (pO h c) a b).gn;show _=bA (a.map iC) (LG.gn a);rw[this]
theorem xg {s:Int} (h:jv rss) (d:g∈grs s l rss):GOk (gn g) g/\plc g (gn g) s l=none:=by
 obtain⟨_,e,c⟩:=YA.mp d;have b:=pO h e;have a:=i5 b g c;rw[a.gn];refine⟨a,EA (XG (Oz _ _) (XG b.Gk (by decide))) g c⟩
theorem DU {s:Int}:(∃g∈grs s l rss,ws∈g)↔ws∈rss:=by
 rw[<-NK];constructor
 ·rintro⟨g,d,_⟩;obtain⟨c,a,b⟩:=YA.mp d
  grind [xb]
 ·rintro⟨c,a,b⟩;obtain⟨g,f,e⟩:=kI.mpr b;exact⟨g,YA.mpr ⟨c,a,f⟩,e⟩
def Sep (g g':Qqu):Prop:=gn g≠gn g'\/(gn g=gn g'/\uJ (gn g) g g')
theorem NW:(byL rss).Pairwise λg g'=>∀ws∈g,∀ws'∈g',ws.length≠ws'.length:=by
 obtain⟨ks,hnd,hk,e⟩:=K6 rss
 grind
theorem Ej {s:Int} (h:jv rss):(grs s l rss).Pairwise Sep:=by
 unfold grs;rw[List.pairwise_flatMap];constructor
 ·intro g c;refine DW.imp_of_mem λ{x y} e d _=>?_;have n:=(i5 (pO h c) x e).gn;exact .inr ⟨by rw[n,((i5 (pO h c) y d).gn)],by rwa [n]⟩
 ·refine NW.imp_of_mem λ{g _} c f o x e y d=>.inl λz=>?_;have i:=i5 (pO h c) x e;have j:=i5 (pO h f) y d;obtain⟨a,k⟩:=YQ _ i.ne;obtain⟨b,m⟩:=YQ _ j.ne;refine o a (xb e k) b (xb d m) ?_;rw[(i.row a k).1,(j.row b m).1,<-i.gn,<-j.gn,z]
theorem Sep.symm (s:Sep g g'):Sep g' g:=s.elim (λh=>.inl h.symm) λh=>.inr ⟨h.1.symm,by rw[<-h.1];exact h.2.symm⟩
theorem IV (s:Sep g g') (o:GOk (gn g) g) (o':GOk (gn g') g')  (a:ws∈g'):aR (jnG g) ws=false:=by
 rcases s with h | ⟨b,c⟩
 ·refine X5.mpr λz=>h ?_;have:=Yb6 (YX.mp z).1;unfold jnG at this
  rwa [p6,(o'.row ws a).1]at this
 ·exact Hq c o.ne (λws a=>(o.row ws a).1) (λws a=>by rw[b];exact(o'.row ws a).1) a
theorem JM {w:Str} (h:PtW (.word w)):dh w=true:=h.1
theorem Ay {s:Int} (h:jv rss) (j:g∈grs s l rss)  (f:ws∈rss):aR (jnG g) ws=true↔ws∈g:=by
 have o:=(xg h j).1;constructor
 ·intro k;obtain⟨m,d,c⟩:=DU (s:=s) (l:=l).mpr f;by_cases e:g=m
  ·rwa [e]
  ·have n:=pw_all (λa b q=>Sep.symm q) (Ej (s:=s) (l:=l) h) g j m d e;rw[IV n o (xg h d).1 c]at k;cases k
 ·exactλc=>Cg (λv i=>⟨(o.row v i).1,λw f=>JM ((o.row v i).2 w f)⟩) c
theorem gX {a b:Qqv} (c:a.Perm b) (h:UpS a) (h':UpS b):a=b:=by
 refine map_inj (f:=PyData.str) (λx y e=>by injection e) ?_;refine lT (Sh.ok .str) (λx d=>?_) (c.map _) ?_ ?_
 ·obtain⟨z,_,rfl⟩:=XE.mp d;exact⟨z,rfl⟩
 ·rwa [Yu]
 ·rwa [Yu]
theorem Ke {c a b:Qqv} (d:a.Perm (fg [] zs)) (e:b.Perm (fg [] c)) (f:UpS a) (g:UpS b) (h:∀z,z∈zs↔z∈c):a=b:=by
 refine gX ((ZD (d.nodup_iff.mpr (gm YZ)) (e.nodup_iff.mpr (gm YZ))).mpr λz=>?_) f g;rw[d.mem_iff,e.mem_iff,ij,ij,h z]
end LG
namespace L2
open PySem
theorem Ih {g:TG}{tb:TS}{D:Ends} (b:Nat->St->Hp->Prop) (d:b 0 σ H) (f:∀i σ H,b i σ H->SqL K H a xs)
  (o:∀i x σ H p,xs[i]? = some x->b i σ H->H p=none->g (.ref p) σ (upd H p (.tup [.int i,x])) λσ2 H2=>tb { D with nx:=b (i+1),ct:=b (i+1),bk:=D.nx } σ2 H2) (l:∀σ H,b xs.length σ H->D.nx σ H) :
  ∃W:Nat->Nat->St->Hp->Prop,(∃m,W 0 m σ H)/\∀i m σ H,W i m σ H ->
   ((Ite K a).stop i H/\D.nx σ H)\/((Ite K a).go i H/\∃N:St->Hp->Prop,(∀σ' H',N σ' H'->∃m',m' < m/\W (i+1) m' σ' H')/\∀x H',(Ite K a).yld i H x H'->g x σ H' λσ2 H2=>tb { D with nx:=N,ct:=N,bk:=D.nx } σ2 H2):=by
 refine⟨λi m σ H=>m+i=xs.length/\b i σ H,⟨xs.length,Nat.add_zero _,d⟩,?_⟩;rintro i m σ H ⟨_,p⟩;have q:=f i σ H p;cases m with
 | zero=>
  have e:i=xs.length:=by lia
  subst e;exact .inl ⟨⟨xs,q,XD _⟩,l σ H p⟩
 | succ m=>
  refine .inr ⟨⟨xs,xs[i],q,XJ (by lia)⟩,b (i+1),λσ' H' n=>⟨m,by lia,by lia,n⟩,λx H' y=>?_⟩;obtain⟨t,v,c,k,h,j⟩:=y;rw[h,j];exact o i v σ H t (k xs q) p c
end L2
namespace LG
open PySem L2
theorem Kc (hp:ms.Perm (fg [] zs)) :z∈ms↔z∈zs:=by
 rw[hp.mem_iff,ij];simp
theorem Pk (hp:ms.Perm (fg [] zs)):ms.length<=zs.length:=by
 rw[hp.length_eq];exact uh zs
theorem MZ (e:ms.Perm (fg [] zs)) (f:zs.length<64) (hz:∀z∈zs,∃ws,fU 12 z ws):jv (ms.map λz=>Z5 z " "):=by
 have:=Pk e;refine⟨by rw[XA];lia,λws d=>?_⟩;obtain⟨z,c,rfl⟩:=XE.mp d;obtain⟨ws,a⟩:=hz z ((Kc e).mp c);rw[a.split];exact⟨a.pos,a.le,λw b=>⟨(a.wd w b).word,XG (a.wd w b).len (by decide),(a.wd w b).ok⟩⟩
section
variable {s:Int}
theorem LD {α:Type}{f:α->Bool}:∀{l:List α},l.Pairwise (λa b=>f a=true->f b=true->False)->(∃a∈l,f a=true)->(l.filter f).length=1
 | [],_,h=>by obtain⟨a,g,_⟩:=h;cases g
 | x::r,hp,h=>by
  obtain⟨k,m⟩:=List.pairwise_cons.mp hp;by_cases d:f x=true
  ·rw[Zp d];have:r.filter f=[]:=Y7.mpr λb j i=>k b j d i;rw[this];rfl
  ·rw[Y2 d];refine LD m ?_;obtain⟨a,g,c⟩:=h;rcases XQ.mp g with e | e
   ·exact absurd (e ▸ c) d
   ·exact⟨a,e,c⟩
theorem JO {ps:Qqr} (q:ms.Perm (fg [] zs)) (c:jv (ms.map λz=>Z5 z " ")) (e:ps.Perm (gth s l (ms.map λz=>Z5 z " "))) (hz:z∈zs):(ps.filter λp=>aR p (Z5 z " ")).length=1:=by
 have f:Z5 z " " ∈ ms.map λz=>Z5 z " " :=XE.mpr ⟨z,(Kc q).mpr hz,rfl⟩;rw[(e.filter _).length_eq,QM c,List.filter_map,XA];obtain⟨g,h,k⟩:=DU (s:=s) (l:=l).mpr f;refine LD ((Ej c).imp_of_mem λ{a b} m i j n o=>?_) ⟨g,h,(Ay c h f).mpr k⟩;have:=IV j (xg c m).1 (xg c i).1 ((Ay c i f).mp o);have d:aR (jnG a) (Z5 z " ")=true:=n;rw[this]at d;cases d
end
section
variable {s:Int}
end
theorem ma (us:Qqv):∃ms:Qqv,ms.Perm us/\UpS ms:=by
 have o:=Sh.ok .str;have d:∀x:Str,Sh.str.has (.str x):=λx=>⟨x,rfl⟩;refine⟨us.mergeSort λx y=>!ltv (.str y) (.str x),List.mergeSort_perm _ _,?_⟩;refine(List.pairwise_mergeSort (λa b c f g=>?_) (λa b=>?_) us).imp λ{a b} h=>by simpa using h
 ·cases q:ltv (.str c) (.str a)with
  | false=>rfl
  | true=>
   rcases o.neg (d c) (d b) (d a) q with e | e
   ·rw[e]at g;cases g
   ·rw[e]at f;cases f
 ·cases q:ltv (.str b) (.str a)with
  | false=>rfl
  | true=>rw[o.asymm (d b) (d a) q];rfl
theorem Jm {F:Yau}{ps:Qqs} (hF:H F=some (.lst ys)) (h:ay K H xs (ps.map Pt.dat)):ay K (wo F H) xs (ps.map Pt.dat):=(js (ab.refl H) (ab.refl H) h).same (LA hF)
def nV (i:Nat):V:=V.int (i:Int)
noncomputable def E6 (zs:Qqv):Qqv:=(ma (fg [] zs)).choose
theorem x9 (zs:Qqv):(E6 zs).Perm (fg [] zs)/\UpS (E6 zs):=(ma (fg [] zs)).choose_spec
theorem UB (hp:ms.Perm (fg [] zs)) (hu:UpS ms):ms=E6 zs:=gX (hp.trans (x9 zs).1.symm) hu (x9 zs).2
noncomputable def Qy (s l:Int) (zs:Qqv):Qqr:=gth s l ((E6 zs).map λz=>Z5 z " ")
noncomputable def vL (s l:Int) (zs:Qqv) (z:Str):Bool:=!((Qy s l zs).any λp=>aR p (Z5 z " "))
noncomputable def WR (s l:Int) (zs:Qqv) (n:Nat):List Nat:=(Z6 n).filter λi=>vL s l (zs.take i) (zs.getD i ZY)
theorem z6 {f:α->Bool}{a b:List α} (h:a.Perm b):a.any f=b.any f:=by
 rw[Yc,Zg,Zg];exact⟨λ⟨x,h1,h2⟩=>⟨x,h.mem_iff.mp h1,h2⟩,λ⟨x,h1,h2⟩=>⟨x,h.mem_iff.mpr h1,h2⟩⟩
theorem Ln {s:Int}{ps:Qqr} (b:ms.Perm (fg [] zs)) (c:UpS ms) (a:ps.Perm (gth s l (ms.map λz=>Z5 z " "))):vL s l zs z = !(ps.any λp=>aR p (Z5 z " ")):=by
 unfold vL Qy;rw[<-UB b c,z6 a]
theorem l9 {f:α->Bool} (l:List α):(l.filter f).isEmpty = !(l.any f):=by
 induction l with
 | nil=>rfl
 | cons a l b=>
  rw[Yy];cases h:f a with
  | true=>rw[Zp h];rfl
  | false=>rw[Y2 (by rw[h];decide),b];rfl
theorem HC {s:Int} (c:zs.length<64) (hz:∀z∈zs,∃ws,fU 12 z ws) (h:z∈zs):vL s l zs z=false:=by
 obtain⟨e,_⟩:=x9 zs;have d:=JO (s:=s) (l:=l) e (MZ e c hz) (Yas _) h;unfold vL Qy;have:=l9 (f:=λp=>aR p (Z5 z " ")) (gth s l ((E6 zs).map λz=>Z5 z " "));rw[<-this];cases q:(gth s l ((E6 zs).map λz=>Z5 z " ")).filter λp=>aR p (Z5 z " ")with
 | nil=>rw[q]at d;cases d
 | cons a b=>rfl
def oP:Option Qqs->Yaz
 | none=>.none
 | some ps=>aD ps
def iR (r:Int×Str):Yaz:=.tuple [.int r.1,.str r.2]
def FN (bs:Qqr) (z:Str) (o:Option Qqs):Prop:=(bs.filter (bq z)=[]/\o=none)\/∃p,o=some p/\tT (bs.filter (bq z)) p
def nR (bs fs:Qqr) (z:Str) (o:Option Qqs):Prop:=(∃p,o=some p/\tT (bs.filter (bq z)) p)\/(bs.filter (bq z)=[]/\FN fs z o)
def uo (bs fs:Qqr) (zs:Qqv) (os:List (Option Qqs)):Prop:=os.length=zs.length/\∀(i:Nat) z o,zs[i]? = some z->os[i]? = some o->nR bs fs z o
structure jC (s l:Int) (zs:Qqv) (ps:Qqr):Prop where
 ex:∃ms:Qqv,ms.Perm (fg [] zs)/\UpS ms/\ps.Perm (gth s l (ms.map λz=>Z5 z " "))
 ord:ow ps
 ok:mw ps
 lt:ps.length<64
def eY (bs:Qqr) (zs:Qqv):Qqv:=zs.filter λz=>(bs.filter (bq z)).isEmpty
section
variable {g:Yau}{fs:List (Str×V)}
theorem Ig {o:HO} (h:H g=some (.ins C dx fs)) (r:Rd H a o) (n:∀C dx fs,o ≠ .ins C dx fs):Rd (wo g H) a o:=by
 rcases r with r | ⟨b,r⟩
 ·exact .inl (by rw[aq λe=>by grind];exact r)
 ·exact .inr ⟨b,by grind [aq]⟩
theorem Nv (h:H g=some (.ins C dx fs)) (r:SqL K H a xs):SqL K (wo g H) a xs:=by
 rcases r with r | r
 ·exact .inl (Ig h r λ_ _ _ e=>by cases e)
 ·exact .inr r
theorem qR (h:H g=some (.ins C dx fs)) (r:SqT K H a xs):SqT K (wo g H) a xs:=by
 rcases r with r | r
 ·exact .inl (Ig h r λ_ _ _ e=>by cases e)
 ·exact .inr r
theorem uw {v:Qqt}{d:Qqy} (h:H g=some (.ins C dx fs)) (r:ay K H v d):ay K (wo g H) v d:=r.keep (λ_ _ q=>Nv h q) λ_ _ q=>qR h q
theorem N2 {P:Yau} (h:gW P pos qual H) (j:H g=some (.ins C dx fs)):gW P pos qual (upd H g (.ins f d fs')):=by
 obtain⟨i,_,k,l⟩:=h;have a:P≠g:=λe=>by lia
 refine⟨i,by rwa [ao a],k,l.imp id λ⟨c,x,y⟩=>⟨c,x,?_⟩⟩;have b:c≠g:=nw y j
 rwa [ao b]
theorem eL {P:Yau}{p:Hp->Prop} (e:gW P pos qual H) (d:H g=some (.ins C dx fs)) (k:∀H',H' g=some (.ins b a fs')->(∀c,c≠g->H' c=H c)->gW P pos qual H'->p H'):p (upd H g (.ins b a fs')):=k _ aa (λc h=>ao h) (N2 e d)
theorem cL (o:HO) (h:H a=none):∃H',upd H a o=H'/\ab H H'/\H' a=some o:=⟨_,rfl,ab.new h,aa⟩
theorem rR {e:Yau} (B:Yau) (h:H a=none) (h':H e=none) (n:e≠a):∃H',upd (upd H e (.own a)) a (.ins B e [])=H'/\ab H H'/\H' a=some (.ins B e []):=⟨_,rfl,(ab.new h').trans (ab.new (by grind [ao])),aa⟩
theorem zc {f:List (Int×Str)}{x:V} (h:ay K H xs (f.map iR)) (hx:xs[i]? = some x):∃r t,f[i]? = some r/\x = .ref t/\SqT K H t [.int r.1,.str r.2]/\Z2 r.2=true:=by
 obtain⟨d,c,g⟩:=h.get hx;rw[XM]at c;cases e:f[i]? with
 | none=>rw[e]at c;cases c
 | some r=>
  rw[e]at c;cases c;cases g with
  | tup k c=>
   cases c with
   | cons a t=>
    cases t with
    | cons b t=>
     cases t;cases a;cases b with
     | str j=>exact⟨r,_,rfl,rfl,k,j⟩
theorem qH {os:List (Option Qqs)}{x:V} (h:ay K H xs (os.map oP)) (hx:xs[i]? = some x):∃o,os[i]? = some o/\Den K H x (oP o):=by
 obtain⟨d,hd,cf⟩:=h.get hx
 grind
theorem CB {x:V}{o:Option Qqs} (h:Den K H x (oP o)):decide (x = .non)=o.isNone:=by
 cases o with
 | none=>cases h;rfl
 | some ps=>cases h;exact Yb5 (by lia)
theorem AB {bs:Qqr}{r:V} (h:N4 K H H' (bs.filter (bq z)) r):∃o,FN bs z o/\Den K (lim H H') r (oP o):=by
 rcases h with⟨e,rfl⟩ | ⟨t,_,a,rfl,_,_,c,b⟩
 ·exact⟨none,.inl ⟨e,rfl⟩,.non⟩
 ·exact⟨some a,.inr ⟨a,rfl,c⟩,b⟩
end
theorem mL {T:Hp}{x P:Yau}{v:Qqt} (d:ay K (lim Ha Hb) v ds) (hx:∃C dx fs,lim Ha Hb x=some (.ins C dx fs)) (c:∃ps,lim Ha Hb P=some (.tbl ps))
  (h:∀b o,b≠x->b≠P->(∀zs,Ha b≠some (.lst zs))->Hb b=some o->T b=some o):ay K T v ds:=by
 obtain⟨C,dx,fs,hx⟩:=hx;obtain⟨ps,c⟩:=c;have a:P≠x:=λe=>by lia
 refine(ke (P:=P) (ps:=ps) (by rwa [aq a]) (uw hx d)).same λb o e=>?_
 grind [aZ,d9,bh]
theorem Ew {T:Hp}{x P:Yau}{ds:Yaz} (d:Den K (lim Ha Hb) v ds) (hx:∃C dx fs,lim Ha Hb x=some (.ins C dx fs)) (c:∃ps,lim Ha Hb P=some (.tbl ps))
  (h:∀b o,b≠x->b≠P->(∀zs,Ha b≠some (.lst zs))->Hb b=some o->T b=some o):Den K T v ds:=by
 cases mL (.cons d .nil) hx c h with
 | cons a _=>exact a
theorem Ja {F:Yau} (s:ab H H2) (hF:H2 F=some (.lst ys)):ab (lim H2 H3) (wo F (lim H H3)):=λb o e=>by
 have a:=d9 e;rw[bh a]at e;rw[aq λz=>a ys (by rwa [z]),bh λc z=>a c (s _ _ z)];exact e
theorem qJ {F:Yau}{o:HO}:wo F (lim H (upd H3 F o))=wo F (lim H H3):=by
 grind [eM,aq,lim,ao]
theorem FN.none {bs:Qqr}{o:Option Qqs} (h:FN bs z o):o.isNone=(bs.filter (bq z)).isEmpty:=by
 rcases h with⟨e,rfl⟩ | ⟨p,rfl,b⟩
 ·rw[e];rfl
 ·cases hf:bs.filter (bq z)with
  | nil=>rw[hf]at b;cases b.1
  | cons a r=>rfl
theorem jC.unique {s:Int}{ps qs:Qqr} (h:jC s l zs ps) (h':jC s l zs qs):ps=qs:=by
 obtain⟨_,a,b,c⟩:=h.ex;obtain⟨_,f,e,d⟩:=h'.ex;rw[gX (f.trans a.symm) e b]at d;exact kj (c.trans d.symm) h.ord h'.ord
theorem jC.VI {s:Int}{d:Qqv}{ps:Qqr} (h:jC s l zs ps) (i:∀z,z∈zs↔z∈d):jC s l d ps:=by
 obtain⟨_,a,b,c⟩:=h.ex;obtain⟨e,g,f⟩:=ma (fg [] d);rw[<-Ke g a f b λz=>(i z).symm]at c;exact⟨⟨e,g,f,c⟩,h.ord,h.ok,h.lt⟩
theorem jC.news {s:Int}{ps:Qqr} (h:jC s l zs ps):vL s l zs z = !(ps.any (bq z)):=by
 obtain⟨ms,a,b,c⟩:=h.ex;exact Ln a b c
def core (H:Hp):Hp:=λc=>match H c with | some (.ins _ _ _)=>none | some (.tbl _)=>none | o=>o
theorem Jp {c:Yau}{o:HO} (h:core H c=some o):H c=some o/\(∀C dx fs,o ≠ .ins C dx fs)/\∀ps,o ≠ .tbl ps:=by
 grind [core]
theorem EF {c:Yau}{o:HO} (h:H c=some o) (h1:∀C dx fs,o ≠ .ins C dx fs) (h2:∀ps,o ≠ .tbl ps):core H c=some o:=by
 unfold core
 simp_all
theorem Ek {o:HO} (r:Rd H a o) (h1:∀C dx fs,o ≠ .ins C dx fs) (h2:∀ps,o ≠ .tbl ps):Rd (core H) a o:=by
 rcases r with r | ⟨b,r⟩
 ·exact .inl (EF r h1 h2)
 ·exact .inr ⟨b,EF r (λ_ _ _ e=>by cases e) λ_ e=>by cases e⟩
theorem Fx {v:Qqt}{d:Qqy} (r:ay K H v d):ay K (core H) v d:=by
 refine r.keep (λa b q=>?_) λa b q=>?_
 ·rcases q with q | q
  ·exact .inl (Ek q (λ_ _ _ e=>by cases e) λ_ e=>by cases e)
  ·exact .inr q
 ·rcases q with q | q
  ·exact .inl (Ek q (λ_ _ _ e=>by cases e) λ_ e=>by cases e)
  ·exact .inr q
structure StV where
 rs:List (Int×Str)
 bs:Qqr
 fs:Qqr
 os:List (Option Qqs)
def StV.zZ (v:StV):Qqv:=v.rs.map (·.2)
structure StV.Ok (v:StV) (s l:Int):Prop where
 gth:jC s l (eY v.bs v.zZ) v.fs
 fls:uo v.bs v.fs v.zZ v.os
 lns:∀q∈v.rs,∃ws,fU 12 q.2 ws
 hnd:mw v.bs
 rl:v.rs.length<64
 bl:v.bs.length<64
structure eD where
 s:Int
 l:Int
 cur:StV
 ah:StV
 past:List (List (Int×Str)×Qqr)
 tbk:List (List (Int×Str)×Qqr)
def AL (K:Vzz) (C:Yau) (B:Hp) (st:Yau) (v:StV):Prop:=∃(dx r b f fl:Yau) (rv bv fv lv:Qqt),B st=some (.ins C dx [("rows",.ref r),("by_hand",.ref b),("found",.ref f),("falls",.ref fl)]) /\
 B r=some (.lst rv)/\ay K B rv (v.rs.map iR)/\B b=some (.lst bv)/\ay K B bv (v.bs.map aD)/\B f=some (.lst fv)/\ay K B fv (v.fs.map aD)/\B fl=some (.lst lv)/\ay K B lv (v.os.map oP)
theorem AL.same {st:Yau}{v:StV} (h:AL K C B st v) (s:ab B B'):AL K C B' st v:=by
 obtain⟨j,r,b,f,a,g,k,l,c,n,o,t,p,d,m,q,i,e⟩:=h;exact⟨j,r,b,f,a,g,k,l,c,s _ _ n,s _ _ o,t.same s,s _ _ p,d.same s,s _ _ m,q.same s,s _ _ i,e.same s⟩
def HeldAt (K:Vzz) (B:Hp) (x:V) (h:List (Int×Str)×Qqr):Prop:=∃(t r b:Yau) (rv bv:Qqt),x = .ref t/\SqT K B t [.ref r,.ref b]/\B r=some (.lst rv)/\ay K B rv (h.1.map iR)/\B b=some (.lst bv)/\ay K B bv (h.2.map aD)
theorem HeldAt.same {x:V}{h:List (Int×Str)×Qqr} (a:HeldAt K B x h) (s:ab B B'):HeldAt K B' x h:=by
 obtain⟨t,r,b,d,f,e,g,i,k,j,c⟩:=a;exact⟨t,r,b,d,f,e,s.eQ g,s _ _ i,k.same s,s _ _ j,c.same s⟩
def fL (K:Vzz) (B:Hp) (xs:Qqt) (l:List (List (Int×Str)×Qqr)):Prop:=xs.length=l.length/\∀(i:Nat) x h,xs[i]? = some x->l[i]? = some h->HeldAt K B x h
section
variable {x:V}{l:List (List (Int×Str)×Qqr)}{h:List (Int×Str)×Qqr}
theorem fL.same (a:fL K B xs l) (s:ab B B'):fL K B' xs l:=⟨a.1,λi x h h1 h2=>(a.2 i x h h1 h2).same s⟩
theorem fL.nil:fL K B [] []:=⟨rfl,λi x h e=>by cases e⟩
theorem fL.snoc (a:fL K B xs l) (b:HeldAt K B x h):fL K B (xs++[x]) (l++[h]):=by
 refine⟨by rw[XI,XI,a.1];rfl,λi y k c d=>?_⟩;by_cases f:i<xs.length
 ·rw[Yp f]at c;rw[Yp (a.1 ▸ f)]at d;exact a.2 i y k c d
 ·have e:i=xs.length:=by
   grind
  rw[e,Yw (XD _),ZP]at c;rw[e,a.1,Yw (XD _),ZP]at d
  simp_all
end
def bi (K:Vzz) (CL CS:Yau) (B H:Hp) (g pa tb:Yau) (v:eD):Prop:=∃(dx t st ah:Yau) (pv tv:Qqt),H g=some (.ins CL dx [("sieve",.ref t),("state",.ref st),("ahead",.ref ah),("past",.ref pa),("taken_back",.ref tb)]) /\
 H pa=some (.lst pv)/\H tb=some (.lst tv)/\ab B H/\B g=none/\B pa=none/\B tb=none/\pa≠tb/\SqT K B t [.int v.s,.int v.l]/\AL K CS B st v.cur/\AL K CS B ah v.ah/\fL K B pv v.past/\fL K B tv v.tbk/\v.cur.Ok v.s v.l/\v.ah.Ok v.s v.l
section
variable {g:Yau}{v:eD}
theorem bi.grow (h:bi K CL CS B H g pa tb v) (s:ab B B') (s':ab B' H') (o:B' g=none) (x:B' pa=none) (r:B' tb=none) (l:H' g=H g) (ep:H' pa=H pa) (p:H' tb=H tb):bi K CL CS B' H' g pa tb v:=by
 obtain⟨u,t,i,m,pv,w,k,q,n,_,_,_,_,j,f,d,c,a,e,b⟩:=h;exact⟨u,t,i,m,pv,w,l.trans k,ep.trans q,p.trans n,s',o,x,r,j,s.eQ f,d.same s,c.same s,a.same s,e.same s,b⟩
theorem bi.to (h:bi K CL CS B H g pa tb v) (s':ab B H') (e:H' g=H g) (ep:H' pa=H pa) (b:H' tb=H tb):bi K CL CS B H' g pa tb v:=by
 have d:=h;obtain⟨_,t,_,_,pv,_,_,_,_,_,a,c,f,_⟩:=d;exact h.grow (ab.refl B) s' a c f e ep b
theorem bi.same (h:bi K CL CS B H g pa tb v) (s:ab H H'):bi K CL CS B H' g pa tb v:=by
 have e:=h;obtain⟨_,t,_,_,pv,_,a,b,c,d,_⟩:=e;exact h.to (d.trans s) ((s _ _ a).trans a.symm) ((s _ _ b).trans b.symm) ((s _ _ c).trans c.symm)
theorem bi.wo (h:bi K CL CS B H g pa tb v) (b:B d=none) (e:d≠g) (n2:d≠pa) (c:d≠tb) (s:ab (wo d H) H'):bi K CL CS B H' g pa tb v:=by
 have f:=h;obtain⟨_,t,_,_,pv,_,i,j,k,a,_⟩:=f;exact h.to ((hJ b a).trans s) ((s _ _ (by rwa [aq e.symm])).trans i.symm) ((s _ _ (by rwa [aq n2.symm])).trans j.symm) ((s _ _ (by rwa [aq c.symm])).trans k.symm)
end
def nxt (B H H':Hp) (g pa tb:Yau):Hp:=λc=>if c=g\/c=pa\/c=tb then none else match H c with | some (.lst _)=>B c | some (.ins _ _ _)=>B c | some (.tbl _)=>B c | _=>H' c
section
variable {g c:Yau}{o:HO}
theorem MH (n1:c≠g) (n2:c≠pa) (n3:c≠tb) (h:(∃ys,H c=some (.lst ys))\/(∃C dx fs,H c=some (.ins C dx fs))\/∃ps,H c=some (.tbl ps)):nxt B H H' g pa tb c=B c:=by
 unfold nxt;lia
theorem g9 (n1:c≠g) (n2:c≠pa) (n3:c≠tb) (h1:∀ys,H c≠some (.lst ys)) (h2:∀C dx fs,H c≠some (.ins C dx fs)) (h3:∀ps,H c≠some (.tbl ps)):nxt B H H' g pa tb c=H' c:=by
 unfold nxt
 simp_all
theorem qO:nxt B H H' g pa tb g=none/\nxt B H H' g pa tb pa=none/\nxt B H H' g pa tb tb=none:=by
 exact⟨Yb7 (.inl rfl),Yb7 (.inr (.inl rfl)),Yb7 (.inr (.inr rfl))⟩
theorem za (i:ab B H) (d:B g=none) (h:B pa=none) (j:B tb=none) (s:∀c o,B c=some o->H' c=some o):ab B (nxt B H H' g pa tb):=λc o e=>by
 have f:c≠g:=λz=>by lia
 have a:c≠pa:=λz=>by lia
 have b:c≠tb:=λz=>by lia
 unfold nxt
 grind
theorem BM (s:∀c o,B c=some o->H' c=some o):ab (nxt B H H' g pa tb) H':=λc o e=>by
 grind [nxt]
end
def lz (o:HO):Prop:=(∃ys,o = .lst ys)\/(∃C dx fs,o = .ins C dx fs)\/∃ps,o = .tbl ps
theorem xh {g c:Yau}{o:HO} (i:B c=none) (h:H c=some o) (m:lz o):nxt B H H' g pa tb c=none:=by
 have a:=qO (B:=B) (H:=H) (H':=H') (g:=g) (pa:=pa) (tb:=tb);by_cases f:c=g
 ·rw[f];exact a.1
 by_cases b:c=pa
 ·rw[b];exact a.2.1
 by_cases d:c=tb
 ·rw[d];exact a.2.2
 rw[MH f b d ?_]
 ·exact i
 ·rcases m with⟨_,e⟩ | ⟨_,_,_,e⟩ | ⟨_,e⟩
  ·simp_all
  ·simp_all
  ·simp_all
theorem mS {T:Hp}{v:Qqt} (d:ay K (lim Ha Hb) v ds) (h:∀c o,(∀ys,Ha c≠some (.lst ys))->Hb c=some o -> ¬ lz o\/(∃ys,o = .lst ys)->(∀C dx fs,o ≠ .ins C dx fs)->(∀ps,o ≠ .tbl ps)->T c=some o):ay K T v ds:=by
 refine(Fx d).same λc o e=>?_;obtain⟨e,b,f⟩:=Jp e;have a:=d9 e;rw[bh a]at e;refine h c o a e ?_ b f;by_cases q:∃ys,o = .lst ys
 ·exact .inr q
 ·exact .inl λm=>m.elim q λm=>m.elim (λ⟨_,_,_,z⟩=>b _ _ _ z) λ⟨_,z⟩=>f _ z
theorem D8 {x:V}:atI (xs++[x]) (-1)=some x:=by
 unfold atI ixN;rw[Yb8 (by lia),Yb7 (by grind)];rw[XI,show(-1+((xs.length + [x].length:Nat):Int)).toNat=xs.length by simp;lia];simp
theorem v7 (a b c d:Int):Z7 (.tuple [.int a,.int b]) (.tuple [.int c,.int d])=decide (a=c/\b=d):=by
 have h:∀x y:Int,(Sh.bE .int (.bE .int .lH)).has (.tuple [.int x,.int y]):=λx y=>⟨_,_,rfl,⟨_,rfl⟩,_,_,rfl,⟨_,rfl⟩,rfl⟩;have e:=(Sh.ok (.bE .int (.bE .int .lH))).eqv _ _ (h a b) (h c d);lia
theorem Kx {ps:Qqr}:(ps.filter (bq z)).isEmpty = !(ps.any (bq z)):=by
 induction ps with
 | nil=>rfl
 | cons a r ih=>
  grind
theorem bi.gg {g:Yau}{v:eD} (h:bi K CL CS B H g pa tb v):∃dx t st ah,H g=some (.ins CL dx [("sieve",.ref t),("state",.ref st),("ahead",.ref ah),("past",.ref pa),("taken_back",.ref tb)]):=by
 obtain⟨dx,t,st,ah,_,_,a,_⟩:=h;exact⟨dx,t,st,ah,a⟩
theorem bi.okc {g:Yau}{v:eD} (h:bi K CL CS B H g pa tb v):v.cur.Ok v.s v.l:=by
 obtain⟨_,_,_,_,_,_,_,_,_,_,_,_,_,_,_,_,_,_,_,okc,_⟩:=h;exact okc
theorem bi.neT {g P:Yau}{v:eD}{q:Qqw} (h:bi K CL CS B H g pa tb v) (hq:H P=some (.tbl q)):P≠g/\P≠pa/\P≠tb:=by
 obtain⟨dx,t,st,ah,pw,tv,hg,hpa,htb,_⟩:=h;lia
def uC (K:Vzz):Sp:=λvs H Q _=>∃(c:Int) (m:Nat),vs=[.int c,.int m]/\m<10000/\∀d H',H d=none->ab H H'->Dk H' d m->Q (.ref d) H'
def IQ:Pt->Bool
 | .word w=>dh w
 | .hole _=>true
def CK (K:Vzz):Sp:=λvs H Q _=>∃(v:V) (p:Pt),vs=[v]/\Den K H v p.dat/\p.ok/\Q (.bl (IQ p)) H
def uH (K:Vzz):Sp:=λvs H Q _=>∃(v:V) (ps:Qqs),vs=[v]/\Den K H v (aD ps)/\(∀p∈ps,p.ok)/\1<=ps.length/\ps.length<=12/\(∀p∈ps,IQ p=true)/\∀H',ab H H'->Q (.bl true) H'
theorem kQ {ps:Qqs} (h:∀q∈pss,∀p∈q,p.ok) (c:∀p∈ps,p.ok):((pss.map aD).any λe=>Z7 e (aD ps))=decide (ps∈pss):=by
 rw[List.any_map]
 induction pss with
 | nil=>rfl
 | cons a r d=>
  rw[Yy,d λq b=>h q (XF _ b)];show(Z7 (aD a) (aD ps) || _)=_;rw[n6 (h a (XC ..)) c,Yc,Bool.or_eq_true,decide_eq_true_eq,decide_eq_true_eq,decide_eq_true_eq,XQ];exact⟨λz=>z.imp Eq.symm id,λz=>z.imp Eq.symm id⟩
theorem PtW.okP {p:Pt} (h:PtW p):p.ok/\IQ p=true:=by
 cases p with
 | word w=>exact⟨⟨XG h.2.1 (by decide),h.2.2⟩,h.1⟩
 | hole k=>exact⟨h,rfl⟩
structure Wi (h:List (Int×Str)×Qqr):Prop where
 rl:h.1.length<64
 lns:∀q∈h.1,∃ws,fU 12 q.2 ws
 bl:h.2.length<64
 hnd:mw h.2
section
variable {P:Yau}{H6:Hp}{g:Yau}{v:eD}
theorem Hl {fs:List (Str×V)}{pv tv:Qqt}{l:Qqt} (a:ab H Ha) (s:ab Ha Hb) (k:H g=some (.ins C dx fs)) (h:H pa=some (.lst pv)) (i:H tb=some (.lst tv)) (d:ay K (lim Ha Hb) l ds):ay K (nxt B H Hb g pa tb) l ds:=
 mS d λc o f b _ j m=>by
  have p:c≠g:=λe=>by rw[e,s _ _ (a _ _ k)]at b;cases b;exact j _ _ _ rfl
  rw[g9 p (λe=>f _ (by rw[e];exact a _ _ h)) (λe=>f _ (by rw[e];exact a _ _ i)) (λn e=>f n (a _ _ e)) (λC _ fs e=>?_) (λ_ e=>?_)]
  ·exact b
  ·have:=s _ _ (a _ _ e);rw[b]at this;cases this;exact j _ _ _ rfl
  ·have:=s _ _ (a _ _ e);rw[b]at this;cases this;exact m _ rfl
end
section
variable {v:StV}{s:Int}
theorem StV.Ok.off (h:v.Ok s l):(eY v.bs v.zZ).length<64/\∀z∈eY v.bs v.zZ,∃ws,fU 12 z ws:=by
 constructor
 ·have c:(eY v.bs v.zZ).length<=v.zZ.length:=Yt _ _;have d:v.zZ.length=v.rs.length:=by unfold StV.zZ;rw[XA]
  have:=h.rl;lia
 ·intro z a;have a:=(X7.mp a).1;obtain⟨q,b,rfl⟩:=XE.mp a;exact h.lns q b
theorem StV.Ok.len (h:v.Ok s l):v.os.length=v.rs.length:=by
 rw[h.fls.1];unfold StV.zZ;rw[XA]
theorem StV.Ok.O5 (h:v.Ok s l) {r:Int×Str}{o:Option Qqs} (n:v.rs[i]? = some r) (f:v.os[i]? = some o):∃p,o=some p/\p∈v.bs++v.fs/\bq r.2 p=true:=by
 have d:v.zZ[i]? = some r.2:=by unfold StV.zZ;rw[XM,n];rfl
 rcases h.fls.2 i _ _ d f with⟨p,e,a⟩ | ⟨m,g⟩
 ·have:=X7.mp a.1;exact⟨p,e,XU.mpr (.inl this.1),this.2⟩
 ·rcases g with⟨k,_⟩ | ⟨p,e,a⟩
  ·have j:r.2∈eY v.bs v.zZ:=X7.mpr ⟨XB d,by rw[m];rfl⟩;have b:=HC (s:=s) (l:=l) h.off.1 h.off.2 j;rw[h.gth.news]at b;have c:=Kx (ps:=v.fs) (z:=r.2);rw[k,b]at c;cases c
  ·have:=X7.mp a.1;exact⟨p,e,XU.mpr (.inr this.1),this.2⟩
end
def DG (lo hi:Int) (x:(Int×Str)×Option Qqs):Bool:=decide (lo<=x.1.1/\x.1.1<hi)
def StV.rf (v:StV):List ((Int×Str)×Option Qqs):=v.rs.zip v.os
def cnt (v:StV) (lo hi:Int) (p:Qqs):Nat:=(v.rf.filter (DG lo hi)).countP λx=>decide (x.2=some p)
theorem fH {P:Yau} (h:gW P pos qual H) (f:H d=some (.lst ys)) (s:ab (wo d H) H'):gW P pos qual H':=by
 obtain⟨i,g,j,k⟩:=h;have a:P≠d:=nw g f
 refine⟨i,s _ _ (by rwa [aq a]),j,k.imp id λ⟨c,x,y⟩=>⟨c,x,?_⟩⟩;have b:c≠d:=nw y f
 exact s _ _ (by rwa [aq b])
structure MdI (K:Vzz) (pos:Pos) (qual:Str) (CL CS P:Yau) (H0:Hp) (d g pa LF:Yau) (n:Nat) (lv:Qqt) (Bi:Hp) (tb:Yau) (v:eD) (H:Hp):Prop where
 sB:ab (wo d (wo P H0)) H
 la:gW P pos qual H
 dk:Dk H d n
 lg:bi K CL CS Bi H g pa tb v
 mu:∀c o,H0 c=some o->lz o->Bi c=none
 bl:Bi LF=none
 nt:LF≠tb
 t0:H0 tb=none
 lf:H LF=some (.lst lv)
 d0:∃ys,H0 d=some (.lst ys)
 P0:∃q,H0 P=some (.tbl q)
 g0:H0 g=none
 p0:H0 pa=none
 l0:H0 LF=none
 ng:LF≠g
 np:LF≠pa
section
variable {P:Yau}{Bi:Hp}{g LF:Yau}{lv lv':Qqt}{v v':eD}
end
structure WOd (w:Str):Prop where
 word:dh w=true
 len:w.length<=5
 ok:Z2 w=true
theorem d1:∀x∈BP,dh x=true/\x.length<=5/\Z2 x=true:=by decide +kernel
theorem d2:∀x∈C0,dh x=true/\x.length<=5/\Z2 x=true:=by decide +kernel
theorem d3:∀x∈CG,dh x=true/\x.length<=5/\Z2 x=true:=by decide +kernel
structure Xi (m:Nat) (x:Str) (ws:Qqv):Prop where
 eq:x=Ya6 " " ws
 pos:1<=ws.length
 le:ws.length<=m
 wd:∀w∈ws,WOd w
structure Xx (ws:Qqv):Prop where
 pos:1<=ws.length
 le:ws.length<=12
 wd:∀w∈ws,WOd w
def eqE (v w:eD):Bool:=Z7 (.tuple [.int v.s,.int v.l]) (.tuple [.int w.s,.int w.l]) && (Z7 (.list (v.cur.rs.map iR)) (.list (w.cur.rs.map iR)) && Z7 (.list (v.cur.bs.map aD)) (.list (w.cur.bs.map aD)))
theorem Bc:∀{l r:List (Int×Str)},l.map iR=r.map iR->l=r
 | [],[],_=>rfl
 | [],_::_,h=>by cases h
 | _::_,[],h=>by cases h
 | a::l,b::r,h=>by
  rw[XS,XS]at h;obtain⟨_,_⟩:=a;obtain⟨_,_⟩:=b;cases((List.cons.inj h).1);rw[(Bc (List.cons.inj h).2)]
theorem AV (l r:List (Int×Str)):Z7 (.list (l.map iR)) (.list (r.map iR))=decide (l=r):=by
 have a:∀l:List (Int×Str),(Sh.list (.bE .int (.bE .str .lH))).has (.list (l.map iR)):=λl=>⟨_,rfl,λx b=>by
  obtain⟨q,_,rfl⟩:=XE.mp b;exact⟨_,_,rfl,⟨_,rfl⟩,_,_,rfl,⟨_,rfl⟩,rfl⟩⟩
 have e:=(Sh.ok (.list (.bE .int (.bE .str .lH)))).eqv _ _ (a l) (a r);by_cases q:l=r
 ·rw[Yb4 q];exact e.mpr (by rw[q])
 ·rw[Yb5 q];refine X5.mpr λz=>q (Bc ?_);have:=e.mp z;exact PyData.list.inj this
def DJ:Sh:=.list (.list (.bE .str (.bE .str .lH)))
theorem iB (pss:Qqr):DJ.has (.list (pss.map aD)):=⟨_,rfl,λx b=>by
 obtain⟨_,_,rfl⟩:=XE.mp b;exact⟨_,rfl,λy a=>by
  obtain⟨p,_,rfl⟩:=XE.mp a;cases p <;> exact⟨_,_,rfl,⟨_,rfl⟩,_,_,rfl,⟨_,rfl⟩,rfl⟩⟩⟩
theorem DA {v w:eD} (h1:v.s=w.s) (h2:v.l=w.l) (b:v.cur.rs=w.cur.rs) (a:v.cur.bs=w.cur.bs):eqE v w=true:=by
 unfold eqE;rw[v7,AV,Yb4 ⟨h1,h2⟩,Yb4 b,a,((Sh.ok DJ).eqv _ _ (iB _) (iB _)).mpr rfl];rfl
theorem Ou {v w:eD} (h:v.s≠w.s\/v.cur.rs≠w.cur.rs\/v.cur.bs.length≠w.cur.bs.length):eqE v w=false:=by
 unfold eqE;rw[v7,AV];rcases h with h | h | h
 ·rw[Yb5 λz=>h z.1];rfl
 ·rw[Yb5 h,Bool.false_and,YO]
 ·have e:=X5.mpr λz=>h (by
   have:=PyData.list.inj (((Sh.ok DJ).eqv _ _ (iB v.cur.bs) (iB w.cur.bs)).mp z);have:=congrArg List.length this
   rwa [XA,XA]at this)
  rw[e,YO,YO]
section
variable {v:StV}{s:Int}
theorem StV.Ok.pso (h:v.Ok s l):mw (v.bs++v.fs):=λp hp=>(XU.mp hp).elim (h.hnd p) (h.gth.ok p)
theorem StV.Ok.pok (h:v.Ok s l):∀q∈v.bs++v.fs,∀p∈q,p.ok:=λq hq p hp=>((h.pso q hq).1 p hp).okP.1
theorem StV.Ok.rfm (h:v.Ok s l):∀x∈v.rf,x.1∈v.rs/\∃p∈v.bs++v.fs,x.2=some p/\bq x.1.2 p=true:=λx d=>by
 obtain⟨i,a⟩:=YW d;unfold StV.rf at a;rw[YF]at a;obtain⟨p,e,c,b⟩:=h.O5 a.1 a.2;exact⟨XB a.1,p,c,e,b⟩
end
theorem vF {p:Qqs} (b:∀x∈p,x.ok):∀{l:List ((Int×Str)×Option Qqs)},(∀x∈l,∃q,x.2=some q/\∀y∈q,y.ok)->(l.map λx=>oP x.2).countP (λe=>Z7 e (aD p))=l.countP λx=>decide (x.2=some p)
 | [],_=>rfl
 | a::l,h=>by
  obtain⟨q,e,c⟩:=h a (XC ..);rw[XS,Y3,Y3,vF b λx d=>h x (XF _ d),e];show _+(if Z7 (aD q) (aD p)=true then 1 else 0)=_;rw[n6 c b];simp
theorem PC {v:StV}{s:Int}{p:Qqs} (h:v.Ok s l) (b:p∈v.bs++v.fs):((v.rf.filter (DG lo hi)).map λx=>oP x.2).countP (λe=>Z7 e (aD p))=cnt v lo hi p:=by
 refine vF (h.pok p b) λx c=>?_;obtain⟨_,q,a,e,_⟩:=h.rfm x (X7.mp c).1;exact⟨q,e,h.pok q a⟩
theorem FP (pss:Qqr):Z7 (.list (pss.map aD)) (.list (pss.map aD))=true:=((Sh.ok DJ).eqv _ _ (iB _) (iB _)).mpr rfl
section
variable [DecidableEq κ]
def hoN (l:List (κ×Yau×Nat)):List (κ×Yau×V):=l.map λx=>(x.1,x.2.1,.int (x.2.2:Int))
def getM (l:List (κ×Yau×Nat)) (k:κ):Nat:=((l.find? λx=>decide (x.1=k)).map (·.2.2)).getD 0
def xc (l:List (κ×Yau×Nat)) (k:κ) (b:Yau):List (κ×Yau×Nat):=if k∈l.map (·.1)then l.map (λx=>if x.1=k then(x.1,x.2.1,x.2.2+1)else x)else l++[(k,b,1)]
structure qE (l:List (κ×Yau×Nat)) (ks:List κ):Prop where
 nd:(l.map (·.1)).Nodup
 cn:∀x∈l,x.2.2=ks.count x.1
 mem:∀k,k∈l.map (·.1)↔k∈ks
theorem qE.nil:qE ([]:List (κ×Yau×Nat)) []:=⟨YZ,(λx h=>by cases h),λk=>Iff.rfl⟩
theorem xy (l:List (κ×Yau×Nat)) (k:κ):valN (hoN l) k=(l.find? λx=>decide (x.1=k)).map λx=>V.int (x.2.2:Int):=by
 unfold valN hoN;rw[List.find?_map,Option.map_map];rfl
theorem Nh (l:List (κ×Yau×Nat)) (k:κ):(valN (hoN l) k).getD (.int 0) = .int (getM l k:Int):=by
 rw[xy];unfold getM;cases l.find? λx=>decide (x.1=k) <;> rfl
theorem sZ {l:List (κ×Yau×Nat)}{k:κ}:(l.find? λx=>decide (x.1=k)).isSome=true↔k∈l.map (·.1):=by
 simp
theorem EQ {l:List (κ×Yau×Nat)} (nd:(l.map (·.1)).Nodup) {x:κ×Yau×Nat} (hx:x∈l):(l.find? λy=>decide (y.1=x.1))=some x:=by
 induction l with
 | nil=>cases hx
 | cons a r ih=>
  grind
theorem Md {l:List (κ×Yau×Nat)} (d:(l.map (·.1)).Nodup) (k:κ) (b:Yau):putN (hoN l) k b (.int ((getM l k:Int)+1))=hoN (xc l k b):=by
 unfold putN xc;rw[xy,Option.isSome_map];by_cases a:k∈l.map (·.1)
 ·rw[Yb7 (sZ.mpr a),Yb7 a];unfold hoN;rw[Yg,Yg];refine X8 λx f=>?_;show(if x.1=k then(x.1,x.2.1,V.int ((getM l k:Int)+1))else _)=_;by_cases e:x.1=k
  ·have c:getM l k=x.2.2:=by
    unfold getM;rw[<-e,EQ d f];rfl
   simp_all
  ·lia
 ·rw[Yb8 (λe=>a (sZ.mp e)),Yb8 a];unfold hoN;rw[XH];have c:getM l k=0:=by
   unfold getM;cases e:l.find? λx=>decide (x.1=k)with
   | none=>rfl
   | some x=>exact(a (sZ.mp (by rw[e];rfl))).elim
  rw[c];rfl
theorem qE.put {l:List (κ×Yau×Nat)}{ks:List κ} (h:qE l ks) (k:κ) (b:Yau):qE (xc l k b) (ks++[k]):=by
 unfold xc;by_cases f:k∈l.map (·.1)
 ·rw[Yb7 f];have j:(l.map (λx=>if x.1=k then(x.1,x.2.1,x.2.2+1)else x)).map (·.1)=l.map (·.1):=by
   grind [Yg,X8]
  refine⟨by rw[j];exact h.nd,λx d=>?_,λq=>?_⟩
  ·obtain⟨y,i,rfl⟩:=XE.mp d;rw[Zs];by_cases e:y.1=k
   ·rw[Yb7 e];rw[h.cn y i,e,Zh]
   ·rw[Yb8 e,h.cn y i,List.count_singleton,Yb8 (λz=>e (eq_of_beq z).symm),Nat.add_zero]
  ·rw[j,h.mem q,XU,XR];exact⟨.inl,λz=>z.elim id λz=>by rw[z];exact(h.mem k).mp f⟩
 ·rw[Yb8 f];refine⟨?_,λx d=>?_,λq=>?_⟩
  ·rw[XH,Zr];refine⟨h.nd,by simp,λa _ c _=>?_⟩
   grind
  ·rcases XU.mp d with d | d
   ·have g:x.1≠k:=λe=>f (by grind);rw[Zs,h.cn x d,List.count_singleton,Yb8 (λz=>g (eq_of_beq z).symm),Nat.add_zero]
   ·rw[XR.mp d,Zs,Zh,List.count_eq_zero.mpr (λz=>f ((h.mem k).mpr z))]
  ·rw[XH,XU,XU,h.mem q];exact Iff.rfl
theorem Kk {l:List (κ×Yau×Nat)}{k:κ}{x:κ×Yau×Nat} (h:x∈xc l k b):(∃y∈l,y.1=x.1/\y.2.1=x.2.1)\/(x.1=k/\x.2.1=b):=by
 unfold xc at h
 grind
theorem LQ {l:List (κ×Yau×Nat)}{k:κ}:(xc l k b).length<=l.length+1:=by
 unfold xc
 grind
theorem qE.sum {l:List (κ×Yau×Nat)}:∀{ks:List κ},qE l ks->(l.map (·.2.2)).sum=ks.length:=by
 intro ks h;have b:∀(l:List (κ×Yau×Nat)),(l.map (·.1)).Nodup->(l.map λx=>ks.count x.1).sum=(ks.filter λk=>decide (k∈l.map (·.1))).length:=by
  intro l
  induction l with
  | nil=>intro _;rw[Y7.mpr λk _=>by simp];rfl
  | cons a r f=>
   intro c;rw[XS,YS]at c;rw[XS,YC,f c.2];have g:∀ks:List κ,ks.count a.1+(ks.filter λk=>decide (k∈r.map (·.1))).length=(ks.filter λk=>decide (k∈(a::r).map (·.1))).length:=λks=>by
    induction ks with
    | nil=>rfl
    | cons q t _=>
     grind
   exact g ks
 rw[(X8 λx d=>h.cn x d),b l h.nd,List.filter_eq_self.mpr λk e=>Yb4 ((h.mem k).mpr e)]
end
abbrev Kq:=Qqs×Qqs
def tupP (ps:Qqs):Yaz:=.tuple (ps.map Pt.dat)
def prD (k:Kq):Yaz:=.tuple [tupP k.1,tupP k.2]
def Mj (k:Kq):Prop:=(∀p∈k.1,p.ok)/\∀p∈k.2,p.ok
theorem vG:∀ps:Qqs,kF (ps.map Pt.dat)=true
 | []=>rfl
 | p::r=>by
  rw[XS,kF,vG r];cases p <;> rfl
theorem DV (ps:Qqs):Z3 (ps.map Pt.dat)<=1:=bJ _ λd hd=>by
 obtain⟨p,_,rfl⟩:=XE.mp hd;cases p <;> exact XD _
theorem Qj {p:Pt} (h:p.ok):p.dat.canLay0=true:=by
 cases p with
 | word w=>simp[Pt.dat,PyData.canLay0,Z4,h.2];decide +kernel
 | hole k=>
  have:∀k<3,(Pt.hole k).dat.canLay0=true:=by decide +kernel
  exact this k h
theorem xW:∀{ps:Qqs},(∀p∈ps,p.ok)->Z4 (ps.map Pt.dat)=true
 | [],_=>rfl
 | p::r,h=>by
  rw[XS,Z4,Qj (h p (.head _)),xW λq hq=>h q (.tail _ hq)];rfl
theorem Eb {ps:Qqs} (hp:∀p∈ps,p.ok) (hq:∀p∈qs,p.ok):Z7 (tupP ps) (tupP qs)=decide (ps=qs):=by
 rw[<-n6 hp hq];rfl
def nY:kq Kq where
 enc:=prD
 ok:=Mj
 td:=λk=>by
  grind [prD,tupP,ql,kF,vG]
 dep:=λk=>by
  have h1:=DV k.1;have h2:=DV k.2;simp only[prD,tupP,ZT,Z3];lia
 lay:=λk h=>by
  simp only[prD,tupP,PyData.canLay0,Z4,xW h.1,xW h.2];rfl
 eqv:=λx y hx hy=>by
  have e:Z7 (prD x) (prD y)=(Z7 (tupP x.1) (tupP y.1) && Z7 (tupP x.2) (tupP y.2)):=by
   simp only[prD,Z7,Yak,Bool.and_true]
  rw[e,Eb hx.1 hy.1,Eb hx.2 hy.2,Yc,Yd,decide_eq_true_eq,decide_eq_true_eq,decide_eq_true_eq];lia
def pkD (k:Kq):Yaz:=.tuple [gJ k.1,gJ k.2]
abbrev Ui:Sh:=.bE (.bE .int p7) .lH
theorem SR (k:Kq):(Sh.bE (.bE .int p7) Ui).has (pkD k):=⟨_,_,rfl,mn k.1,_,_,rfl,mn k.2,rfl⟩
theorem Qs (k:Kq):(pkD k).depth<=100:=by
 have h:∀a:Qqs,(gJ a).depth<=10:=λa=>by
  have h:Z3 (a.map Pt.key)<=5:=bJ _ λd b=>by
   obtain⟨c,_,rfl⟩:=XE.mp b;exact EV c
  grind [gJ,ZT,Z3]
 grind [pkD,ZT,Z3]
def mvD (m:Kq×Nat):Yaz:=.tuple [aD m.1.1,aD m.1.2,.int (m.2:Int)]
def Qt {κ:Type} [DecidableEq κ] (ks:List κ) (k:κ):Nat:=ks.count k
structure qu (ks:List Kq) (l:List (Kq×Nat)):Prop where
 nd:(l.map (·.1)).Nodup
 cn:∀x∈l,x.2=Qt ks x.1
 mem:∀k,k∈l.map (·.1)↔k∈ks
 ord:l.Pairwise λa b=>ltv (pkD b.1) (pkD a.1)=false
theorem M9 {l:List (κ×Nat)} (h:(l.map (·.1)).Nodup):l.Nodup:=by
 induction l with
 | nil=>exact YZ
 | cons a r ih=>
  simp_all
theorem MI [DecidableEq κ] {f:κ->κ} (t:∀a,f (f a)=a) {ks c:List κ}{l l':List (κ×Nat)} (q:c = ks.map f) (v:(l.map (·.1)).Nodup) (w:∀x∈l,x.2=ks.count x.1) (g:∀k,k∈l.map (·.1)↔k∈ks)
  (d:(l'.map (·.1)).Nodup) (o:∀x∈l',x.2=c.count x.1) (j:∀k,k∈l'.map (·.1)↔k∈c):(l.map λx=>(f x.1,x.2)).Perm l':=by
 have m:∀a b,f a=f b->a=b:=λa b e=>by grind
 have u:∀k,(ks.map f).count (f k)=ks.count k:=λk=>by
  induction ks with
  | nil=>rfl
  | cons a r _=>
   have i:∀r:List κ,(r.map f).count (f k)=r.count k:=λr=>by
    induction r with
    | nil=>rfl
    | cons a r _=>
     grind
   exact i (a::r)
 have p:(l.map λx=>(f x.1,x.2)).Nodup:=by
  grind
 refine(ZD p (M9 d)).mpr λy=>?_;constructor
 ·intro h;obtain⟨x,n,rfl⟩:=XE.mp h;obtain⟨z,_,e⟩:=XE.mp ((j _).mpr (by rw[q];exact XE.mpr ⟨x.1,(g x.1).mp (XE.mpr ⟨x,n,rfl⟩),rfl⟩))
  grind
 ·intro h;have s:=(j y.1).mp (XE.mpr ⟨y,h,rfl⟩)
  grind
theorem qu.turned {ks:List Kq}{l l':List (Kq×Nat)} (h:qu ks l) (h':qu (ks.map Prod.swap) l'):(l.map λx=>(x.1.swap,x.2)).Perm l':=MI (f:=Prod.swap) (λa=>by cases a;rfl) rfl h.nd h.cn h.mem h'.nd h'.cn h'.mem
theorem qu.sum {ks:List Kq}{l:List (Kq×Nat)} (h:qu ks l):(l.map (·.2)).sum=ks.length:=by
 have e:qE (l.map λx=>(x.1,0,x.2)) ks:=⟨by rw[Yg];exact h.nd,λx b=>by
  obtain⟨y,a,rfl⟩:=XE.mp b;exact h.cn y a,λk=>by rw[Yg];exact h.mem k⟩
 have:=e.sum
 rwa [Yg]at this
def m0:Kq×Yau×Nat:=(([],[]),0,0)
def Ff (l:List (Kq×Yau×Nat)) (p:List Nat):List (Kq×Yau×Nat):=p.map λi=>l.getD i m0
theorem Gh {l:List (Kq×Yau×Nat)}{p:List Nat} (a:p.Perm (Z6 l.length)):(Ff l p).Perm l:=by
 refine(a.map _).trans ?_;rw[show(Z6 l.length).map (λi=>l.getD i m0)=l from ?_];refine ZN (by simp) λi _ _=>?_
 simp_all
theorem KR {l:List (Kq×Yau×Nat)}{p:List Nat} (a:p.Perm (Z6 l.length)):picked ((hoN l).map λkv=>V.ref kv.2.1) p=(Ff l p).map λx=>V.ref x.2.1:=by
 unfold picked Ff
 grind [Yg,X8,List.getD,m0,Yl,hoN,XM,XJ]
theorem J7 {l:List (Kq×Yau×Nat)}{p:List Nat} (c:p.Perm (Z6 l.length)) (h:eW (l.map λx=>pkD x.1) p):(Ff l p).Pairwise λa b=>ltv (pkD b.1) (pkD a.1)=false:=by
 unfold eW at h;unfold Ff;rw[Yu]at h ⊢;refine h.imp_of_mem λ{i j} _ _ q=>?_
 grind
theorem Uu {l m:List (Kq×Yau×Nat)}{ks:List Kq} (h:qE l ks) (c:m.Perm l) (f:m.Pairwise λa b=>ltv (pkD b.1) (pkD a.1)=false):qu ks (m.map λx=>(x.1,x.2.2)):=by
 have e:(m.map λx=>(x.1,x.2.2)).map (·.1)=m.map (·.1):=by simp
 refine⟨?_,λx g=>?_,λk=>?_,Yu.mpr f⟩
 ·rw[e];exact(c.map (·.1)).nodup_iff.mpr h.nd
 ·obtain⟨y,d,rfl⟩:=XE.mp g;exact h.cn y (c.mem_iff.mp d)
 ·rw[e,(c.map (·.1)).mem_iff]
  exact h.mem k
structure Xb (ws:Qqv) (m:List (Str×Nat)):Prop where
 nd:(m.map (·.1)).Nodup
 mem:∀y,y∈m.map (·.1)↔y∈ws
 cnt:∀x∈m,x.2=ws.count x.1
 ord:(m.map λx=>wkD x.1).Pairwise λa b=>ltv b a=false
def Bp:Option Pt->Bool
 | some (.hole _)=>true
 | _=>false
def hPl (p:Qqs) (i:Nat):List Nat:=(Z6 i).filter λn=>Bp p[n]?
theorem nJ (p:Qqs) (i:Nat):hPl p (i+1)=hPl p i++if Bp p[i]? = true then[i]else[]:=by
 unfold hPl;rw[Zk,Yq,YM,List.filter_nil]
theorem qP (p:Qqs) (i:Nat):(hPl p i).length<=i:=by
 have:=Yt (λn=>Bp p[n]?) (Z6 i)
 rwa [YV]at this
def hwD (x:Str×Nat):Yaz:=.tuple [.str x.1,.int (x.2:Nat)]
theorem nR.unique {bs fs:Qqr}{o o':Option Qqs} (h:nR bs fs z o) (h':nR bs fs z o'):o=o':=by
 rcases h with⟨p,rfl,c⟩ | ⟨g,f⟩
 ·rcases h' with⟨q,rfl,a⟩ | ⟨d,_⟩
  ·rw[mK c a λ_=>Iff.rfl]
  ·have:=c.1;rw[d]at this;cases this
 ·rcases h' with⟨q,rfl,a⟩ | ⟨_,b⟩
  ·have:=a.1;rw[g]at this;cases this
  ·rcases f with⟨e,rfl⟩ | ⟨p,rfl,c⟩
   ·rcases b with⟨_,rfl⟩ | ⟨q,rfl,a⟩
    ·rfl
    ·have:=a.1;rw[e]at this;cases this
   ·rcases b with⟨e,rfl⟩ | ⟨q,rfl,a⟩
    ·have:=c.1;rw[e]at this;cases this
    ·rw[mK c a λ_=>Iff.rfl]
open Classical in
noncomputable def WJ (bs fs:Qqr) (z:Str):Option Qqs:=if h:∃o,nR bs fs z o then h.choose else none
def pwO (o:Bool):Nat:=if o then 1 else 0
def pxO (o:Bool):Nat:=if o then 0 else 1
section
variable {o:Bool}{R:List (Str×Str)}{W:Qqv}{s:Int}
theorem q3 (h:q<3) (o:Bool):q=pwO o\/q=pxO o\/q=2:=by cases o <;> (show q=_\/q=_\/q=2;simp[pwO,pxO];lia)
end
theorem K9 (x:Str):reprQuote x<200:=by
 unfold reprQuote
 split <;> decide
theorem KQ (h:Sgs x):∀c∈pts (.str x),c<200:=λc a=>by
 rw[qT]at a;have i:=K9 x;rcases XQ.mp a with e | a
 ·rwa [e]
 rcases XU.mp a with a | a
 ·obtain⟨b,f,a⟩:=YA.mp a;have d:=h b f;have g:=OK d;rw[kU d]at a
  split at a
  ·rcases XQ.mp a with e | a
   ·rw[e];decide
   ·rw[XR.mp a];lia
  ·rw[XR.mp a];lia
 ·rwa [XR.mp a]
theorem Jq:∀{l:List (List Nat)},(∀t∈l,∀c∈t,c<200)->∀c∈jn l,c<200
 | [],_,c,hc=>by cases hc
 | [t],h,c,hc=>h t (XC ..) c hc
 | t::u::r,h,c,hc=>by
  rcases XU.mp (show c∈t++44::32::jn (u::r)from hc)with hc | hc
  ·exact h t (XC ..) c hc
  rcases XQ.mp hc with e | hc
  ·rw[e];decide
  rcases XQ.mp hc with e | hc
  ·rw[e];decide
  exact Jq (λt a=>h t (XF _ a)) c hc
theorem DS {a b:Str} (g:Sgs a) (f:Sgs b):∀c∈pts (.tuple [.str a,.str b]),c<200:=λc d=>by
 rw[iO]at d;rcases XQ.mp d with e | d
 ·rw[e];decide
 rcases XU.mp d with d | d
 ·exact KQ g c d
 rcases XQ.mp d with e | d
 ·rw[e];decide
 rcases XQ.mp d with e | d
 ·rw[e];decide
 rcases XU.mp d with d | d
 ·exact KQ f c d
 ·rw[XR.mp d];decide
theorem HL:∀k,k<3->Sgs (cA k):=λk hk=>by
 have:k=0\/k=1\/k=2:=by lia
 rcases this with rfl | rfl | rfl <;> (unfold Sgs;decide +kernel)
theorem Ng {p:Pt} (h:PtW p):∀c∈pts p.dat,c<200:=by
 cases p with
 | word w=>exact DS eH.1 (xZ h.1)
 | hole k=>exact DS eH.2.1 (HL k h)
theorem o7 {ps:Qqs} (h:PW ps):∀c∈pts (aD ps),c<200:=λc a=>by
 unfold aD at a;rw[mz]at a;rcases XQ.mp a with e | a
 ·rw[e];decide
 rcases XU.mp a with a | a
 ·refine Jq (λt ht=>?_) c a;obtain⟨d,b,rfl⟩:=XE.mp ht;obtain⟨p,f,rfl⟩:=XE.mp b;exact Ng (h p f)
 ·rw[XR.mp a];decide
theorem G0 {ps:Qqs} (h:PW ps):Z2 (gB (aD ps))=true:=by
 show(aD ps).shown.cps.all (λc=>decide (c<0x110000))=true;rw[<-Array.all_toList,Ye];intro c a;have:=o7 h c a;exact Yb4 (by lia)
theorem gq {ps:Qqs} (h:PW ps) (a:ps.length<=12):Ef (aD ps):=by
 have s:=vg [ps];have c:(aD ps).showable=true:=by
  have:=s.1;unfold v3 at this;simp only[XS,YU,PyData.showable,Yar,Bool.and_true]at this;exact this
 have b:(aD ps).hasDict=false:=by
  have:=s.2;unfold v3 at this;simp only[XS,YU,PyData.hasDict,PyData.hasDictAll,Zx]at this;exact this
 refine⟨c,b,XG (bY ps) (by decide),λ_=>?_⟩;have e:(aD ps).shown.length=(pts (aD ps)).length:=by unfold pts;simp[Str.length]
 rw[e];exact XG (xP h a) (by decide)
end LG
namespace LG
section
open PySem PySem.Spec PyProof.Rows L2
open PySem.Builtin PySem.Builtin.Str
theorem LI (ts:Qqv):(tupleText ts).length<=piled ts+4:=by
 unfold tupleText;rw[strLen_append,strLen_append];have a:(WU "(").length=1:=rfl;have b:(((if ts.length == 1 then ",)" else ")" : String):Str)).length<=2:=by split <;> decide
 by_cases h:ts=[]
 ·subst h;have:(Ya9 ", " []).length=0:=rfl;lia
 ·grind [join_length_add]
end
open PySem L2
section
variable {W:Hp}{g P c:Yau}{v:eD}{o:HO}
def uI (H:Hp) (g pa tb P:Yau):Hp:=wo g (wo pa (wo tb (wo P H)))
structure Kept (W H:Hp) (g pa tb P:Yau):Prop where
 s:ab W H
 hg:W g=none
 hpa:W pa=none
 htb:W tb=none
 hP:W P=none
end
section
variable {v v':StV}{s:Int}
theorem StV.Ok.pws (h:v.Ok s l):mw (v.bs++v.fs):=λp hp=>(XU.mp hp).elim (h.hnd p) (h.gth.ok p)
theorem mw.pok (h:mw pss) {ps:Qqs} (hm:ps∈pss):POk ps:=⟨XG (h ps hm).2.2 (by decide),λp hp=>((h ps hm).1 p hp).okP.1⟩
theorem StV.Ok.obs (h:v.Ok s l):∃ob:Qqr,v.os=ob.map some/\∀ps∈ob,ps∈v.bs++v.fs:=by
 have a:∀o∈v.os,∃p,o=some p/\p∈v.bs++v.fs:=λo b=>by
  obtain⟨i,c,e⟩:=Ze.mp b;obtain⟨p,_,_,_⟩:=h.O5 (XJ (by rwa [<-h.len])) (XJ c)
  grind
 generalize v.os=os at a
 induction os with
 | nil=>exact⟨[],rfl,λ_ h=>by cases h⟩
 | cons o os j=>
  obtain⟨p,rfl,f⟩:=a o (XC ..);obtain⟨ob,e,d⟩:=j λo b=>a o (XF _ b);exact⟨p::ob,by rw[e];rfl,λq g=>(XQ.mp g).elim (λz=>z ▸ f) (d q)⟩
theorem xO {bs fs:Qqr}{b os':List (Option Qqs)} (h:uo bs fs zs b) (h':uo bs fs zs os'):b=os':=by
 refine ZN (h.1.trans h'.1.symm) λi c d=>?_;have a:i<zs.length:=by rwa [<-h.1]
 exact nR.unique (h.2 i _ _ (XJ a) (XJ c)) (h'.2 i _ _ (XJ a) (XJ d))
theorem StV.Ok.unique (h:v.Ok s l) (h':v'.Ok s l) (a:v.rs=v'.rs) (d:v.bs=v'.bs):v=v':=by
 obtain⟨_,_,_,b⟩:=v;obtain⟨_,_,_,os'⟩:=v';subst a d;have e:=h.gth.unique h'.gth;subst e;have c:b=os':=xO h.fls h'.fls;rw[c]
end
theorem E9:∀n:Nat,n<64->(PyData.int (n:Int)).showable=true/\(PyData.int (n:Int)).hasDict=false/\(PyData.int (n:Int)).shown.length<=10:=by decide +kernel
theorem zH {p q:Qqs} (f:PW p) (d:p.length<=12) (g:PW q) (h:q.length<=12) (i:n<64):Ef (.tuple [aD p,aD q,.int (n:Int)]):=by
 have c:=gq f d;have b:=gq g h;obtain⟨j,_,_⟩:=E9 n i;have e:∀a:Qqs,(aD a).shown.length=(pts (aD a)).length:=λa=>by rfl
 have k:=xP f d;have m:=xP g h;have d1:=bY p;have d2:=bY q;refine⟨by simp only[PyData.showable,Yar,c.NF,b.NF,Bool.and_true,YY];first | exact j | rfl,by simp only[PyData.hasDict,PyData.hasDictAll,c.nod,b.nod,Zx,Bool.false_or],by simp only[ZT,Z3];lia,λ_=>?_⟩;have t:=LI (PyData.shownAll [aD p,aD q,.int (n:Int)]);have l:200000<=Yb0:=by decide
 rw[PyData.shown];simp only[PyData.shownAll]at t ⊢;rw[piled_cons,piled_cons,piled_cons,e,e]at t;have:piled []=0:=rfl;lia
theorem L9 (a b c:Yaz):pts (.tuple [a,b,c])=40::(jn [pts a,pts b,pts c]++[41]):=by
 have d:(("(" : Str)).cps.toList=[40]:=by decide +kernel
 have e:(((if ([a,b,c].length == 1)=true then ",)" else ")" : String)):Str).cps.toList=[41]:=by
  rfl
 unfold pts;rw[PyData.shown_tuple];simp only[Str.cps_append,Yx,d,e,(yH [a,b,c]),Yn,YB,Za];rfl
theorem FE:∀n:Nat,n<64->∀c∈Uc n,c<200:=by decide +kernel
theorem J0 {p q:Qqs} (d:PW p) (f:PW q) (b:n<64):Z2 (gB (.tuple [aD p,aD q,.int (n:Int)]))=true:=by
 show(PyData.shown (.tuple [aD p,aD q,.int (n:Int)])).cps.all (λc=>decide (c<0x110000))=true;rw[<-Array.all_toList,Ye];intro c a;have a:c∈pts (.tuple [aD p,aD q,.int (n:Int)]):=a;rw[L9]at a;have:c<200:=by
  rcases XQ.mp a with e | a
  ·rw[e];decide
  rcases XU.mp a with a | a
  ·refine Jq (λt ht=>?_) c a;rcases XQ.mp ht with h | ht
   ·rw[h];exact o7 d
   rcases XQ.mp ht with h | ht
   ·rw[h];exact o7 f
   ·rw[XR.mp ht,NG];exact FE n b
  ·simp_all
 lia
theorem AE {α β:Type}:∀(a:List α) (b:List β),(a.zip b).map Prod.swap=b.zip a
 | [],[]=>rfl
 | [],_::_=>rfl
 | _::_,[]=>rfl
 | x::a,y::b=>by rw[YN,YN,XS,AE a b];rfl
theorem JC {b a:Qqr}{l c:List (Kq×Nat)} (h:qu (b.zip a) l) (h':qu (a.zip b) c):(l.map λx=>gB (.tuple [aD x.1.2,aD x.1.1,.int (x.2:Int)])).Perm (c.map λx=>gB (mvD x)):=by
 rw[<-AE b a]at h';have:=(h.turned h').map λx=>gB (mvD x)
 rwa [Yg]at this
theorem ED {a:List α}{b:List β}{x:α×β} (h:x∈a.zip b):x.1∈a/\x.2∈b:=Zl (by cases x;exact h)
structure Kp (P d g pa tb:Yau) (Bk H:Hp):Prop where
 sB:ab Bk H
 kd:Bk d=none
 kg:Bk g=none
 kp:Bk pa=none
 kt:Bk tb=none
 kP:Bk P=none
section
variable {P g:Yau}{Bk:Hp}
end
abbrev Wt:=V×(Str ⊕ (V×Qqs))
def lnO:Wt->Option (Int×Str)
 | (_,.inl z)=>some (7,z)
 | _=>none
def hdO:Wt->Option Qqs
 | (_,.inr q)=>some q.2
 | _=>none
theorem KA {l m:Qqr}{p:Qqs} (h:m.Perm (l++[p])) (b:p∉l):(m.filter λq=>decide (q≠p)).Perm l:=by
 refine(h.filter _).trans ?_;rw[Yq,show([p].filter λq=>decide (q≠p))=[]from Y2 (λe=>Yb6 e rfl),Ym,List.filter_eq_self.mpr λa _=>Yb4 (p:=a≠p) λe=>b (by rwa [<-e])]
structure Lp (v:eD) (Z:List Wt) (s l:Int) (i p:Nat):Prop where
 vs:v.s=s
 vl:v.l=l
 rs:v.cur.rs=(Z.take i).filterMap lnO
 bs:v.cur.bs.Perm ((Z.take i).filterMap hdO)
 ko:ow v.cur.bs
 pl:v.past.length<=p
section
variable {P g c:Yau}
end
def hoD (m:List (Str×Nat)):Yaz:=.list (m.map hwD)
def cnD (q:Qqs×Nat):Yaz:=.tuple [aD q.1,.int (q.2:Nat)]
theorem wI {K:Vzz}{H:Hp}:∀{xs:Qqt}{ds:Qqy} (n:Nat),ay K H xs ds->ay K H (xs.drop n) (ds.drop n)
 | _,_,0,h=>by simpa using h
 | _,_,n+1,.nil=>by simpa using ay.nil
 | _,_,n+1,.cons _ t=>by simpa using wI n t
theorem P2 {x:V}{q:Qqs×Nat} (h:Den K H x (cnD q)):∃b y,x = .ref b/\SqT K H b [y,.int (q.2:Nat)]/\Den K H y (aD q.1):=by
 cases h with
 | tup d c=>
  cases c with
  | cons a t=>
   cases t with
   | cons b t=>
    cases t;cases b;exact⟨_,_,rfl,d,a⟩
theorem NT {bs bs':Qqr}{zs':Qqv} (hb:bs.Perm bs') (hz:∀z,z∈zs↔z∈zs'):∀z,z∈eY bs zs↔z∈eY bs' zs':=λz=>by
 unfold eY;rw[X7,X7,hz,l9,l9,z6 hb]
theorem P9 {bs:Qqr} (hz:∀z∈zs,∃ws,fU 12 z ws):∀z∈eY bs zs,∃ws,fU 12 z ws:=λz h=>hz z (X7.mp h).1
theorem O9 {bs:Qqr} (h:zs[i]? = some z):eY bs (zs.take (i+1))=eY bs (zs.take i)++if (bs.filter (bq z)).isEmpty then[z]else[]:=by
 unfold eY;rw[XW,h,Yq];show _++List.filter _ [z]=_;rw[YM];rfl
section
variable {v:StV}{s:Int}
theorem Nl (h:v.Ok s l) {r:Int×Str}{p:Qqs} (f:v.rs[i]? = some r) (d:v.os[i]? = some (some p)):p∈v.bs↔r.2∉eY v.bs v.zZ:=by
 have c:v.zZ[i]? = some r.2:=by unfold StV.zZ;rw[XM,f];rfl
 have e:r.2∈eY v.bs v.zZ↔v.bs.filter (bq r.2)=[]:=by
  unfold eY;rw[X7,Zw];exact⟨λq=>q.2,λq=>⟨(XB c),q⟩⟩
 obtain⟨_,k,_,j⟩:=h.O5 f d;cases k;rw[e];rcases h.fls.2 i _ _ c d with⟨q,g,a⟩ | ⟨b,_⟩
 ·cases g;exact⟨λ_ m=>(by rw[m]at a;cases a.1),λ_=>(X7.mp a.1).1⟩
 ·exact⟨λn=>absurd (X7.mpr ⟨n,j⟩) (by rw[b];exact Yi),λq=>absurd b q⟩
theorem DN (h:v.Ok s l) {p:Qqs} (hn:∀z∈v.zZ,bq z p=false):∀x∈v.rf,x.2≠some p:=λx hx e=>by
 obtain⟨h1,q,_,e1,e2⟩:=h.rfm x hx;rw[e1]at e;cases e;rw[hn _ (XE.mpr ⟨_,h1,rfl⟩)]at e2;cases e2
theorem J4 (h:v.Ok s l) {p:Qqs} (hn:∀z∈v.zZ,bq z p=false):cnt v lo hi p=0:=by
 unfold cnt;rw[List.countP_eq_zero];exactλx hx e=>DN h hn x (X7.mp hx).1 (Yb6 e)
end
theorem JR {p q:Qqs} (b:PW p) (c:PW q) (h:gB (aD p)=gB (aD q)):p=q:=by
 have e:=congrArg (λz:Str=>z.cps.toList) h;exact List.head_eq_of_cons_eq (Ae (pss:=[p]) (qss:=[q]) (λx a=>by rwa [XR.mp a]) (λx a=>by rwa [XR.mp a]) (by rw[XS,XS,((Jx IS Ht _ _ (vK b) (vK c) [] [] (by rwa [Ym,Ym])).1)]))
theorem NZ (x:Str) (l:Qqv):inV (.str x) (l.map V.str)=decide (x∈l):=by
 unfold inV;rw[List.any_map,Yc,Zg,decide_eq_true_eq];constructor
 ·rintro⟨y,_,a⟩;have:y=x:=by
   simpa[eqV]using a
  rwa [<-this]
 ·intro h;refine⟨x,h,?_⟩;simp[eqV]
theorem Ki (n:Nat):(PyData.list (UF n (.list []))).depth<=100:=by
 have:Z3 (UF n (.list []))<=90:=bJ _ λd a=>by
  rw[List.eq_of_mem_replicate a];decide
 simp only[ZT];lia
theorem GR (n:Nat):Z7 (.list (UF n (.list []))) (.list (UF n (.list [])))=true:=by
 induction n with
 | zero=>rfl
 | succ n ih=>
  rw[List.replicate_succ];exact ih
theorem tU (ds:Qqy):Z7 (.list ds) (.list [])=ds.isEmpty:=by
 cases ds with
 | nil=>rfl
 | cons p r=>rfl
theorem xf {d:Yaz} (h:Den K H v d):Z7 d d=true:=PySem.SeqAt.eqv_refl d h.lay
theorem uf (l:Qqv):(PyData.list (l.map PyData.str)).depth<=100:=by
 have:Z3 (l.map PyData.str)<=0:=bJ _ λd a=>by
  obtain⟨z,_,rfl⟩:=XE.mp a;exact XT _
 simp only[ZT];lia
abbrev En:=Qqv×Qqr
abbrev VL:=List (Int×Str)×Qqr
def Still (ms:Qqx) (H H':Hp):Prop:=∀c o,c∉ms->H c=some o->H' c=some o
def outs (ms:Qqx) (H:Hp):Hp:=λc=>if c∈ms then none else H c
structure qx (W H:Hp) (ms:Qqx):Prop where
 s:ab W H
 o:∀c∈ms,W c=none
section
variable {W:Hp}{ms ms':Qqx}{c:Yau}{o:HO}
theorem Kw (h:outs ms H c=some o):c∉ms/\H c=some o:=by
 unfold outs at h
 split at h
 ·cases h
 ·rename_i n;exact⟨n,h⟩
theorem qL (n:c∉ms):outs ms H c=H c:=by unfold outs;rw[Yb8 n]
theorem Nj (h:c∈ms):outs ms H c=none:=by unfold outs;rw[Yb7 h]
theorem Gy:qx (outs ms H) H ms:=⟨λc o h=>(Kw h).2,λc h=>Nj h⟩
theorem qx.ne (k:qx W H ms) (h:W c=some o):c∉ms:=λz=>by rw[k.o c z]at h;cases h
theorem qx.on (k:qx W H ms):ab W (outs ms H):=λc o h=>by rw[qL (k.ne h)];exact k.s _ _ h
theorem qx.N9 (k:qx W H ms) (s:Still ms H H'):qx W H' ms:=⟨λc o h=>s c o (k.ne h) (k.s _ _ h),k.o⟩
theorem qx.to (k:qx W H ms) (h:∀c∈ms',W c=none):qx W H ms':=⟨k.s,h⟩
theorem Still.of_same (s:ab H H'):Still ms H H':=λc o _ e=>s c o e
theorem Still.mono (a:Still ms H H') (h:∀c∈ms,c∈ms'):Still ms' H H':=λc o n e=>a c o (λz=>n (h c z)) e
end
section
variable {W:Hp}{x:V}{e:En}{es:List En}
end
structure WI (e:En) (h:VL) (m:Int:=0):Prop where
 rs:h.1=e.1.map λz=>(m,z)
 pm:h.2.Perm e.2
 od:ow h.2
 nd:e.2.Nodup
 ll:e.1.length<=41
 hl:e.2.length<=12
 ok:Wi h
section
variable {g F:Yau}{v:eD}
end
structure I22 (K:Vzz) (CL CS:Yau) (fs:Qqx) (W B C H:Hp) (g pa tb h pb tc:Yau) (v u:eD):Prop where
 kp:qx W H (fs++[g,pa,tb,h,pb,tc])
 mu:∀c∈fs,∃o,H c=some o/\lz o
 lv:bi K CL CS B H g pa tb v
 lu:bi K CL CS C H h pb tc u
 bv:∀c∈fs++[h,pb,tc],B c=none
 cu:∀c∈fs++[g,pa,tb],C c=none
 dj:∀c∈fs,c∉[g,pa,tb,h,pb,tc]
 nn:∀c∈[g,pa,tb],c∉[h,pb,tc]
section
variable {P:Yau}{fs:Qqx}{W C:Hp}{g h pb tc:Yau}{v u v':eD}{o:HO}
theorem I22.swap (i:I22 K CL CS fs W B C H g pa tb h pb tc v u):I22 K CL CS fs W C B H h pb tc g pa tb u v:=by
 refine⟨i.kp.to λc a=>i.kp.o c ?_,i.mu,i.lu,i.lv,i.cu,i.bv,λc a=>λz=>i.dj c a ?_,λc a z=>i.nn c z a⟩
 ·grind
 ·grind
theorem bi.ats (l:bi K CL CS B H g pa tb v):(∃C dx fs,H g=some (.ins C dx fs))/\(∃xs,H pa=some (.lst xs))/\(∃xs,H tb=some (.lst xs))/\ab B H:=by
 obtain⟨dx,t,_,_,pv,_,_,_,_,_,_⟩:=l
 simp_all
theorem iE {ms:Qqx} (l:bi K CL CS B H g pa tb v) (s:Still ms H H') (j:∀c∈ms,B c=none) (h:g∉ms) (n2:pa∉ms) (f:tb∉ms):bi K CL CS B H' g pa tb v:=by
 obtain⟨⟨_,_,_,a⟩,⟨_,b⟩,⟨_,d⟩,i⟩:=l.ats;exact l.to (λc o e=>s c o (λz=>by simp_all) (i _ _ e)) ((s _ _ h a).trans a.symm) ((s _ _ n2 b).trans b.symm) ((s _ _ f d).trans d.symm)
theorem I22.move {ms:Qqx} (i:I22 K CL CS fs W B C H g pa tb h pb tc v u) (s:Still ms H H') (a:∀c∈ms,c∈fs) (mu:∀c∈ms,∃o,H' c=some o/\lz o):I22 K CL CS fs W B C H' g pa tb h pb tc v u:=by
 have n:∀c∈[g,pa,tb,h,pb,tc],c∉ms:=λc b z=>i.dj c (a c z) b;refine⟨i.kp.N9 (s.mono λc z=>Ys _ (a c z)),λc b=>?_,iE i.lv s (λc z=>i.bv c (Ys _ (a c z))) (n _ (by simp)) (n _ (by simp)) (n _ (by simp)),iE i.lu s (λc z=>i.cu c (Ys _ (a c z))) (n _ (by simp)) (n _ (by simp)) (n _ (by simp)),i.bv,i.cu,i.dj,i.nn⟩;by_cases z:c∈ms
 ·exact mu c z
 ·obtain⟨o,e,m⟩:=i.mu c b;exact⟨o,s _ _ z e,m⟩
theorem I22.same (i:I22 K CL CS fs W B C H g pa tb h pb tc v u) (s:ab H H'):I22 K CL CS fs W B C H' g pa tb h pb tc v u:=i.move (ms:=[]) (.of_same s) (λc z=>by cases z) (λc z=>by cases z)
theorem Jf (s:ab (wo d H) H'):Still [d] H H':=λc o n e=>s _ _ (by rw[aq λz=>n (by simp_all)];exact e)
theorem I22.wr (i:I22 K CL CS fs W B C H g pa tb h pb tc v u) (a:d∈fs) (s:ab (wo d H) H') (e:H' d=some o) (m:lz o):I22 K CL CS fs W B C H' g pa tb h pb tc v u:=
 i.move (Jf s) (λc z=>by simp_all) λc z=>by simp_all
theorem I22.fr (i:I22 K CL CS fs W B C H g pa tb h pb tc v u) (a:H d=none):W d=none/\B d=none/\C d=none/\d∉fs/\d∉[g,pa,tb,h,pb,tc]:=by
 obtain⟨⟨_,_,_,_⟩,⟨_,_⟩,⟨_,_⟩,c⟩:=i.lv.ats;obtain⟨⟨_,_,_,_⟩,⟨_,_⟩,⟨_,_⟩,b⟩:=i.lu.ats;refine⟨i.kp.s.free a,c.free a,b.free a,λz=>?_,λz=>?_⟩
 ·obtain⟨o,e,_⟩:=i.mu d z;rw[a]at e;cases e
 ·grind
theorem I22.add (i:I22 K CL CS fs W B C H g pa tb h pb tc v u) (f:H d=none) (s:ab H H') (e:H' d=some o) (m:lz o):I22 K CL CS (d::fs) W B C H' g pa tb h pb tc v u:=by
 obtain⟨l,n,b,_,k⟩:=i.fr f;have j:=i.same s;refine⟨j.kp.to λc a=>?_,λc a=>?_,j.lv,j.lu,λc a=>?_,λc a=>?_,λc a=>?_,j.nn⟩
 all_goals rcases XQ.mp a with z | a
 all_goals try subst z
 ·exact l
 ·exact j.kp.o c a
 ·exact⟨o,e,m⟩
 ·exact j.mu c a
 ·exact n
 ·exact j.bv c a
 ·exact b
 ·exact j.cu c a
 ·exact k
 ·exact j.dj c a
theorem I22.sub {fs':Qqx} (i:I22 K CL CS fs W B C H g pa tb h pb tc v u) (b:∀c∈fs',c∈fs):I22 K CL CS fs' W B C H g pa tb h pb tc v u:=by
 have m:∀{l:Qqx},∀c∈fs'++l,c∈fs++l:=λ{l} c a=>XU.mpr ((XU.mp a).imp (b c) id);exact⟨i.kp.to λc a=>i.kp.o c (m c a),λc a=>i.mu c (b c a),i.lv,i.lu,λc a=>i.bv c (m c a),λc a=>i.cu c (m c a),λc a=>i.dj c (b c a),i.nn⟩
theorem I22.hold (i:I22 K CL CS fs W B C H g pa tb h pb tc v u):I22 K CL CS fs (outs (fs++[g,pa,tb,h,pb,tc]) H) B C H g pa tb h pb tc v u/\ab W (outs (fs++[g,pa,tb,h,pb,tc]) H):=⟨{ i with kp:=Gy },i.kp.on⟩
theorem I22.Gi (i:I22 K CL CS fs W B C H g pa tb h pb tc v u) (x:P∈fs) (s:ab (wo g (wo pa (wo P H))) H') (e:H' P=some o) (m:lz o) (D:H tb' = none) (f:∀c o,B c=none->H c=some o->lz o->B' c=none) (l:bi K CL CS B' H' g pa tb' v'):I22 K CL CS fs W B' C H' g pa tb' h pb tc v' u:=by
 obtain⟨_,_,_,_,w⟩:=i.fr D;have j:Still [P,g,pa] H H':=λc o n e=>by
  simp only[XQ,Yi,or_false,not_or]at n;exact s _ _ (by grind [aq])
 have t:=i.dj P x;have F:=i.nn g (by simp);have G:=i.nn pa (by simp);obtain⟨⟨_,_,_,r⟩,⟨_,E⟩,⟨_,A⟩,_⟩:=i.lu.ats;simp only[XQ,Yi,or_false,not_or]at w t F G;refine⟨⟨(i.kp.N9 (j.mono λc z=>?_)).s,λc a=>?_⟩,λc a=>?_,l,iE i.lu j (λc z=>i.cu c ?_) ?_ ?_ ?_,λc a=>?_,λc a=>?_,λc a=>?_,λc a=>?_⟩
 ·grind
 ·by_cases z:c=tb'
  ·rwa [z]
  ·refine i.kp.o c ?_
   grind
 ·by_cases z:c=P
  ·rw[z];exact⟨o,e,m⟩
  ·obtain⟨q,p,k⟩:=i.mu c a;have:=i.dj c a;simp only[XQ,Yi,or_false,not_or]at this;exact⟨q,j _ _ (by simp_all) p,k⟩
 ·grind
 ·grind
 ·grind
 ·grind
 ·have b:=i.bv c a;simp only[XU,XQ,Yi,or_false]at a;rcases a with y | y | y | y
  ·obtain⟨q,p,k⟩:=i.mu c y;exact f _ _ b p k
  ·subst y;exact f _ _ b r (.inr (.inl ⟨_,_,_,rfl⟩))
  ·subst y;exact f _ _ b E (.inl ⟨_,rfl⟩)
  ·subst y;exact f _ _ b A (.inl ⟨_,rfl⟩)
 ·by_cases z:c=tb'
  ·rwa [z]
  ·refine i.cu c ?_
   grind
 ·have d:=i.dj c a
  grind
 ·grind
theorem I22.den (i:I22 K CL CS fs W B C H g pa tb h pb tc v u) (s:∀c o,(∀ys,H c≠some (.lst ys))->H c=some o->H' c=some o) {x:V}{D:Yaz} (n:Den K (lim H H') x D):Den K (outs (fs++[g,pa,tb,h,pb,tc]) H') x D:=by
 obtain⟨⟨_,_,_,d⟩,⟨_,_⟩,⟨_,_⟩,_⟩:=i.lv.ats;obtain⟨⟨_,_,_,j⟩,⟨_,_⟩,⟨_,_⟩,_⟩:=i.lu.ats;have:=mS (T:=outs (fs++[g,pa,tb,h,pb,tc]) H') (.cons n .nil) λc o _ k _ _ _=>by
  rw[qL]
  ·exact k
  intro z;have b:∀o',H c=some o' -> ¬ lz o':=λo' e m=>by
   simp_all
  simp only[XU,XQ,Yi,or_false]at z;rcases z with z | z | z | z | z | z | z
  ·obtain⟨o',l,f⟩:=i.mu c z;exact b _ l f
  ·subst z;exact b _ d (.inr (.inl ⟨_,_,_,rfl⟩))
  ·simp_all
  ·simp_all
  ·subst z;exact b _ j (.inr (.inl ⟨_,_,_,rfl⟩))
  ·simp_all
  ·simp_all
 cases this with
 | cons a _=>exact a
theorem I22.at (i:I22 K CL CS fs W B C H g pa tb h pb tc v u) (hd:H d=none) (e:H' d=some o):(outs (fs++[g,pa,tb,h,pb,tc]) H') d=some o:=by
 obtain⟨_,_,_,f4,f5⟩:=i.fr hd
 grind [qL]
theorem I22.tup (i:I22 K CL CS fs W B C H g pa tb h pb tc v u)  (e:H d=some (.tup xs)):(outs (fs++[g,pa,tb,h,pb,tc]) H) d=some (.tup xs):=by
 rw[qL]
 ·exact e
 intro z;obtain⟨⟨_,_,_,_⟩,⟨_,_⟩,⟨_,_⟩,_⟩:=i.lv.ats;obtain⟨⟨_,_,_,_⟩,⟨_,_⟩,⟨_,_⟩,_⟩:=i.lu.ats;simp only[XU,XQ,Yi,or_false]at z;rcases z with z | z | z | z | z | z | z
 ·obtain⟨o,a,m⟩:=i.mu d z;rw[e]at a;cases a;rcases m with⟨_,m⟩ | ⟨_,_,_,m⟩ | ⟨_,m⟩ <;> cases m
 all_goals subst z
 all_goals simp_all
theorem I22.bP (i:I22 K CL CS fs W B C H g pa tb h pb tc v u) (hP:P∈fs):B P=none/\C P=none:=⟨i.bv P (Ys _ hP),i.cu P (Ys _ hP)⟩
theorem I22.stays (i:I22 K CL CS fs W B C H g pa tb h pb tc v u) (a:d∈fs) (n:d≠P) (s:ab (wo g (wo pa (wo P H))) H') (e:H d=some o):H' d=some o:=by
 have q:=i.dj d a;simp only[XQ,Yi,or_false,not_or]at q;exact s _ _ (by grind [aq])
end
end LG
namespace K22
open PySem L2 LG
set_option genSizeOf false in
set_option genInjectivity false in
structure Ad where
 Nf:Yau
 M4:Yav
 CF:Yau
 Ds:Yav
 GC:Yau
 FC:Yav
 Ga:Yau
 Fy:Yav
 DC:Yau
 CC:Yav
 F6:Yau
 GS:Yav
 CW:Yau
 DH:Yav
 G7:Yau
 FD:Yav
 yv:Yau
 xt:Yav
 G3:Yau
 FT:Yav
 yF:Yau
 yf:Yav
 Aa:Yau
 zY:Yav
 QS:Yau
 QK:Yav
 jH:Yau
 jD:Yav
 uz:Yau
 uP:Yav
 Kz:Yau
 IH:Yav
 BD:Yau
 Cw:Yav
 uy:Yau
 vm:Yav
 Hr:Yau
 Fj:Yav
 F8:Yau
 Fp:Yav
 BG:Yau
 BY:Yav
 oN:Yau
 oQ:Yav
 lG:Yau
 lI:Yav
 mj:Yau
 gT:Yav
 Iq:Yau
 JX:Yav
 mh:Yau
 mf:Yav
 Cd:Yau
 Cp:Yav
 li:Yau
 lj:Yav
 yU:Yau
 Ac:Yav
 uV:Yau
 uR:Yav
 zZ:Yau
 Be:Yav
 oO:Yau
 oM:Yav
 BE:Yau
 BK:Yav
 MR:Yau
 Mq:Yav
 y8:Yau
 Bb:Yav
 Ax:Yau
 AO:Yav
 Aq:Yau
 y0:Yav
 zk:Yau
 An:Yav
 AH:Yau
 yW:Yav
 w6:Yau
 xX:Yav
 sV:Yau
 tS:Yav
 yh:Yau
 w5:Yav
 Aj:Yau
 zy:Yav
 oA:Yau
 oY:Yav
 Od:Yau
 N7:Yav
 mQ:Yau
 xJ:Yav
 r6:Yau
 By:Yav
 vW:Yau
 Gn:Yav
 Bg:Yau
 JT:Yav
 r9:Yau
 Du:Yav
 fB:Yau
 jE:Yav
 lL:Yau
 uK:Yav
 lK:Yau
 ve:Yav
 sR:Yau
 CQ:Yav
 wF:Yau
 GQ:Yav
 tZ:Yau
 Ci:Yav
 tG:Yau
 BN:Yav
 qc:Yau
 Ag:Yav
 pA:Yau
 A9:Yav
 km:Yau
 tz:Yav
 pC:Yau
 zM:Yav
 ny:Yau
 xB:Yav
 pB:Yau
 Ap:Yav
 cs:Yau
 ip:Yau
 aJ:Yau
 aF:Yau
 RO:Yau
 ap:Yau
structure Tx (K:Vzz) (mg:Str->Option Vzy) (A:Ad):Prop where
 Mv:mg "ValueError" = none
 Av:mg "all" = none
 RG:mg "any" = none
 Qa:mg "dict" = none
 pZ:mg "enumerate" = none
 d8:mg "isinstance" = none
 cM:mg "len" = none
 i4:mg "list" = none
 N5:mg "min" = none
 gf:mg "range" = none
 Ld:mg "set" = none
 fm:mg "sorted" = none
 pe:mg "str" = none
 qW:mg "tuple" = none
 wb:mg "zip" = none
 wZ:∃t,mg "MOST_WORDS" = some (.int 12 t)
 Ge:∃t,mg "FIGURES" = some (.str He t)
 qo:∃t,mg "SMALL_LETTERS" = some (.str GX t)
 yy:∃t,mg "WORD_SIGNS" = some (.str vX t)
 xV:∃t,mg "MOST_PARTS" = some (.int 12 t)
 jc:mg "HOLE_KINDS" = some (.ref A.cs)
 jm:∀H,SqT K H A.cs [.str "number",.str "name",.str "any"]
 yq:∃o,K.lookup A.cs=some o/\o.cls = .type "tuple" /\ o.dict=none
 L5:mg "PLAIN_SIEVE" = some (.ref A.ip)
 L6:∀H,SqT K H A.ip [.int 3,.int 2]
 L4:∃o,K.lookup A.ip=some o/\o.cls = .type "tuple" /\ o.dict=none
 yz:∃t,mg "MOST_LINES" = some (.int 120 t)
 sI:∃t,mg "MOST_BY_HAND" = some (.int 12 t)
 WM:bj K mg "_wall" (top 0) ["k"] A.Nf A.M4
 jZ:bj K mg "has_only" (top 13) ["text","signs"] A.CF A.Ds
 nE:bj K mg "is_word" (top 14) ["thing"] A.GC A.FC
 qQ:bj K mg "kind_of" (top 15) ["word"] A.Ga A.Fy
 words_of:bj K mg "words_of" (top 16) ["line"] A.DC A.CC
 xk:bj K mg "is_line" (top 17) ["thing"] A.F6 A.GS
 jM:bj K mg "word_key" (top 18) ["word"] A.CW A.DH
 xM:bj K mg "is_part" (top 22) ["thing"] A.G7 A.FD
 l5:bj K mg "is_pattern" (top 23) ["thing"] A.yv A.xt
 i6:bj K mg "is_hole" (top 24) ["part"] A.G3 A.FT
 lW:bj K mg "part_takes" (top 25) ["part","word"] A.yF A.yf
 oJ:bj K mg "all_taken" (top 26) ["parts","words"] A.Aa A.zY
 fits:bj K mg "fits" (top 27) ["pattern","line"] A.QS A.QK
 eA:bj K mg "kind_of_hole_around" (top 28) ["part"] A.jH A.jD
 j6:bj K mg "joined_part" (top 29) ["parts"] A.uz A.uP
 joined:bj K mg "joined" (top 30) ["patterns"] A.Kz A.IH
 m8:bj K mg "part_key" (top 31) ["part"] A.BD A.Cw
 bz:bj K mg "pattern_key" (top 32) ["pattern"] A.uy A.vm
 ordered:bj K mg "ordered" (top 33) ["patterns"] A.Hr A.Fj
 k8:bj K mg "grouped" (top 36) ["rows","keys"] A.F8 A.Fp
 gO:bj K mg "words_at" (top 37) ["group","place"] A.BG A.BY
 dZ:bj K mg "many_unlike_at" (top 38) ["group","place"] A.oN A.oQ
 fe:bj K mg "is_fit_to_part_at" (top 39) ["group","place","sieve"] A.lG A.lI
 cV:bj K mg "place_to_part_at" (top 40) ["group","sieve"] A.mj A.gT
 parted:bj K mg "parted" (top 41) ["group","sieve"] A.Iq A.JX
 fE:bj K mg "pattern_of_group" (top 42) ["group"] A.mh A.mf
 gathered:xQ K mg "gathered" (top 43) ["lines","sieve"] A.Cd A.Cp
 fu:bj K mg "looseness_of_part" (top 45) ["part"] A.li A.lj
 lh:bj K mg "looseness" (top 46) ["pattern"] A.yU A.Ac
 g7:bj K mg "falls_under" (top 47) ["line","patterns"] A.uV A.uR
 eU:bj K mg "how_often" (top 51) ["things"] A.zZ A.Be
 gU:bj K mg "words_in_order" (top 52) ["words"] A.oO A.oM
 m9:bj K mg "pair_key" (top 53) ["pair"] A.BE A.BK
 moved:bj K mg "moved" (top 54) ["ahead","behind"] A.MR A.Mq
 kL:bj K mg "_law_deck" (top 58) ["cell","turn"] A.y8 A.Bb
 aT:bj K mg "_law_pick" (top 59) ["deck","many"] A.Ax A.AO
 om:bj K mg "_law_kind" (top 60) ["word"] A.Aq A.y0
 kT:bj K mg "_law_word" (top 61) ["deck"] A.zk A.An
 kR:bj K mg "_law_line" (top 62) ["deck","most"] A.AH A.yW
 md:bj K mg "_law_lines" (top 63) ["deck","most"] A.w6 A.xX
 i8:bj K mg "_law_pattern" (top 64) ["deck","line"] A.sV A.tS
 ml:bj K mg "_law_sieve" (top 65) ["deck"] A.yh A.w5
 kZ:bj K mg "_law_told" (top 66) ["log","many"] A.Aj A.zy
 gA:bj K mg "_law_put_right" (top 67) ["log","lines","hand","sieve","pattern"] A.oA A.oY
 jk:ff K "__init__" "State.__init__" (mIn 55 0) ["self","sieve","rows","by_hand"] A.mQ A.xJ
 iz:Ct K "__init__" "Log.__init__" (mIn 56 0) ["self","sieve"] A.r6 A.By
 US:ff K "__len__" "Log.__len__" (mIn 56 1) ["self"] A.vW A.Gn
 gG:ff K "__eq__" "Log.__eq__" (mIn 56 2) ["self","other"] A.Bg A.JT
 rZ:ff K "held" "Log.held" (mIn 56 3) ["self"] A.r9 A.Du
 cQ:ff K "rows_with_falls" "Log.rows_with_falls" (mIn 56 4) ["self"] A.fB A.jE
 kE:ff K "turn_to" "Log.turn_to" (mIn 56 5) ["self","held"] A.lL A.uK
 fQ:ff K "do_deed" "Log.do_deed" (mIn 56 6) ["self","rows","by_hand"] A.lK A.ve
 jW:ff K "come" "Log.come" (mIn 56 7) ["self","moment","line"] A.sR A.CQ
 lc:ff K "put" "Log.put" (mIn 56 8) ["self","pattern"] A.wF A.GQ
 tm:ff K "take" "Log.take" (mIn 56 9) ["self","pattern"] A.tZ A.Ci
 Rf:ff K "back" "Log.back" (mIn 56 10) ["self"] A.tG A.BN
 QU:ff K "again" "Log.again" (mIn 56 11) ["self"] A.qc A.Ag
 iH:ff K "moves" "Log.moves" (mIn 56 12) ["self"] A.pA A.A9
 cg:ff K "patterns" "Log.patterns" (mIn 56 13) ["self"] A.km A.tz
 gj:ff K "under" "Log.under" (mIn 56 14) ["self","number"] A.pC A.zM
 iW:ff K "counts" "Log.counts" (mIn 56 16) ["self","low","high"] A.ny A.xB
 oV:ff K "holes" "Log.holes" (mIn 56 17) ["self","pattern"] A.pB A.Ap
 EX:mg "State" = some (.ref A.aJ)
 aU:Cls K A.aJ
 T4:ME K A.aJ
 Bj:Mk K A.aJ A.mQ
 bF:cq K A.aJ "rows"
 be:cq K A.aJ "by_hand"
 gv:cq K A.aJ "found"
 dU:cq K A.aJ "falls"
 Af:mg "Log" = some (.ref A.aF)
 aA:Cls K A.aF
 uq:ME K A.aF
 rg:NeT K A.aF
 BJ:W.kitOne K (.type "str") (.ref A.aF)=some false
 B7:Yad K A.aF (.type "str")=true
 Bu:W.kitOne K (.type "int") (.ref A.aF)=some false
 BL:Yad K A.aF (.type "int")=true
 CD:Mk K A.aF A.r6
 PR:ix K A.aF "__len__" A.vW
 fJ:ix K A.aF "__eq__" A.Bg
 zE:ix K A.aF "held" A.r9
 fq:ix K A.aF "rows_with_falls" A.fB
 tD:ix K A.aF "turn_to" A.lL
 gH:ix K A.aF "do_deed" A.lK
 ph:ix K A.aF "come" A.sR
 lY:ix K A.aF "put" A.wF
 AQ:ix K A.aF "take" A.tZ
 OC:ix K A.aF "back" A.tG
 Nx:ix K A.aF "again" A.qc
 mV:ix K A.aF "moves" A.pA
 cH:ix K A.aF "patterns" A.km
 iS:ix K A.aF "under" A.pC
 lO:ix K A.aF "counts" A.ny
 yo:ix K A.aF "holes" A.pB
 c6:cq K A.aF "sieve"
 aC:cq K A.aF "state"
 iV:cq K A.aF "ahead"
 qb:cq K A.aF "past"
 ig:cq K A.aF "taken_back"
 lam:PV K mg A.gT A.RO A.ap
section
variable {P:Yax}{A:Ad}
theorem zf:ax ["text","signs"] ["text","signs"] (ae (top 13)):=fsc
theorem kz (T:Tx K mg A):Okd T.jZ P w base 1 (AM K):=by
 refine T.jZ.fn.ok zf (λc H Q E h=>?_) (λ_ _ _ s H c Q E _ h=>?_)
 ·obtain⟨z,y,rfl,_⟩:=h;rfl
 ·obtain⟨z,y,rfl,d,k⟩:=h;refine⟨_,aj (au (gY (iF px (pv 0) aH) (iw (iF gE (fc WY PySem.F.slot_str_strip PySem.F.type_str_strip F7 (pv 0) (pa1 (pv 1))) aH)))),?_⟩;refine⟨_,rfl,rfl,_,rfl,?_⟩;have e:=Ma z y;by_cases b:z.cps.toList.isEmpty=true
  ·have a:(!decide (V.str z=V.str ""))=false:=by rw[nq,b];rfl
   rw[a,Bool.false_and]at e
   rwa [a,Yb8 XN,e]
  ·have a:(!decide (V.str z=V.str ""))=true:=by rw[nq,X5.mpr b];rfl
   rw[a,YY]at e;rw[a,Yb7 rfl];refine⟨_,rfl,rfl,_,rfl,z,y,rfl,rfl,d.s,rfl,?_⟩
   rwa [e]
theorem BO:ax ["thing"] ["thing"] (ae (top 14)):=fsc
theorem mq (T:Tx K mg A):Okd T.nE P w base 2 (BW K):=by
 refine T.nE.fn.ok BO (λa H Q E h=>?_) (λ_ _ _ s H a Q E c h=>?_)
 ·obtain⟨z,rfl,_⟩:=h;rfl
 ·obtain⟨z,rfl,b,k⟩:=h;refine⟨_,aj (au (gY (aE (r:=OL K) zJ (by rfl) T.d8 dv (ag (pv 0) (pa1 (qI (v:=.ty "str") (by rfl) T.pe HI rfl)))) (iw (aY T.jZ (kz T) c (ag (pv 0) (pa1 (fM (v:=.str vX) (by rfl) (Ya7 T.yy) ⟨_,rfl⟩))))))),?_⟩;refine⟨_,rfl,_,"str",_,true,rfl,.str z,by rfl,_,rfl,bN ?_⟩;refine⟨_,rfl,z,vX,rfl,b,?_⟩
  rwa [FZ]
theorem Dz:ax ["word"] ["word"] (ae (top 15)):=fsc
theorem su (T:Tx K mg A):Okd T.qQ P w base 2 (Cu K):=by
 refine T.qQ.fn.ok Dz (λf H Q E h=>?_) (λ_ _ _ s H f Q E d h=>?_)
 ·obtain⟨z,rfl,_⟩:=h;rfl
 ·obtain⟨z,rfl,c,k⟩:=h;refine⟨_,af (bg (b7 (aY T.jZ (kz T) d (ag (fc WY PySem.F.slot_str_removeprefix PySem.F.type_str_removeprefix LJ (pv 0) (pa1 aH)) (pa1 (fM (v:=.str He) (by rfl) (Ya7 T.Ge) ⟨_,rfl⟩))))) (aj (au aH)) aG)
   (af (bg (b7 (aY T.jZ (kz T) d (ag (pv 0) (pa1 (fM (v:=.str GX) (by rfl) (Ya7 T.qo) ⟨_,rfl⟩))))) (aj (au aH)) aG)
   (aj (au aH))),?_⟩
  refine⟨_,rfl,rfl,z,"-",rfl,rfl,c.s,_,He,rfl,XG (Gj z) c,_,rfl,?_⟩;rw[ID,zg];have e:dS z=if dY dig (bH z.cps.toList)=true then 0 else if dY low z.cps.toList=true then 1 else 2:=rfl;rw[e]at k;by_cases a:dY dig (bH z.cps.toList)=true
  ·rw[a,Yb7 rfl]at k;rw[a];exact bN k
  ·rw[Yb8 a]at k;rw[X5.mpr a];refine aX ?_;refine⟨_,rfl,z,GX,rfl,c,_,rfl,?_⟩;rw[Jk];by_cases b:dY low z.cps.toList=true
   ·rw[Yb7 b]at k;rw[b];exact bN k
   ·rw[Yb8 b]at k;rw[X5.mpr b];exact aX k
theorem A0:ax ["line"] ["line"] (ae (top 16)):=fsc
theorem ib (T:Tx K mg A):Okd T.words_of P w base 1 (AJ K):=by
 refine T.words_of.fn.ok A0 (λb H Q E h=>?_) (λ_ _ _ s H b Q E _ h=>?_)
 ·obtain⟨z,rfl,_⟩:=h;rfl
 ·obtain⟨z,rfl,c,k⟩:=h;refine⟨_,aj (au (fc WY PySem.F.slot_str_split PySem.F.type_str_split tX (pv 0) (pa1 aH))),?_⟩;exact⟨_,rfl,rfl,z," ",rfl,rfl,by decide +kernel,XG (Zc c 2) (by decide),λl a=>k l a⟩
theorem DF:ax ["part"] ["part"] (ae (top 24)):=fsc
theorem gL (T:Tx K mg A):Okd T.i6 P w base 1 (Dv K):=by
 refine T.i6.fn.ok DF (λe H Q E h=>?_) (λ_ _ _ s H e Q E _ h=>?_)
 ·obtain⟨v,b,rfl,_⟩:=h;rfl
 ·obtain⟨v,b,rfl,d,k⟩:=h;obtain⟨a,x,y,rfl,f,_,_,c⟩:=lX d;refine⟨_,aj (au (iF gE (iT K (pv 0) ak) aH)),?_⟩;refine⟨_,rfl,a,_,0,_,rfl,rfl,f,rfl,rfl,?_⟩;cases b with
  | word w=>
   obtain⟨rfl,_⟩:=c
   rwa [Yb5 (by decide)]
  | hole m=>
   obtain⟨rfl,_⟩:=c
   rwa [Yb4 rfl]
theorem uZ:ax ["part","word"] ["part","word"] (ae (top 25)):=fsc
theorem uY (T:Tx K mg A):Okd T.lW P w base 3 (uE K):=by
 refine T.lW.fn.ok uZ (λn H Q E h=>?_) (λ_ _ _ s H n Q E d h=>?_)
 ·obtain⟨v,x,p,rfl,_⟩:=h;rfl
 ·obtain⟨v,x,p,rfl,i,c,j,k⟩:=h;obtain⟨a,_,g,o,f,_,_,l⟩:=lX i;refine⟨_,af (bg (fC (b7 (aY T.i6 (gL T) d (pa1 (pv 0))))) (aj (au (iF gE (pv 1) (iT K (pv 0) ak)))) aG)
   (af (bg (bp gE (iT K (pv 0) ak) aH) (aj (au (aY T.nE (mq T) d (pa1 (pv 1))))) aG)
   (aj (au (iF gE (aY T.qQ (su T) d (pa1 (pv 1))) (iT K (pv 0) ak))))),?_⟩
  refine⟨_,rfl,v,p,rfl,i,_,rfl,?_⟩;subst o;cases p with
  | word y=>
   obtain⟨rfl,rfl⟩:=l;refine bN ⟨_,rfl,_,rfl,a,_,1,_,rfl,rfl,f,rfl,rfl,?_⟩;have e:decide (V.str x=V.str g)=(Pt.word g).takes x:=by
    rw[Yc];simp[Pt.takes]
   rwa [e]
  | hole m=>
   obtain⟨rfl,rfl⟩:=l;have q:m<3:=c;refine aX ?_;refine⟨_,rfl,a,_,1,_,rfl,rfl,f,rfl,rfl,_,rfl,?_⟩;rw[y6 q];by_cases b:m=2
   ·rw[Yb4 b];refine bN ?_;subst b;exact⟨_,rfl,x,rfl,j,k⟩
   ·rw[Yb5 b];refine aX ?_;refine⟨_,rfl,x,rfl,j,_,rfl,a,_,1,_,rfl,rfl,f,rfl,rfl,?_⟩;have e:(Pt.hole m).takes x=decide (dS x=m):=by
     have:m=0\/m=1:=by lia
     rcases this with rfl | rfl <;> rfl
    rwa [Hj (k:=m) (by lia),<-e]
theorem ji:ax ["parts","words","part","word"] ["parts","words"] (ae (top 26)):=fsc
theorem yI (T:Tx K mg A):Okd T.oJ P w base 4 (x8 K):=by
 refine T.oJ.fn.ok ji (λU H Q E h=>?_) (λ_ _ _ s H U Q E W h=>?_)
 ·obtain⟨a,b,xs,ps,c,rfl,_⟩:=h;rfl
 ·obtain⟨a,b,xs,ps,c,rfl,L,m,I,d,J,k⟩:=h;have F:xs.length=ps.length:=by rw[m.length,XA]
  refine⟨_,af (bg (bp px (aE (r:=cZ K) aS (by rfl) T.cM Z8 (pa1 (pv 0))) (aE (r:=cZ K) aS (by rfl) T.cM Z8 (pa1 (pv 1)))) (aj (au fA)) aG)
   (af (gQ UO rfl (rC (by rfl) T.wb (ag (pv 0) (pa1 (pv 1)))) (dC rfl (aL (pn 2 ji.nd) (aL (pn 3 ji.nd) cE))) (aj (bg (fC (b7 (aY T.lW (uY T) W (ag (pv 2) (pa1 (pv 3)))))) (aj (au fA)) aG)))
   (aj (au fA))),?_⟩
  refine⟨_,rfl,a,xs,rfl,.inl L,_,rfl,b,_,rfl,.inl d,rfl,_,rfl,?_⟩;rw[XA];by_cases B:ps.length=c.length
  ·have e:decide (V.int (xs.length:Int)=V.int (c.length:Int))=true:=Yb4 (by rw[F,B]);rw[e];refine aX ?_;refine⟨_,rfl,_,rfl,a,b,rfl,⟨_,L⟩,⟨_,d⟩,?_⟩;refine ES (K:=K) (xs:=xs) (ys:=c.map V.str) (λi C g=>(∃u v,C=[some (.ref a),some (.ref b),u,v])/\ab H g/\∀(j:Nat) p x,j<i->ps[j]? = some p->c[j]? = some x->p.takes x=true) ⟨⟨_,_,rfl⟩,ab.refl _,λj p x M=>absurd M (Nat.not_lt_zero _)⟩ (λi C g q=>⟨q.2.1.seq L,q.2.1.seq d⟩) (λi x y C g t X S q O=>?_) (λC g q=>?_)
   ·obtain⟨n,l,Y⟩:=q;apply qD n;clear n;intro u v;obtain⟨p,N,R⟩:=gh m X;obtain⟨z,o,rfl⟩:=ee S;have D:ab g (upd g t (.tup [x,.str z])):=ab.new O;refine⟨t,_,rfl,.of aa,rfl,_,_,rfl,_,_,rfl,rfl,?_⟩;refine⟨_,rfl,_,rfl,x,z,p,rfl,R.same (l.trans D),I p (XB N),J z (XB o),_,rfl,?_⟩;by_cases f:p.takes z = true
    ·rw[f];refine aX ⟨⟨_,_,rfl⟩,l.trans D,λj _ _ M _ _=>?_⟩
     grind
    ·rw[X5.mpr f];refine bN ?_;have G:aR ps c=false:=by
      unfold aR;rw[IY N o (X5.mpr f),YO]
     have:=k _ (l.trans D)
     rwa [G]at this
   ·obtain⟨n,l,Y⟩:=q;apply qD n;clear n;intro u v;have G:aR ps c=true:=by
     unfold aR;rw[Yb4 B,YY]
     grind [MG,XA]
    have:=k _ l
    rwa [G]at this
  ·have e:decide (V.int (xs.length:Int)=V.int (c.length:Int))=false:=Yb5 (λq=>B (by lia));rw[e];refine bN ?_;have:=k H (ab.refl _)
   rwa [Gb B]at this
theorem Mw:ax ["pattern","line"] ["pattern","line"] (ae (top 27)):=fsc
theorem qU (T:Tx K mg A):Okd T.fits P w base 5 (M7 K):=by
 refine T.fits.fn.ok Mw (λo H Q E h=>?_) (λ_ _ _ s H o Q E i h=>?_)
 ·obtain⟨v,z,f,rfl,_⟩:=h;rfl
 ·obtain⟨v,z,f,rfl,n,d,g,b,k⟩:=h;obtain⟨a,p,q,u,c⟩:=dH n;refine⟨_,aj (au (aY T.oJ (yI T) i (ag (pv 0) (pa1 (aY T.words_of (ib T) i (pa1 (pv 1))))))),?_⟩;subst q;refine⟨_,rfl,_,rfl,z,rfl,g,λl m=>?_⟩;have e:ab H (upd H l (.lst ((Z5 z " ").map V.str))):=ab.new m;exact⟨a,l,p,f,Z5 z " ",rfl,e.seq u,c.same e,d,.of aa,λx t=>XG (ug b x t).2 g,λr j=>k r (e.trans j)⟩
theorem fw:ax ["part","kind"] ["part"] (ae (top 28)):=fsc
theorem i9 (T:Tx K mg A):Okd T.eA P w base 3 (jr K):=by
 refine T.eA.fn.ok fw (λo H Q E h=>?_) (λ_ _ _ s H o Q E j h=>?_)
 ·obtain⟨v,p,rfl,_⟩:=h;rfl
 ·obtain⟨v,p,rfl,f,c,k⟩:=h;obtain⟨a,_,b,g,n,_,_,l⟩:=lX f;refine⟨_,af (bg (b7 (aY T.i6 (gL T) j (pa1 (pv 0)))) (aj (au (iT K (pv 0) ak))) aG)
   (af (aV (i:=1) fw.nd rfl (Or.inl rfl) (aY T.qQ (su T) j (pa1 (iT K (pv 0) ak))))
   (aj (au (jN (ju (r:=rIn K false) vY (pv 1) (fM (v:=.ref A.cs) (by rfl) T.jc rfl) (by rfl)) (pv 1) aH)))),?_⟩
  refine⟨_,rfl,v,p,rfl,f,_,rfl,?_⟩;cases p with
  | hole m=>
   obtain⟨rfl,rfl⟩:=l;subst g;exact bN ⟨_,rfl,a,_,1,_,rfl,rfl,n,rfl,k⟩
  | word y=>
   obtain⟨rfl,rfl⟩:=l;subst g;refine aX ?_;refine⟨_,rfl,a,_,1,_,rfl,rfl,n,rfl,b,rfl,c.1,?_⟩;refine⟨_,rfl,A.cs,_,rfl,.inr (T.jm _),rfl,rfl,_,rfl,?_⟩;have q:∀i<3,(inV (.str (jK i)) [.str "number",.str "name",.str "any"])=decide (i<2):=by decide +kernel
   rw[Yb8 XN,q _ (zO _)];by_cases d:dS b<2
   ·rw[Yb4 d];refine bN ⟨_,rfl,?_⟩;have e:jK (dS b)=cA (Pt.word b).around:=by
     show jK (dS b)=cA (dS b);have:dS b=0\/dS b=1:=by lia
     rcases this with e | e <;> rw[e] <;> rfl
    rwa [e]
   ·rw[Yb5 d];refine aX ?_;have e:cA (Pt.word b).around = "any" :=by
     show cA (dS b) = "any";have t:=zO b;have:dS b=2:=by lia
     rw[this];rfl
    rwa [e]at k
theorem jS:ax ["part"] ["part"] (ae (top 45)):=fsc
theorem j9 (T:Tx K mg A):Okd T.fu P w base 2 (jO K):=by
 refine T.fu.fn.ok jS (λf H Q E h=>?_) (λ_ _ _ s H f Q E i h=>?_)
 ·obtain⟨v,p,rfl,_⟩:=h;rfl
 ·obtain⟨v,p,rfl,d,c,k⟩:=h;obtain⟨a,_,_,g,n,_,_,j⟩:=lX d;refine⟨_,af (bg (fC (b7 (aY T.i6 (gL T) i (pa1 (pv 0))))) (aj (au ak)) aG)
   (aj (au (jN (bp gE (iT K (pv 0) ak) aH) ak ak))),?_⟩
  refine⟨_,rfl,v,p,rfl,d,_,rfl,?_⟩;cases p with
  | word y=>exact bN k
  | hole m=>
   obtain⟨rfl,rfl⟩:=j;subst g;refine aX ?_;have l:m<3:=c;refine⟨_,rfl,a,_,1,_,rfl,rfl,n,rfl,rfl,_,rfl,?_⟩;rw[y6 l];by_cases b:m=2
   ·rw[Yb4 b];subst b;exact bN k
   ·rw[Yb5 b];refine aX ?_;have e:(Pt.hole m).loose=1:=by
     have:m=0\/m=1:=by lia
     rcases this with rfl | rfl <;> rfl
    rwa [e]at k
theorem xp:ax ["pattern"] ["pattern"] (ae (top 46)):=fsc
theorem xF (T:Tx K mg A):Okd T.lh P w base 3 (yg K):=by
 refine T.lh.fn.ok xp (λz H Q E h=>?_) (λ_ _ _ s H z Q E C h=>?_)
 ·obtain⟨v,ps,rfl,_⟩:=h;rfl
 ·obtain⟨v,ps,rfl,y,e,k⟩:=h;obtain⟨a,xs,B,r,d⟩:=dH y;have t:xs.length=ps.length:=by rw[d.length,XA]
  have G:=e.1;refine⟨_,aj (au (pcm ["part"] [] (ae (top 46)) ["pattern"] (aI (pv 0)) (λs H _=>aY T.fu (j9 T) C (pa1 (pv 0))))),?_⟩;subst B;refine⟨_,rfl,a,rfl,⟨_,r⟩,λD n=>?_⟩;refine aB (K:=K) (xs:=xs) (λi b j g=>(∃u,j=[u])/\ab H g/\b=(ps.take i).map λp=>V.int p.loose) aa ⟨⟨_,rfl⟩,ab.new n,rfl⟩ (λi b j g _ _ q=>q.2.1.seq r) (λi x b j g F c q=>?_) (λb j g c q=>?_)
  ·obtain⟨o,m,rfl⟩:=q;apply cY o;clear o;intro u;obtain⟨p,f,l⟩:=gh d F;refine bZ ⟨_,rfl,x,p,rfl,l.same m,e.2 p (XB f),?_⟩;refine⟨_,c,small (by grind),_,aa,⟨_,rfl⟩,ar n m,?_⟩;rw[dw f]
  ·simp_all
theorem kC:ax ["parts","kinds"] ["parts"] (ae (top 29)):=fsc
theorem tH (T:Tx K mg A):Okd T.j6 P w base 4 (rK K):=by
 refine T.j6.fn.ok kC (λvs H Q E h=>?_) (λ_ _ _ s H vs Q E hr h=>?_)
 ·obtain⟨a,xs,ps,rfl,_⟩:=h;rfl
 ·obtain⟨a,xs,ps,rfl,B,l,Z,f,k⟩:=h;have W:xs.length=ps.length:=by rw[l.length,XA]
  have a3:=f.1;obtain⟨p0,pr,rfl⟩:∃p0 pr,ps=p0::pr:=by
   cases ps with
   | nil=>exact(Z rfl).elim
   | cons p r=>exact⟨p,r,rfl⟩
  obtain⟨n,xr,rfl⟩:∃n xr,xs=n::xr:=by
   cases xs with
   | nil=>simp at W
   | cons x r=>exact⟨x,r,rfl⟩
  have F:Den K H n p0.dat:=by cases l with | cons h1 _=>exact h1
  have Tn:=f.2 p0 (XC ..);refine⟨_,af (bg (b7 (aE (r:=Gu K) (j5 rfl) (by rfl) T.Av um (pa1 (pcm ["part","parts"] [0] (ae (top 29)) ["parts","kinds"] (aI (pv 0)) (λs H fp=>iF (r:=nH K) (gy hr) (pv 0) (fj K (pv 1) ak)))))) (aj (au (fj K (pv 0) ak))) aG)
   (af (aV (i:=1) kC.nd rfl (Or.inr rfl) (pcm ["part"] [] (ae (top 29)) ["parts","kinds"] (aI (pv 0)) (λs H fp=>aY T.eA (i9 T) hr (pa1 (pv 0)))))
   (af (bg (b7 (aE (r:=Gu K) (j5 rfl) (by rfl) T.Av um (pa1 (pcm ["kind","kinds"] [1] (ae (top 29)) ["parts","kinds"] (aI (pv 1)) (λs H fp=>iF gE (pv 0) (fj K (pv 1) ak)))))) (aj (au (cB (ag aH (pa1 (fj K (pv 1) ak)))))) aG)
   (aj (au (cB (ag aH (pa1 aH))))))),?_⟩
  refine⟨_,rfl,a,rfl,⟨_,B⟩,λD hD=>?_⟩;refine aB (K:=K) (xs:=n::xr) (λi b d z=>(∃u,d=[u,some (.ref a)])/\ab H z/\b=(((p0::pr).take i).map λp=>decide (p=p0)).map V.bl) aa ⟨⟨_,rfl⟩,ab.new hD,rfl⟩ (λi b d z _ _ q=>q.2.1.seq B) (λi x b d z m g q=>?_) (λb d z g q=>?_)
  ·obtain⟨o,e,rfl⟩:=q;apply cY o;clear o;intro u;obtain⟨p,c,v⟩:=gh l m;refine bZ ⟨_,rfl,_,rfl,a,_,0,n,rfl,rfl,e.seq B,d5 (j:=0) rfl,_,_,v.same e,F.same e,XG (Ex _) (by decide),?_⟩;rw[OR (f.2 p (XB c)) Tn];refine⟨_,g,small (by simp only[XA,X4];lia),_,aa,⟨_,rfl⟩,ar hD e,?_⟩;rw[dw c,XH];rfl
  ·obtain⟨_,e,rfl⟩:=q;rw[XY (by lia)]at g;refine⟨D,_,rfl,.of g,_,rfl,?_⟩;have e1:(((p0::pr).map λp=>decide (p=p0)).all id)=pr.all λq=>decide (q=p0):=by
    simp
   rw[e1];have X:ia (p0::pr)=if pr.all (λq=>decide (q=p0))=true then p0 else if pr.all (λq=>decide (q.around=p0.around))=true then .hole p0.around else .hole 2:=rfl;by_cases J:pr.all (λq=>decide (q=p0))=true
   ·rw[J];refine bN ⟨_,rfl,a,_,0,n,rfl,rfl,e.seq B,d5 (j:=0) rfl,k n z e ?_⟩;rw[X,Yb7 J];exact F.same e
   ·rw[X5.mpr J];refine aX ?_;refine⟨_,rfl,a,rfl,⟨_,e.seq B⟩,λO L=>?_⟩;refine aB (K:=K) (xs:=n::xr) (λi b d I=>(∃u,d=[u])/\ab z I/\b=((p0::pr).take i).map λp=>V.str (cA p.around)) aa ⟨⟨_,rfl⟩,ab.new L,rfl⟩ (λi b d I _ _ q=>(e.trans q.2.1).seq B) (λi x b d I m y q=>?_) (λb d I y q=>?_)
    ·obtain⟨o,N,rfl⟩:=q;apply cY o;clear o;intro u;obtain⟨p,c,v⟩:=gh l m;refine bZ ⟨_,rfl,x,p,rfl,v.same (e.trans N),f.2 p (XB c),?_⟩;refine⟨_,y,small (by grind),_,aa,⟨_,rfl⟩,ar L N,?_⟩;rw[dw c]
    ·obtain⟨_,N,rfl⟩:=q;rw[XY (by lia)]at y;refine⟨_,rfl,O,rfl,⟨_,.of y⟩,λD4 M=>?_⟩;refine aB (K:=K) (xs:=(p0::pr).map λp=>V.str (cA p.around)) (λi b d S=>(∃u,d=[u,some (.ref O)])/\ab I S/\b=(((p0::pr).take i).map λp=>decide (p.around=p0.around)).map V.bl) aa ⟨⟨_,rfl⟩,ab.new M,rfl⟩ (λi b d S _ _ q=>.of (q.2.1 _ _ y)) (λi x b d S m R q=>?_) (λb d S R q=>?_)
     ·obtain⟨o,C,rfl⟩:=q;apply cY o;clear o;intro u;rw[XM]at m;cases c:(p0::pr)[i]? with
      | none=>rw[c]at m;cases m
      | some p=>
       rw[c]at m;cases m;refine bZ ⟨_,rfl,_,rfl,O,_,0,V.str (cA p0.around),rfl,rfl,.of (C _ _ y),d5 (j:=0) rfl,rfl,?_⟩;have e2:decide (V.str (cA p.around)=V.str (cA p0.around))=decide (p.around=p0.around):=by
        rw[Yc,decide_eq_true_eq,decide_eq_true_eq];exact⟨λh=>wJ (oW (f.2 p (XB c))) (oW Tn) (by injection h),λh=>by rw[h]⟩
       rw[e2];refine⟨_,R,small (by simp only[XA,X4];lia),_,aa,⟨_,rfl⟩,ar M C,?_⟩;rw[dw c,XH];rfl
     ·obtain⟨_,C,rfl⟩:=q;have a0:((p0::pr).map λp=>V.str (cA p.around)).length=(p0::pr).length:=by simp
      rw[a0,XY (XD _)]at R;refine⟨D4,_,rfl,.of R,_,rfl,?_⟩;have e3:(((p0::pr).map λp=>decide (p.around=p0.around)).all id)=pr.all λq=>decide (q.around=p0.around):=by
       simp
      rw[e3];have G:=(e.trans N).trans C;by_cases U:pr.all (λq=>decide (q.around=p0.around))=true
      ·rw[U];refine bN ⟨_,rfl,O,_,0,V.str (cA p0.around),rfl,rfl,.of (C _ _ y),d5 (j:=0) rfl,(by show 2<=Yb0;decide),λt Y=>?_⟩;refine k _ _ (G.trans (ab.new Y)) ?_;rw[X,Yb8 J,Yb7 U];exact .tup (.of aa) (.cons (.str (by decide +kernel)) (.cons (.str sJ) .nil))
      ·rw[X5.mpr U];refine aX ⟨(by decide),λt Y=>?_⟩;refine k _ _ (G.trans (ab.new Y)) ?_;rw[X,Yb8 J,Yb8 U];exact .tup (.of aa) (.cons (.str (by decide +kernel)) (.cons (.str (by decide +kernel)) .nil))
theorem wM:ax ["patterns","width"] ["patterns"] (ae (top 30)):=fsc
theorem GU (T:Tx K mg A):Okd T.joined P w base 5 (G1 K):=by
 refine T.joined.fn.ok wM (λvs H Q E h=>?_) (λ_ _ _ s H vs Q E hr h=>?_)
 ·obtain⟨a,xs,pss,n,rfl,_⟩:=h;rfl
 ·obtain⟨a,xs,pss,n,rfl,S,o,ag,_,c,k⟩:=h;have aq:xs.length=pss.length:=by rw[o.length,XA]
  have UG:=ZA.mpr ag;obtain⟨x0,a5⟩:∃x0,xs[0]? = some x0:=⟨_,XJ (by lia)⟩;obtain⟨I,Pf,a6⟩:=c8 o a5;obtain⟨a0,a4,rfl,ao,We⟩:=dH a6;have a7:a4.length=n:=by rw[We.length,XA];exact(c I (XB Pf)).2
  have as:n<=10000:=by rw[<-(c I (XB Pf)).2];exact(c I (XB Pf)).1.1
  refine⟨_,af (bg (bp gE (aE (r:=cZ K) aS (by rfl) T.cM Z8 (pa1 (pv 0))) ak) (aj eG) aG)
   (af (aV (i:=1) wM.nd rfl (Or.inr rfl) (aE (r:=cZ K) aS (by rfl) T.cM Z8 (pa1 (fj K (pv 0) ak))))
   (af (bg (b7 (aE (r:=RZ K) (KO rfl) (by rfl) T.RG Qi (pa1 (pcm ["pattern","width"] [1] (ae (top 30)) ["patterns","width"] (aI (pv 0)) (λs H U=>iF px (aE (r:=cZ K) aS (by rfl) T.cM Z8 (pa1 (pv 0))) (pv 1)))))) (aj eG) aG)
   (aj (au (cm (N':=["at","patterns"]) (n:=1) (fi:=[0]) (g:=bf 0) rfl (bX (ae (top 30)) ["patterns","width"] (by decide +kernel)) (d4 (by rfl) T.gf (pa1 (pv 1))) (λs H U=>aM (i:=0) (show(["at","patterns"]:Qqv).Nodup by decide +kernel) rfl (Or.inr rfl) (.inl rfl)) (λs H U=>cy) (λs H U=>aY T.j6 (tH T) hr (pa1 (cm (wi:=y7 K (o5 1)) (N':=["pattern","at"]) (n:=1) (fi:=[0]) (g:=bf 0) rfl (qS (ae (top 30)) (by decide +kernel)) (aI (pv 1)) (λs H U=>aM (i:=0) (show(["pattern","at"]:Qqv).Nodup by decide +kernel) rfl (Or.inl rfl) (.inr rfl)) (λs H U=>cy) (λs H U=>fj K (pv 0) (pv 1)))))))))),?_⟩
  refine⟨_,rfl,a,xs,rfl,.inl S,rfl,_,rfl,?_⟩;rw[(Yb5 (λq=>by lia))];refine aX ?_;refine⟨_,rfl,a,xs,0,_,rfl,rfl,S,d5 (j:=0) a5,a0,a4,rfl,.inl ao,?_⟩;rw[a7];refine⟨_,rfl,a,rfl,⟨_,S⟩,λD hD=>?_⟩;refine aB (K:=K) (xs:=xs) (λi b f B=>(∃u,f=[u,some (.int n)])/\ab H B/\b=((pss.take i).map λ_=>false).map V.bl) aa ⟨⟨_,rfl⟩,ab.new hD,rfl⟩ (λi b f B _ _ q=>q.2.1.seq S) (λi x b f B hx N q=>?_) (λb f B N q=>?_)
  ·obtain⟨z,O,rfl⟩:=q;apply cY z;clear z;intro u;obtain⟨ps,e,C⟩:=c8 o hx;obtain⟨ai,yi,rfl,L,J⟩:=dH C;have ah:yi.length=n:=by rw[J.length,XA];exact(c ps (XB e)).2
   refine bZ ⟨_,rfl,ai,yi,rfl,.inl (O.seq L),_,rfl,rfl,?_⟩;rw[ah,Yb4 rfl];refine⟨_,N,small (by grind),_,aa,⟨_,rfl⟩,ar hD O,?_⟩;rw[dw e,XH];rfl
  ·obtain⟨_,O,rfl⟩:=q;refine⟨D,_,rfl,.of N,_,rfl,?_⟩;have e1:(((pss.take xs.length).map λ_=>false).any id)=false:=by
    simp_all
   rw[e1];refine aX ?_;refine⟨_,rfl,n,rfl,by lia,by lia,λD3 F=>?_⟩;have a3:ab B (upd B D3 (.lst [])):=ab.new F;refine eP (λi b f R=>(∃u,f=[u,some (.ref a)])/\ab B R/\ay K (lim (upd B D3 (.lst [])) R) b ((bA pss i).map Pt.dat)) aa ⟨⟨_,rfl⟩,a3,.nil⟩ (λi b f R _ G q=>?_) (λb f R G q=>?_)
   ·obtain⟨z,s4,Z⟩:=q;apply cY z;clear z;intro u;have aw:b.length=i:=by rw[Z.length,XA];simp[bA]
    have t:=O.trans s4;refine bZ ?_;refine⟨_,rfl,a,rfl,⟨_,t.seq S⟩,λD5 Y=>?_⟩;refine aB (K:=K) (xs:=xs) (λm M f H5=>(∃u,f=[u,some (.int (0+(i:Int)))])/\ab R H5/\ay K H M (((pss.take m).map λps=>ps.getD i (.hole 2)).map Pt.dat)) aa ⟨⟨_,rfl⟩,ab.new Y,.nil⟩ (λm M f H5 _ _ q=>(t.trans q.2.1).seq S) (λm x M f H5 hx Ph q=>?_) (λM f H5 Ph q=>?_)
    ·obtain⟨z,s5,l⟩:=q;apply cY z;clear z;intro u;obtain⟨ps,e,C⟩:=c8 o hx;obtain⟨ai,yi,rfl,L,J⟩:=dH C;have hm:=ba e;have W:=(c ps (XB e)).2;have ap:ps[i]? = some (ps.getD i (.hole 2)):=by
      simp_all
     obtain⟨y,hy,a9⟩:=J.getD (i:=i) (d:=(ps.getD i (.hole 2)).dat) (by simp_all);have VX:M.length=m:=by rw[l.length,XA,XA,X4];lia
     refine bZ ⟨_,rfl,_,rfl,ai,yi,_,y,rfl,rfl,(t.trans s5).seq L,?_,M,Ph,small (by lia),_,aa,⟨_,rfl⟩,ar Y s5,?_⟩
     ·rw[Int.zero_add];exact d5 hy
     ·rw[dw e,XH];exact l.append (.cons a9 .nil)
    ·obtain⟨_,s5,l⟩:=q;rw[XY (by lia)]at l;refine⟨D5,M,pss.map (λps=>ps.getD i (.hole 2)),rfl,.of Ph,l.same (t.trans s5),by simp_all,⟨by rwa [XA],λp hp=>?_⟩,λr _ s6 dr=>?_⟩
     ·obtain⟨ps,a8,rfl⟩:=XE.mp hp;have W:=c ps a8;have av:i<ps.length:=by lia
      have:ps.getD i (.hole 2)∈ps:=by simp_all
      exact W.1.2 _ this
     ·have v:=s5.trans s6;have X:=v _ _ G;refine⟨b,X,small (by lia),_,aa,⟨_,rfl⟩,ar F (s4.trans v),?_⟩;rw[jb (ys:=[]) aa,yb,XH];exact(Z.same (bM v)).append (.cons (Nd (Dn (s4.trans v) X) (ab.refl _) dr) .nil)
   ·obtain⟨_,s4,Z⟩:=q;refine k D3 b R (O.free F) (O.trans s4) G ?_;rw[(Yv n)]at Z;exact Z.same (cJ (O.trans a3).ll)
theorem A3:ax ["word"] ["word"] (ae (top 18)):=fsc
theorem p8 (T:Tx K mg A):Okd T.jM P w base 1 (yM K):=by
 refine T.jM.fn.ok A3 (λb H Q E h=>?_) (λ_ _ _ s H b Q E _ h=>?_)
 ·obtain⟨x,rfl,_⟩:=h;rfl
 ·obtain⟨x,rfl,a,k⟩:=h;refine⟨_,aj (au (cB (ag (aE nv (by rfl) T.cM Z8 (pa1 (pv 0))) (pa1 (pv 0))))),?_⟩;exact⟨_,rfl,x,rfl,a.s,_,rfl,(by show 2<=Yb0;decide),λp c=>k p c⟩
theorem jJ:ax ["part","length","text"] ["part"] (ae (top 31)):=fsc
theorem pE (T:Tx K mg A):Okd T.m8 P w base 2 (Ai K):=by
 refine T.m8.fn.ok jJ (λq H Q E h=>?_) (λ_ _ _ s H q Q E l h=>?_)
 ·obtain⟨v,e,rfl,_⟩:=h;rfl
 ·obtain⟨v,e,rfl,g,c,k⟩:=h;obtain⟨a,x,y,j,o,_,_,n⟩:=lX g;refine⟨_,af (bg (b7 (aY T.i6 (gL T) l (pa1 (pv 0)))) (aj (au (cB (ag ak (ag (fc (r:=Le K) PySem.F.plainAttrs_tuple PySem.F.slot_tuple_index PySem.F.type_tuple_index K4 (fM (v:=.ref A.cs) (by rfl) T.jc rfl) (pa1 (iT K (pv 0) ak))) (pa1 aH)))))) aG)
   (af (lV (aY T.jM (p8 T) l (pa1 (iT K (pv 0) ak))) (dC rfl (aL (pn 1 jJ.nd) (aL (pn 2 jJ.nd) cE))))
   (aj (au (cB (ag ak (ag (pv 1) (pa1 (pv 2)))))))),?_⟩
  refine⟨_,rfl,v,e,rfl,g,_,rfl,?_⟩;cases e with
  | hole m=>
   obtain⟨rfl,rfl⟩:=n;refine bN ?_;subst j;have f:=c;refine⟨.inr (.inl ⟨rfl,T.yq⟩),_,rfl,a,_,1,_,rfl,rfl,o,rfl,A.cs,_,_,m,rfl,rfl,T.jm _,rfl,Mz,f,PY f,R3 f,(by show 3<=Yb0;decide),λp d=>?_⟩;exact k _ _ (ab.new d) (.tup (.of ((bK d).trans aa)) (.cons (.int 1) (.cons (.int _) (.cons (.str (by decide +kernel)) .nil))))
  | word z=>
   obtain⟨rfl,rfl⟩:=n;refine aX ?_;subst j;have i:=c;refine⟨_,rfl,a,_,1,_,rfl,rfl,o,rfl,y,rfl,i.1,λp d=>?_⟩;refine⟨p,_,rfl,.of aa,rfl,_,_,rfl,_,_,rfl,rfl,?_⟩;refine⟨_,rfl,_,rfl,(by show 3<=Yb0;decide),λ_ b=>?_⟩;exact k _ _ ((ab.new d).trans (ab.new b)) (.tup (.of ((bK ((ab.new d).free b)).trans aa)) (.cons (.int 0) (.cons (.int _) (.cons (.str i.2) .nil))))
theorem jV:ax ["pattern"] ["pattern"] (ae (top 32)):=fsc
theorem rX (T:Tx K mg A):Okd T.bz P w base 3 (si K):=by
 refine T.bz.fn.ok jV (λF H Q E h=>?_) (λ_ _ _ s H F Q E I h=>?_)
 ·obtain⟨v,ps,rfl,_⟩:=h;rfl
 ·obtain⟨v,ps,rfl,B,g,k⟩:=h;obtain⟨a,xs,G,q,f⟩:=dH B;refine⟨_,aj (au (cB (ag (aE (r:=cZ K) aS (by rfl) T.cM Z8 (pa1 (pv 0))) (pa1 (pcm ["part"] [] (ae (top 32)) ["pattern"] (aI (pv 0)) (λs H _=>aY T.m8 (pE T) I (pa1 (pv 0)))))))),?_⟩;subst G;have d:xs.length=ps.length:=by rw[f.length,XA]
  have L:=g.1;refine⟨_,rfl,a,xs,rfl,.inl q,?_⟩;refine⟨_,rfl,a,rfl,⟨_,q⟩,λD l=>?_⟩;refine aB (K:=K) (xs:=xs) (λi b n j=>(∃u,n=[u])/\ab H j/\ay K (lim (upd H D (.lst [])) j) b ((ps.take i).map Pt.key)) aa ⟨⟨_,rfl⟩,ab.new l,.nil⟩ (λi b n j _ _ p=>p.2.1.seq q) (λi x b n j J c p=>?_) (λb n j c p=>?_)
  ·obtain⟨⟨u,rfl⟩,p⟩:=p;obtain⟨y,e,z⟩:=gh f J;have M:=ba e;have C:b.length=i:=by rw[p.2.length,XA,X4];lia
   refine bZ ⟨_,rfl,x,y,rfl,z.same p.1,g.2 y (XB e),λr _ o dr=>⟨b,o _ _ c,small (by lia),_,aa,⟨_,rfl⟩,ar l (p.1.trans o),?_⟩⟩;rw[jb (ys:=[]) aa,dw e];exact(p.2.same (bM o)).append (.cons (dr.same (cJ (Dn p.1 c))) .nil)
  ·obtain⟨_,p⟩:=p;refine⟨(by show 2<=Yb0;decide),λt m=>?_⟩;rw[XY (by lia)]at p;refine k _ _ (p.1.trans (ab.new m)) ?_;have e:gJ ps = .tuple [.int xs.length,.list (ps.map Pt.key)]:=by rw[d];rfl
   rw[e];refine .tup (.of ((bK (p.1.free m)).trans aa)) (.cons (.int _) (.cons (.lst (.of ((bK l).trans (by rwa [ao (aw c m)]))) ?_) .nil));exact(p.2.same (bM (ab.new m))).same (cJ (ab.new l).ll)
theorem Cs:ax ["patterns"] ["patterns"] (ae (top 33)):=fsc
theorem l3 (T:Tx K mg A):Okd T.ordered P w base 6 (Cq K):=by
 refine T.ordered.fn.ok Cs (λvs H Q E h=>?_) (λ_ _ _ s H vs Q E hr h=>?_)
 ·obtain⟨a,xs,pss,rfl,_⟩:=h;rfl
 ·obtain⟨a,xs,pss,rfl,hq,I,v,J,k⟩:=h;refine⟨_,aj (au (pcm ["pattern"] [] (ae (top 33)) ["patterns"] (aI (Lh (a:=.int) (r:=p7) .int ((rX T).mono (by decide)) hr T.bz.bd (by rfl) T.fm (by rfl) T.bz.mg (pa1 (pv 0)))) (λs H _=>bI (r:=jl K) fF (by rfl) T.i4 fZ (pa1 (pv 0))))),?_⟩;have a4:xs.length=pss.length:=by rw[v.length,XA]
  refine⟨_,rfl,_,rfl,a,xs,rfl,hq,I,?_⟩;refine oE (K:=K) (H0:=H) xs (pss.map gJ) [] [] H (by rwa [XA]) (ab.refl H) .nil (λi x d f _ c F o kk=>?_) (λks H1 s1 d1=>?_)
  ·obtain⟨m,e,Z⟩:=c8 v c;rw[XM,e]at F;cases F;exact⟨x,m,rfl,Z.same o,J m (XB e),λr H' sr dr=>kk r H' sr (dr.same bG)⟩
  ·have a3:ay K H1 ks (pss.map gJ):=by simpa using d1
   refine⟨pss.map gJ,a3,λd F=>?_,λd F=>?_,λD0 p a0 hp ho=>?_⟩
   ·obtain⟨m,_,rfl⟩:=XE.mp F;exact mn m
   ·obtain⟨m,_,rfl⟩:=XE.mp F;exact Lb m
   ·refine⟨D0,rfl,⟨_,.of aa⟩,λD S=>?_⟩;have R:p.length=xs.length:=by rw[hp.length_eq,YV]
    have B:p.Perm (Z6 pss.length):=by rwa [<-a4]
    have Y:(sel pss p).length=xs.length:=by unfold sel;rw[XA,R]
    have n:ab H (upd H1 D0 (.lst (picked xs p))):=s1.trans (ab.new a0);generalize hHb:upd H1 D0 (HO.lst (picked xs p))=Hb at n S;have j:ab Hb (upd Hb D (.lst [])):=ab.new S;refine aB (K:=K) (xs:=picked xs p) (λi b X f=>(∃u,X=[u])/\ab Hb f/\K5 (upd Hb D (.lst [])) f b/\ay K (lim (upd Hb D (.lst [])) f) b (((sel pss p).take i).map aD)) aa ⟨⟨_,rfl⟩,j,(λx c=>by cases c),.nil⟩ (λi b X f _ _ q=>.of (q.2.1 _ _ (by rw[<-hHb];exact aa))) (λi x b X f c g q=>?_) (λb X f g q=>?_)
    ·obtain⟨q0,o,W,L⟩:=q;apply cY q0;clear q0;intro u;obtain⟨m,y,BQ,Z⟩:=Nk v B c;obtain⟨a',z,rfl,a5,M⟩:=dH Z;have a9:b.length=i:=by rw[L.length,XA,X4];have:=ba y;lia
     have a7:i<xs.length:=by rw[<-Y];exact ba y
     refine bZ ⟨_,rfl,a',z,rfl,.inl ((n.trans o).seq a5),λl hl=>?_⟩;have N:l≠D:=(aw g hl).symm;have G:(upd Hb D (.lst [])) l=none:=by rw[ao N];exact o.free hl
     have O:ab f (upd f l (.lst z)):=ab.new hl;refine⟨b,O _ _ g,small (by lia),_,aa,⟨_,rfl⟩,ar S (o.trans O),?_,?_⟩
     ·intro x c;rcases XU.mp c with c | c
      ·obtain⟨t,ys,rfl,C,U,V⟩:=W x c;have a6:t≠D:=λe=>by subst e;rw[aa]at C;cases C
       exact⟨t,ys,rfl,C,by rw[ao a6];exact O _ _ U,V⟩
      ·simp only[XR]at c;subst c;exact⟨l,z,rfl,G,by rw[ao N];exact aa,by rw[M.length,XA];exact(J m BQ).1⟩
     ·rw[jb (ys:=[]) aa,dw y];exact(L.same (bM O)).append (.cons (.lst (.of ((bK G).trans aa)) (js (n.trans j) ((n.trans o).trans O) M)) .nil)
    ·obtain⟨_,o,W,L⟩:=q;have a8:(picked xs p).length=xs.length:=by rw[lZ,R]
     rw[XY (by lia)]at L;refine k D b f (sel pss p) (n.free S) (n.trans o) g (IP B) (BB B ho) (λx c=>?_) (λx c=>?_) (L.same (cJ (n.trans j).ll))
     ·obtain⟨t,ys,rfl,C,U,V⟩:=W x c;exact⟨t,ys,rfl,(n.trans j).free C,U,V⟩
     ·obtain⟨t,ys,rfl,C,U,V⟩:=W x c
      grind [aa]
theorem jP:ax ["line","patterns","fitting"] ["line","patterns"] (ae (top 47)):=fsc
theorem kB (T:Tx K mg A):Okd T.g7 P w base 7 (tL K):=by
 refine T.g7.fn.ok jP (λvs H Q E h=>?_) (λ_ _ _ s H vs Q E Z h=>?_)
 ·obtain⟨z,a,xs,pss,rfl,_⟩:=h;rfl
 ·obtain⟨z,a,xs,pss,rfl,O,_,J,p,hz,X,k⟩:=h;have a4:xs.length=pss.length:=by rw[J.length,XA]
  refine⟨_,af (aV (i:=2) jP.nd rfl (Or.inl rfl) (aY T.ordered (l3 T) Z (pa1 (cm (N':=["pattern","line"]) (n:=1) (fi:=[0]) (g:=bf 0) rfl (bX (ae (top 47)) ["line","patterns","fitting"] (by decide +kernel)) (aI (pv 1)) (λs H fp=>aM (i:=0) (show(["pattern","line"]:Qqv).Nodup by decide +kernel) rfl (Or.inl rfl) (.inr rfl)) (λs H fp=>cT (b7 (aY T.fits (qU T) Z (ag (pv 0) (pa1 (pv 1)))))) (λs H fp=>pv 0)))))
   (aj (au (MP ((xF T).mono (by decide)) Z T.lh.bd rfl (by rfl) T.N5 (by rfl) T.lh.mg (pa1 (pv 2))))),?_⟩
  refine⟨_,rfl,a,rfl,⟨_,O⟩,λD hD=>?_⟩;refine aB (K:=K) (xs:=xs) (λi c V U=>(∃u,V=[u,some (.str z)])/\ab H U/\ay K H c (((pss.take i).filter (bq z)).map aD)) aa ⟨⟨_,rfl⟩,ab.new hD,.nil⟩ (λi c V U _ _ q=>q.2.1.seq O) (λi x c V U F j q=>?_) (λc V U j q=>?_)
  ·obtain⟨q0,o,C⟩:=q;apply cY q0;clear q0;intro u;obtain⟨b,r,I⟩:=c8 J F;have hi:=ba r;have a3:c.length<=i:=by
    rw[C.length,XA]
    grind
   have et:pss.take (i+1)=pss.take i++[b]:=by rw[XW,r];rfl
   refine⟨_,rfl,_,rfl,x,z,b,rfl,I.same o,(p b (XB r)).2,hz,X,λ_ R=>⟨_,rfl,?_⟩⟩;by_cases hf:bq z b=true
   ·have y:aR b (Z5 z " ")=true:=hf;rw[y];refine bN ?_;refine⟨_,rfl,c,R _ _ j,small (by lia),_,aa,⟨_,rfl⟩,ar hD (o.trans R),?_⟩;rw[et,Yq,XH];have e2:[b].filter (bq z)=[b]:=by simp[hf]
    rw[e2];exact C.append (.cons I .nil)
   ·have y:aR b (Z5 z " ")=false:=X5.mpr hf;rw[y];refine aX ⟨c,R _ _ j,⟨_,rfl⟩,o.trans R,?_⟩
    simp_all
  ·obtain⟨_,o,C⟩:=q;rw[XY (by lia)]at C;have a5:(pss.filter (bq z)).length<=pss.length:=Yt _ _;have a3:c.length=(pss.filter (bq z)).length:=by rw[C.length,XA]
   refine⟨D,c,pss.filter (bq z),rfl,.of j,by lia,C.same o,λb f=>p b ((X7.mp f).1),λ_ eh H5 l _ s5 Wo N iy fr _ v=>?_⟩;have M:eh.length=l.length:=by rw[v.length,XA]
   refine⟨_,rfl,_,rfl,?_⟩;refine wO (kds:=l.map looseD) (Sh.ok (.list .int)) (.of Wo) (by simp_all) (λd S=>?_) (λm x d H6 _ F S L kk=>?_) (λRh=>?_) (λY H6 L=>?_)
   ·obtain⟨b,_,rfl⟩:=XE.mp S;exact⟨jX b,Fk b⟩
   ·obtain⟨b,G,W⟩:=c8 v F;rw[XM,G]at S;cases S;exact⟨x,b,rfl,(W.same bG).same L,(λb f=>p b ((X7.mp (N.mem_iff.mp f)).1)) b (XB G),λD7 H7 _ s7 VJ=>kk (.ref D7) H7 s7 (.lst (.of VJ) vM)⟩
   ·subst Rh;have B:l=[]:=Yo (by rw[<-M];rfl);subst B;exact k .non H5 (o.trans s5) (.inl ⟨N.symm.eq_nil,rfl⟩)
   ·have B:l≠[]:=λe=>Y (Yo (by rw[M,e];rfl));obtain⟨b,f,Kn⟩:=KP B iy;have a0:cS (l.map looseD)<eh.length:=by grind
    have F:eh[cS (l.map looseD)]? = some eh[cS (l.map looseD)]:=XJ a0;have mx:eh.getD (cS (l.map looseD)) .non=eh[cS (l.map looseD)]:=by grind
    rw[mx];obtain⟨t,ys,ht,h1,h2,_⟩:=fr _ (XB F);obtain⟨_,Te,W⟩:=c8 v F;rw[f]at Te;cases Te;refine k _ H6 ((o.trans s5).trans L) (.inr ⟨t,ys,b,ht,o.free h1,L _ _ h2,⟨N.mem_iff.mp Kn.1,λq O=>Kn.2 q (N.mem_iff.mpr O)⟩,?_⟩);exact(W.same (bM L)).same (cJ o.ll)
def Dj (K:Vzz):Sp:=λvs H Q _=>∃(a b:Yau) (xs:Qqt) (ks:List Key),vs=[.ref a,.ref b]/\SqL K H a xs/\SqL K H b (ks.map kV)/\ks.length=xs.length/\xs.length<=1000 /\
 ∀(D:Yau) (as:Qqx) H',H D=none->ab H H'->H' D=some (.lst (as.map V.ref))->(∀a∈as,H a=none)->fO (λa g=>H' a=some (.lst g)) as (grp ks xs)->Q (.ref D) H'
theorem jt:ax ["rows","keys","groups","row","key"] ["rows","keys"] (ae (top 36)):=fsc
theorem sm (T:Tx K mg A):Okd T.k8 P w base 1 (Dj K):=by
 refine T.k8.fn.ok jt (λvs H Q E h=>?_) (λ_ _ _ s H vs Q E _ h=>?_)
 ·obtain⟨a,b,xs,d,rfl,_⟩:=h;rfl
 ·obtain⟨a,b,xs,d,rfl,U,W,_,_,k⟩:=h;refine⟨_,af (aV (i:=2) jt.nd rfl (Or.inl rfl) LH)
   (af (gQ UO rfl (rC (by rfl) T.wb (ag (pv 0) (pa1 (pv 1)))) (dC rfl (aL (pn 3 jt.nd) (aL (pn 4 jt.nd) cE))) (aj (bV (fc ZU Ws WF d7 (Nq (pv 2) (pv 4) (br dG) ⟨rfl,rfl,rfl,rfl⟩) (pa1 (pv 3))))))
   (aj (au (Hy rfl (by rfl) T.i4 fZ (pv 2))))),?_⟩
  intro G hG;have Y:ab H (upd H G (.dK [])):=ab.new hG;have I:(upd H G (.dK [])) G=some (.dK []):=aa;refine⟨_,rfl,_,rfl,a,b,rfl,⟨_,Y.seq U⟩,⟨_,Y.seq W⟩,?_⟩;generalize upd H G (.dK [])=H1 at Y I ⊢;refine ES (K:=K) (xs:=xs) (ys:=d.map kV) (λi σ f=>(∃u v,σ=[some (.ref a),some (.ref b),some (.ref G),u,v])/\ab H f/\∃(as:Qqx) (kvs:List (Key×V)),f G=some (.dK kvs)/\GL H f G as kvs (cC ((d.zip xs).take i))/\kvs.length<=i/\∀g∈(cC ((d.zip xs).take i)).map (·.2),g.length<=i)
   ⟨⟨_,_,rfl⟩,Y,[],[],I,.nil,XD _,λg hg=>by cases hg⟩ (λi σ f q=>⟨q.2.1.seq U,q.2.1.seq W⟩) (λi x y σ f p hx hy q hp=>?_) (λσ f q=>?_)
  ·obtain⟨S,Z,as,kvs,r,t,a3,C⟩:=q;apply qD S;clear S;intro u v;have hi:=ba hx;rw[XM]at hy;obtain⟨ky,_,rfl⟩:∃ky,d[i]? = some ky/\y=kV ky:=by
    simp_all
   have hz:(d.zip xs)[i]? = some (ky,x):=by simp_all
   have sp:ab f (upd f p (.tup [x,kV ky])):=ab.new hp;have M:(upd f p (.tup [x,kV ky])) p=some (.tup [x,kV ky]):=aa;have s3:=Z.trans sp;have o:=sp _ _ r;have l:GL H (upd f p (.tup [x,kV ky])) G as kvs (cC ((d.zip xs).take i)):=t.keep λc n=>by
    obtain⟨⟨g,e⟩,_⟩:=t.mem c n;exact ao (aw e hp)
   generalize upd f p (.tup [x,kV ky])=H3 at sp M s3 o l ⊢;refine⟨p,_,rfl,.of M,rfl,_,_,rfl,_,_,rfl,rfl,?_⟩;refine⟨_,rfl,G,rfl,.inl ⟨kvs,.of o⟩,_,rfl,XT _,λL hL=>?_⟩;have sL:ab H3 (upd H3 L (.lst [])):=ab.new hL;have a8:(upd H3 L (.lst [])) L=some (.lst []):=aa;have B:L≠G:=(aw o hL).symm;have VQ:L∉as:=λz=>by
    obtain⟨⟨g,e⟩,_⟩:=l.mem L z;rw[hL]at e;cases e
   have X:H L=none:=s3.free hL;have s4:=s3.trans sL;have O:=sL _ _ o;have j:GL H (upd H3 L (.lst [])) G as kvs (cC ((d.zip xs).take i)):=l.keep λc n=>by
    obtain⟨⟨g,e⟩,_⟩:=l.mem c n;exact ao (aw e hL)
   generalize upd H3 L (.lst [])=H4 at sL a8 s4 O j ⊢;have m:cC ((d.zip xs).take (i+1))=bQ (cC ((d.zip xs).take i)) ky x:=zV hz;have a9:∀g∈(bQ (cC ((d.zip xs).take i)) ky x).map (·.2),g.length<=i+1:=λg hg=>by
    obtain⟨q,hq,rfl⟩:=XE.mp hg;unfold bQ at hq
    grind
   refine⟨kvs,ky,O,rfl,small (by lia),λ_ a6=>?_,λhn=>?_⟩
   ·obtain⟨c,g,rfl,n,N,a5,a4⟩:=j.grow (x:=x) a6;have R:=j.mem c n;refine⟨.inl ⟨rfl,_,.of N⟩,_,rfl,c,g,_,rfl,rfl,N,small (by have:=C g a5;lia),?_⟩;refine⟨⟨_,_,rfl⟩,ar R.2.1 s4,as,kvs,by rwa [ao R.2.2.symm],by rwa [m],by lia,by rwa [m]⟩
   ·have a7:H G=none:=hG;have J:(upd H4 G (.dK (putK kvs ky (.ref L)))) L=some (.lst []):=by rwa [ao B]
    refine⟨.inl ⟨rfl,_,.of J⟩,_,rfl,L,[],_,rfl,rfl,J,small (by decide),?_⟩;have a0:GL H (upd (upd H4 G (.dK (putK kvs ky (.ref L)))) L (.lst ([]++[x]))) G as kvs (cC ((d.zip xs).take i)):=j.keep λc n=>by
     have:=j.mem c n
     grind [ao]
    obtain⟨e1,a4⟩:=a0.more hn aa X B VQ;refine⟨⟨_,_,rfl⟩,ar X (ar a7 s4),as++[L],kvs++[(ky,.ref L)],by rw[ao B.symm,aa,e1],by rwa [m],by simp_all,by rwa [m]⟩
  ·obtain⟨S,Z,as,kvs,r,t,a3,C⟩:=q;apply qD S;clear S;intro u v;have hm:min xs.length (d.map kV).length=(d.zip xs).length:=by simp_all
   rw[hm,XY (XD _)]at t;refine⟨_,rfl,G,kvs,rfl,.of r,λD hD=>?_⟩;rw[t.vals];have sD:ab f (upd f D (.lst (as.map V.ref))):=ab.new hD;exact k D as _ (Z.free hD) (Z.trans sD) aa (λc n=>(t.mem c n).2.1) (t.lists.mono λc g e=>sD _ _ e)
def zi (K:Vzz):Sp:=λvs H Q _=>∃(u:V) (p n:Nat) (wss:Qqu),vs=[u,.int p]/\Den K H u (gD wss)/\GOk n wss/\p<n /\
 ∀(D:Yau) H',H D=none->ab H H'->H' D=some (.lst ((wAt wss p).map V.str))->Q (.ref D) H'
def mM (K:Vzz):Sp:=λvs H Q _=>∃(u:V) (p n:Nat) (wss:Qqu),vs=[u,.int p]/\Den K H u (gD wss)/\GOk n wss/\p<n /\
 ∀H',ab H H'->Q (.int (uAt wss p).length) H'
def jQ (K:Vzz):Sp:=λvs H Q _=>∃(u:V) (p n:Nat) (wss:Qqu) (t:Yau) (s l:Int),vs=[u,.int p,.ref t]/\Den K H u (gD wss)/\GOk n wss/\p<n/\SqT K H t [.int s,.int l] /\
 ∀H',ab H H'->Q (.bl (jL wss p s l)) H'
theorem A4:ax ["group","place"] ["group","place"] (ae (top 37)):=fsc
theorem j4 (T:Tx K mg A):Okd T.gO P w base 1 (zi K):=by
 refine T.gO.fn.ok A4 (λF H Q E h=>?_) (λ_ _ _ s H F Q E _ h=>?_)
 ·obtain⟨u,p,n,wss,rfl,_⟩:=h;rfl
 ·obtain⟨u,p,n,wss,rfl,C,y,_,k⟩:=h;obtain⟨a,xs,rfl,z,c⟩:=D6 C;have B:xs.length=wss.length:=by rw[c.length,XA]
  refine⟨_,aj (au (pcm ["words","place"] [1] (ae (top 37)) ["group","place"] (aI (pv 0)) (λs H _=>fj K (pv 0) (pv 1)))),?_⟩;refine⟨_,rfl,a,rfl,⟨_,z⟩,λD o=>?_⟩;refine aB (K:=K) (xs:=xs) (λi b d e=>(∃u,d=[u,some (.int p)])/\ab H e/\b=(wAt (wss.take i) p).map V.str) aa ⟨⟨_,rfl⟩,ab.new o,rfl⟩ (λi b d e _ _ q=>q.2.1.seq z) (λi x b d e I f q=>?_) (λb d e _ q=>?_)
  ·obtain⟨t,m,rfl⟩:=q;apply cY t;clear t;intro u;obtain⟨l,r,v,rfl,g⟩:=qK c I;have J:=y.row l (XB v);have j:(l.map V.str)[p]? = some (.str (l.getD p ZY)):=by simp_all
   have G:=y.le;refine bZ ⟨_,rfl,_,rfl,r,_,_,_,rfl,rfl,m.seq g,d5 j,_,f,small (by unfold wAt;rw[XA,XA,X4];lia),_,aa,⟨_,rfl⟩,ar o m,?_⟩;rw[Jj v,XH];rfl
  ·simp_all
theorem m7:ax ["group","place"] ["group","place"] (ae (top 38)):=fsc
theorem mD (T:Tx K mg A):Okd T.dZ P w base 2 (mM K):=by
 refine T.dZ.fn.ok m7 (λg H Q E h=>?_) (λ_ _ _ s H g Q E i h=>?_)
 ·obtain⟨u,p,n,a,rfl,_⟩:=h;rfl
 ·obtain⟨u,p,n,a,rfl,f,c,j,k⟩:=h;refine⟨_,aj (au (yp EZ rfl (by rfl) T.cM Z8 (by rfl) T.Ld Dw (pa1 (aY T.gO (j4 T) i (ag (pv 0) (pa1 (pv 1))))))),?_⟩;refine⟨_,rfl,_,rfl,u,p,n,a,rfl,f,c,j,λD d _ e b=>⟨D,_,rfl,.of b,Nat.lt_trans (c.O0 p) (by decide),k d e⟩⟩
theorem Jg {l m:List α}{f:α->Bool} (h:l.Perm m):l.all f=m.all f:=by
 grind
theorem G9 (ws:Qqv):(ws.map V.str).all gu=true:=by
 rw[Ye];intro x hx;obtain⟨w,_,rfl⟩:=XE.mp hx;rfl
theorem Dg (ws:Qqv) (w:Str):(ws.map V.str).countP (λz=>eqV z (.str w))=ws.countP λz=>decide (z=w):=by
 rw[List.countP_map];rfl
theorem bS:ax ["group","place","sieve","spread","least","words","unlike"] ["group","place","sieve"] (ae (top 39)):=fsc
theorem jU (T:Tx K mg A):Okd T.fe P w base 2 (jQ K):=by
 refine T.fe.fn.ok bS (λvs H Q E h=>?_) (λ_ _ _ s H vs Q E S h=>?_)
 ·obtain⟨u,p,n,a,t,s,l,rfl,_⟩:=h;rfl
 ·obtain⟨u,p,n,a,t,s,l,rfl,Z,G,hp,I,k⟩:=h;refine⟨_,af (lV (pv 2) (dC rfl (aL (pn 3 bS.nd) (aL (aM (i:=4) bS.nd rfl (Or.inr rfl)) cE))))
   (af (aV (i:=5) bS.nd rfl (Or.inr rfl) (aY T.gO (j4 T) S (ag (pv 0) (pa1 (pv 1)))))
   (af (aV (i:=6) bS.nd rfl (Or.inl rfl) (yp (my rfl S) rfl (by rfl) T.fm gr (by rfl) T.Ld Dw (pa1 (pv 5))))
   (aj (au (gY (A7 wx wx ak (aE (r:=cZ K) aS (by rfl) T.cM Z8 (pa1 (pv 6))) (pv 3)) (iw (aE (r:=Gu K) (j5 rfl) (by rfl) T.Av um (pa1 (pcm ["word","least","words"] [4,5] (ae (top 39)) ["group","place","sieve","spread","least","words","unlike"] (aI (pv 6)) (λs H _=>iF DK (C9 (K:=K) rfl (r:=IF K) ZU Yap PySem.F.type_list_count IX (pv 2) (pa1 (pv 0))) (pv 1))))))))))),?_⟩
  refine⟨_,rfl,t,_,rfl,I,rfl,_,_,rfl,_,_,rfl,rfl,?_⟩;refine⟨_,rfl,_,rfl,u,p,n,a,rfl,Z,G,hp,λW y _ Y v=>?_⟩;refine⟨_,rfl,W,_,rfl,.of v,Nat.lt_trans (G.O0 p) (by decide),G.RX p,λU d hU N _=>?_⟩;have J:ab y (upd y U (.lst (d.map V.str))):=ab.new hU;have b:(upd y U (.lst (d.map V.str))) U=some (.lst (d.map V.str)):=aa;have g:=J _ _ v;have O:=Y.trans J;generalize upd y U (.lst (d.map V.str))=H2 at J b g O ⊢;have X:d.length=(uAt a p).length:=N.length_eq;have f:((d.map V.str).length:Int)=((uAt a p).length:Int):=by simp_all
  refine⟨_,rfl,U,_,rfl,.inl (.of b),_,_,rfl,rfl,_,rfl,?_⟩;rw[f];cases c1:decide ((2:Int)<=((uAt a p).length:Int))with
  | false=>
   refine aX ⟨_,rfl,aX ?_⟩
   grind [jL]
  | true=>
   refine bN ⟨_,rfl,_,_,rfl,rfl,_,rfl,?_⟩;cases c2:decide (((uAt a p).length:Int)<=s)with
   | false=>
    refine aX ?_
    grind [jL]
   | true=>
    refine bN ⟨_,rfl,U,rfl,⟨_,.of b⟩,λB M=>?_⟩;refine aB (K:=K) (xs:=d.map V.str) (λi c D o=>(∃u,D=[u,some (.int l),some (.ref W)])/\ab H2 o/\c=((d.take i).map λw=>decide (l<=((wAt a p).countP λz=>decide (z=w):Nat))).map V.bl) aa ⟨⟨_,rfl⟩,ab.new M,rfl⟩ (λi c D o _ _ q=>.of (q.2.1 _ _ b)) (λi x c D o hx L q=>?_) (λc D o j q=>?_)
    ·obtain⟨R,C,rfl⟩:=q;apply cY R;clear R;intro _;obtain⟨_,hw,rfl⟩:=ee hx;have hu:=G.RX p;have m:=C _ _ g;refine bZ ⟨_,rfl,.inl ⟨rfl,_,.of m⟩,_,rfl,W,_,_,rfl,rfl,.of m,rfl,G9 _,_,rfl,_,_,rfl,rfl,?_⟩;refine⟨_,L,small (by rw[XA,XA,X4];lia),_,aa,⟨_,rfl⟩,ar M C,?_⟩;rw[Dg,XW,hw];simp
    ·obtain⟨_,C,rfl⟩:=q;rw[XA,XY (XD _)]at j;refine⟨B,_,rfl,.of j,?_⟩;have e:jL a p s l=((d.map λw=>decide (l<=((wAt a p).countP λz=>decide (z=w):Nat))).all id):=by
      unfold jL;rw[c1,c2,List.all_map,YY,YY];exact(Jg N).symm
     rw[<-e];exact k o (O.trans C)
def VY:Str:=("place_to_part_at" : Str) ++ ".<locals>." ++ "<lambda>"
def cD (P:Yau) (H:Hp):Prop:=gW P ⟨120,27,120,69⟩ VY H
def lE (K:Vzz) (P:Yau):Sp:=λvs H Q _=>∃(u:V) (n:Nat) (wss:Qqu) (t:Yau) (s l:Int),vs=[u,.ref t]/\Den K H u (gD wss)/\GOk n wss/\SqT K H t [.int s,.int l]/\cD P H /\
 ∀H',ab (wo P H) H'->cD P H'->Q (Wd (plc wss n s l)) H'
theorem fW:ax ["group","sieve","places"] ["group","sieve"] (ae (top 40)):=fsc
theorem lC (T:Tx K mg A):Okd T.cV P w base 5 (lE K A.ap):=by
 refine T.cV.fn.okC T.lam.code fW (λvs H Q E h=>?_) (λ_ _ s H vs Q E Y h=>?_)
 ·obtain⟨u,n,wss,t,s,l,rfl,_⟩:=h;rfl
 ·obtain⟨u,n,wss,t,b,l,rfl,f,F,X,a3,k⟩:=h;obtain⟨a,U,rfl,hq,B⟩:=D6 f;have a7:U.length=wss.length:=by rw[B.length,XA]
  have a6:0<wss.length:=ZA.mpr F.ne;have z:U[0]? = some U[0]:=XJ (by lia);obtain⟨a4,r0,a5,Z,Wa⟩:=qK B z;have a8:=F.Gk;refine⟨_,af (gb (i:=2) (N':=["place","group","sieve"]) (n:=1) (fi:=[0,1]) (g:=bf 0) fW.nd rfl (Or.inl rfl) rfl (bX (ae (top 40)) ["group","sieve","places"] (by decide +kernel)) (d4 (by rfl) T.gf (pa1 (aE (r:=cZ K) aS (by rfl) T.cM Z8 (pa1 (fj K (pv 0) ak))))) (λs H fp=>aM (i:=0) (show(["place","group","sieve"]:Qqv).Nodup by decide +kernel) rfl (Or.inl rfl) (.inr rfl)) (λs H fp=>cT (b7 (aY T.fe (jU T) Y (ag (pv 1) (ag (pv 0) (pa1 (pv 2))))))) (λs H fp=>pv 0))
   (aj (au (MQ (P:=A.ap) (y:= "place") (N':=["place","group"]) (fi:=[0]) rfl Y (Qf (ae (top 40)) ["group","sieve","places"] (by decide +kernel)) rfl T.lam.hd T.lam.bm (λq _ s H=>e9 ((mD T).mono (by decide)) (Y.in1.deeper _) (by rfl) T.dZ.mg T.dZ.fn.kp T.dZ.bd .nil bu (ag (pv 1) (pa1 (pv 0)))) (by rfl) T.N5 (pa1 (pv 2))))),?_⟩
  rw[Z]at z;refine⟨_,rfl,a,U,0,_,rfl,rfl,hq,d5 (j:=0) z,r0,_,rfl,.inl Wa,(n:Int),?_,by lia,by lia,λD hD=>?_⟩
  ·rw[XA,(F.row a4 (XB a5)).1]
  refine eP (λi v σ H4=>(∃u,σ=[u,some (.ref a),some (.ref t)])/\ab H H4/\v=(jF wss i b l).map λp=>V.int (p:Nat)) aa ⟨⟨_,rfl⟩,ab.new hD,rfl⟩ (λi v σ H4 _ R q=>?_) (λv σ H4 W q=>?_)
  ·obtain⟨q0,o,rfl⟩:=q;apply cY q0;clear q0;intro _;have a9:=LB (wss:=wss) (i:=i) (s:=b) (l:=l);have e0:((0:Int)+(i:Int))=((i:Nat):Int):=by lia
   refine⟨_,rfl,_,rfl,_,rfl,.ref a,i,n,wss,t,b,l,?_,f.same o,F,(by lia),o.eQ X,λH5 S=>⟨_,rfl,?_⟩⟩
   ·rw[e0];rfl
   rw[Hm];cases hf:jL wss i b l with
   | true=>
    refine bN ⟨_,rfl,_,S _ _ R,small (by grind),_,aa,⟨_,rfl⟩,ar hD (o.trans S),?_⟩
    simp_all
   | false=>
    refine aX ⟨_,S _ _ R,⟨_,rfl⟩,o.trans S,?_⟩
    simp_all
  ·obtain⟨_,o,rfl⟩:=q;have C:cD A.ap H4:=av a3 o;refine⟨_,rfl,.ref D,rfl,C,λc H5 hn L a0=>?_⟩;have sw:ab (wo A.ap H4) H5:=K8 hn;obtain⟨_,G⟩:=aN C;have O:ab (wo A.ap H) H5:=(g8 o).trans sw;have en:(n:Int).toNat=n:=by lia
   refine wO (kds:=(jF wss n b l).map λp=>.int (uAt wss p).length) (Sh.ok .int) (.of (yl sw G W λ_ e=>by cases e)) (by simp) (λd f=>?_) (λm x d H6 _ N f J kk=>?_) (λ_=>?_) (λI H6 J=>?_)
   ·obtain⟨p,_,rfl⟩:=XE.mp f;exact⟨⟨_,rfl⟩,MX _⟩
   ·rw[en,XM]at N;rw[XM]at f;cases e:(jF wss n b l)[m]? with
    | none=>rw[e]at N;cases N
    | some p=>
     rw[e]at N f;cases N;cases f;exact⟨_,rfl,J _ _ a0,_,rfl,_,rfl,.ref a,p,n,wss,rfl,((xm G (f.same o)).same sw).same J,F,((y3 (XB e)).1),λH7 s7=>kk _ H7 s7 (.int _)⟩
   ·have e:plc wss n b l=none:=by
     unfold plc
     simp_all
    have:=k H5 O L
    rwa [e]at this
   ·rw[en]at I ⊢;have M:jF wss n b l≠[]:=λe=>I (by rw[e];rfl);have e:plc wss n b l=some ((jF wss n b l).getD (cS ((jF wss n b l).map λp=>.int (uAt wss p).length)) 0):=by unfold plc;rw[Yb8 M]
    have:=k H6 (O.trans J) (av L J);rw[e]at this;have e2:((jF wss n b l).map λp=>V.int (p:Nat)).getD (cS ((jF wss n b l).map λp=>.int (uAt wss p).length)) .non=V.int ((jF wss n b l).getD (cS ((jF wss n b l).map λp=>.int (uAt wss p).length)) 0:Nat):=by
     rw[Yl,XM,Yl,XJ (Al wss _ M)];rfl
    rwa [e2]
def DR (N:Nat) (K:Vzz) (P:Yau):Sp:=λvs H Q _=>∃(B:Hp) (u:V) (n:Nat) (wss:Qqu) (t:Yau) (s l:Int),vs=[u,.ref t]/\ab B H/\B P=none/\Den K B u (gD wss)/\GOk n wss/\SqT K H t [.int s,.int l]/\cD P H/\mu n wss<N /\
 ∀(D:Yau) (ys:Qqt) (C H':Hp),H D=none->ab (wo P H) H'->cD P H'->H' D=some (.lst ys)->ab B C->ab C H'->(∀b,C b≠none->B b≠none\/H b=none)->C P=none->ay K C ys ((prt n s l N wss).map gD)->Q (.ref D) H'
def Gs (K:Vzz) (P:Yau):Sp:=DR 13 K P
theorem kJ:ax ["group","sieve","place","groups","smaller"] ["group","sieve"] (ae (top 41)):=fsc
theorem DY (T:Tx K mg A):∀N,Okd T.parted P w base (6+N) (DR N K A.ap)
 | 0=>⟨λvs H Q E h=>by obtain⟨B,u,n,wss,t,s,l,rfl,_⟩:=h;rfl,λ_ _ _ _ _ _ _ _ _ _ _ _ _ h=>by obtain⟨B,u,n,wss,t,s,l,_,_,_,_,_,_,_,M,_⟩:=h;lia⟩
 | N+1=>by
  refine T.parted.fn.ok kJ (λvs H Q E h=>?_) (λ_ _ _ s H vs R E hr h=>?_)
  ·obtain⟨B,u,n,wss,t,s,l,rfl,_⟩:=h;rfl
  ·obtain⟨B,u,n,wss,t,j,l,rfl,Z,ai,r,ok,a7,ao,_,k⟩:=h;refine⟨_,af (aV (i:=2) kJ.nd rfl (Or.inl rfl) (e9 ((lC T).mono (by lia)) hr (by rfl) T.cV.mg T.cV.fn.kp T.cV.bd .nil bu (ag (pv 0) (pa1 (pv 1)))))
   (af (bg (bp CV (pv 2) Dm) (aj (au (br (pa1 (pv 0))))) aG)
   (af (aV (i:=3) kJ.nd rfl (Or.inl rfl) (br dG))
   (af (gQ UO rfl (aI (e9 ((sm T).mono (by lia)) hr (by rfl) T.k8.mg T.k8.fn.kp T.k8.bd .nil bu (ag (pv 0) (pa1 (e9 ((j4 T).mono (by lia)) hr (by rfl) T.gO.mg T.gO.fn.kp T.gO.bd .nil bu (ag (pv 0) (pa1 (pv 2)))))))) (pn 4 kJ.nd) (aj (bV (fc ZU PySem.F.slot_list_extend PySem.F.type_list_extend wm (pv 3) (pa1 (e9 (DY T N) hr (by rfl) T.parted.mg T.parted.fn.kp T.parted.bd .nil bu (ag (pv 4) (pa1 (pv 1)))))))))
   (aj (au (pv 3)))))),?_⟩
   obtain⟨a,xs,rfl,hqB,SW⟩:=D6 r;have b9:xs.length=wss.length:=by rw[SW.length,XA]
   obtain⟨_,b8⟩:=aN ao;refine⟨_,rfl,_,rfl,.ref a,n,wss,t,j,l,rfl,r.same Z,ok,a7,ao,λH1 s1 Y=>?_⟩;have U:ab B H1:=(hJ ai Z).trans s1;obtain⟨_,RM⟩:=aN Y;have L:∀{b:Yau}{H':Hp},ab (wo A.ap H) H'->H' b=none->b≠A.ap->H b=none:=λ{b H'} j e ne=>by
    have:=j.free e
    rwa [aq ne]at this
   refine⟨_,rfl,rfl,_,rfl,?_⟩;cases hpl:plc wss n j l with
   | none=>
    refine bN ⟨_,rfl,(by show 1<=Yb0;decide),λD hD=>?_⟩;have sD:ab H1 (upd H1 D (.lst [.ref a])):=ab.new hD;have e:prt n j l (N+1) wss=[wss]:=by unfold prt;rw[hpl]
    exact k D _ B _ (L s1 hD (aw RM hD).symm) (s1.trans sD) (av Y sD) aa (ab.refl B) (U.trans sD) (λb h=>.inl h) ai (by rw[e];exact .cons r .nil)
   | some p=>
    obtain⟨hp,Vq⟩:=yu hpl;have bl:prt n j l (N+1) wss=(byW wss p).flatMap (prt n j l N):=by
     conv=>lhs;unfold prt
     rw[hpl]
    refine aX ?_;refine⟨XT _,λG hG=>?_⟩;have sG:ab H1 (upd H1 G (.lst [])):=ab.new hG;have a4:(upd H1 G (.lst [])) G=some (.lst []):=aa;have J:G≠A.ap:=(aw RM hG).symm;have ak:=av Y sG;have s2:ab (wo A.ap H) (upd H1 G (.lst [])):=s1.trans sG;generalize upd H1 G (.lst [])=H2 at sG a4 ak s2 ⊢;refine⟨_,rfl,_,rfl,_,rfl,.ref a,p,n,wss,rfl,r.same (U.trans sG),ok,hp,λW _ _ s3 b5=>?_⟩;have b1:=sG.trans s3;have ek:((wAt wss p).map V.str)=((wAt wss p).map (Sum.inr:Str->Key)).map kV:=by rw[Yg];rfl
    rw[ek]at b5;have bx:=ok.le;refine⟨a,W,xs,(wAt wss p).map Sum.inr,rfl,(U.trans b1).seq hqB,.of b5,by rw[XA];unfold wAt;rw[XA,b9],by lia,λD as H4 hD s4 X b7 gZ=>⟨D,rfl,⟨_,.of X⟩,?_⟩⟩;have b6:=b1.trans s4;have b3:=s3 _ _ a4;have bj:=s4 _ _ b3;have a3:cD A.ap H4:=av ak (s3.trans s4);have ax:ab (wo A.ap H) H4:=s2.trans (s3.trans s4);obtain⟨_,Ck⟩:=aN a3;have d:H G=none:=L s1 hG J;have bq:B G=none:=by
     cases e:B G with
     | none=>rfl
     | some o=>rw[Z _ _ e]at d;cases d
    have hC:∃f:Hp,ab B f/\ab f H4/\f G=none/\f A.ap=none/\(∀b,f b≠none->B b≠none\/H b=none)/\∀c∈as,(∀g,H4 c=some (.lst g)->g≠[]->f c=H4 c):=by
     refine⟨λb=>if b=G\/b=A.ap then none else if B b≠none\/b∈as then H4 b else none,λb o e=>?_,λb o e=>?_,by simp,by simp,λb hb=>?_,λc _ g _ _=>?_⟩
     ·have M:b≠G:=nw e bq
      have h2:b≠A.ap:=λz=>by lia
      show(if b=G\/b=A.ap then none else _)=_;rw[Yb8 (by rintro(z | z) <;> contradiction),Yb7 (.inl (by rw[e];simp))];exact(U.trans b6) _ _ e
     ·lia
     ·dsimp only at hb
      split at hb
      ·exact absurd rfl hb
      ·rename_i hn
       split at hb
       ·rename_i hor;rcases hor with z | z
        ·exact .inl z
        ·refine .inr (L (s2.trans s3) (b7 b z) λw=>hn (.inr w))
       ·exact absurd rfl hb
     ·lia
    obtain⟨f,a9,bt,bb,b4,a0,bo⟩:=hC;have LU:=DZ (vJ (SW.same a9)) ((wAt wss p).map Sum.inr);refine iI (K:=K) (xs:=as.map V.ref) (λi σ H5=>(∃v,σ=[some (.ref a),some (.ref t),some (.int p),some (.ref G),v])/\ab (wo A.ap (wo G H4)) H5/\cD A.ap H5/\∃(acc:Qqt) (C:Hp),H5 G=some (.lst acc)/\ab f C/\ab C H5/\C G=none/\C A.ap=none/\(∀b,C b≠none->B b≠none\/H b=none)/\ay K C acc ((((byW wss p).take i).flatMap (prt n j l N)).map gD))
     ⟨⟨_,rfl⟩,bc.trans bc,a3,[],f,bj,ab.refl _,bt,bb,b4,a0,.nil⟩ (λi σ H5 _ q=>.of (q.2.1 _ _ (by
      have M:D≠G:=nw hD b3
      have h2:D≠A.ap:=nw X Ck
      rwa [aq h2,aq M]))) (λi x σ H5 hx q=>?_) (λσ H5 q=>?_)
    ·obtain⟨q0,s5,I,acc,C,S,sC,m,cG,cP,cb,dn⟩:=q;apply cY q0;clear q0;intro v;rw[XM]at hx;obtain⟨c,b0,rfl⟩:∃c,as[i]? = some c/\x = .ref c:=by
      cases e:as[i]? with
      | none=>rw[e]at hx;cases hx
      | some c=>rw[e]at hx;cases hx;exact⟨c,rfl,rfl⟩
     obtain⟨g,bh,a5⟩:=gZ.at b0;obtain⟨wg,a6,b2⟩:=LU.at bh;have y:wg∈byW wss p:=XB a6;have MK:=(oH y).1;have SI:g≠[]:=λe=>by
      have:=b2.len;rw[e]at this;exact MK (Zo.mp this.symm)
     have O:ab (wo A.ap H) H5:=λb o e=>by
      by_cases M:b=G
      ·rw[M,aq J,d]at e;cases e
      ·have h2:=(aZ e).1;exact s5 b o (Xf h2 M (ax b o e))
     refine⟨_,rfl,.inl ⟨rfl,_,.of S⟩,_,rfl,_,rfl,f,.ref c,n,wg,t,j,l,rfl,(sC.trans m),b4,(.lst (.of ((bo c (XB b0) g a5 SI).trans a5)) (wH b2)),ok.sub y,(O.eQ (mO b8 a7)),I,by have:=Oq hp (wW Vq) y;lia,λD2 ys C' H6 _ s6 be NN _ Rg bf ba ae=>?_⟩;obtain⟨_,xN⟩:=aN I;have a8:H6 G=some (.lst acc):=yl s6 xN S λ_ e=>by cases e
     have az:ab C H6:=(hJ cP m).trans s6;have ah:C' G=none:=by
      grind
     have c0:acc.length<=wss.length:=by rw[dn.length,XA];exact L7 i
     have bz:ys.length<=wg.length:=by rw[ae.length,XA];exact nu MK
     have bw:=(oH y).2.1;refine⟨G,D2,acc,ys,rfl,rfl,a8,NN,XG (show _<=1000 by lia) (by decide),?_⟩;refine⟨⟨_,rfl⟩,ar (by rw[aq J,eM]) (bL s5 s6),qG be a8,acc++ys,hU C C',aa,sC.trans Sl,ar (xT cG ah) (Rc az Rg),xT cG ah,xT cP ba,λb hb=>?_,?_⟩
     ·rcases Tq hb with z | z
      ·exact cb b z
      ·rcases bf b z with w | w
       ·exact a0 b w
       ·refine .inr (L O w λe=>z (by rwa [e]))
     ·rw[XW,show(byW wss p)[i]? = some wg from a6];simp only[Option.toList,List.flatMap_append,XH,Yr,List.flatMap_nil,Ym];exact(dn.same Sl).append (ae.same (VH az Rg))
    ·obtain⟨q0,s5,I,acc,C,S,sC,m,cG,cP,cb,dn⟩:=q;apply cY q0;clear q0;intro v;have bk:as.length=(byW wss p).length:=by rw[gZ.len,LU.len];rfl
     rw[XA,bk,XY (XD _)]at dn;have O:ab (wo A.ap H) H5:=λb o e=>by
      by_cases M:b=G
      ·rw[M,aq J,d]at e;cases e
      ·have h2:=(aZ e).1;exact s5 b o (Xf h2 M (ax b o e))
     refine⟨_,rfl,k G acc C H5 d O I S (a9.trans sC) m cb cP ?_⟩
     rwa [bl]
theorem GJ (T:Tx K mg A):Okd T.parted P w base 19 (Gs K A.ap):=DY T 13
def lJ (K:Vzz):Sp:=λvs H Q _=>∃(u:V) (n:Nat) (wss:Qqu),vs=[u]/\Den K H u (gD wss)/\GOk n wss /\
 ∀D acc H',H D=none->ab H H'->H' D=some (.lst acc)->ay K (lim H H') acc ((bA (wss.map iC) n).map Pt.dat)->Q (.ref D) H'
theorem Tv {M:Yau} (h:H M=some (.lst xs)):ab (tO H) (wo M H):=λb o e=>by
 obtain⟨n,e⟩:=Ep e;have:b≠M:=λz=>by rw[z,h]at e;cases e;exact n _ rfl
 rwa [aq this]
theorem lF:ax ["group"] ["group"] (ae (top 42)):=fsc
theorem lm (T:Tx K mg A):Okd T.fE P w base 6 (lJ K):=by
 refine T.fE.fn.ok lF (λvs H Q E h=>?_) (λ_ _ _ s H vs Q E hr h=>?_)
 ·obtain⟨u,n,wss,rfl,_⟩:=h;rfl
 ·obtain⟨u,n,wss,rfl,hd,J,k⟩:=h;obtain⟨a,xs,rfl,hq,G⟩:=D6 hd;have a0:xs.length=wss.length:=by rw[G.length,XA]
  have a6:=J.le;have a5:=J.Gk;refine⟨_,aj (au (aY T.joined (GU T) hr (pa1 (pcm ["words"] [] (ae (top 42)) ["group"] (aI (pv 0)) (λs H fp=>cm (wi:=y7 K (o5 0)) (N':=["word"]) (n:=1) (fi:=[]) (g:=bf 0) rfl (qS (ae (top 42)) (by decide +kernel)) (aI (pv 0)) (λs H fp=>aM (i:=0) (nT _) rfl (Or.inl rfl) (.inr rfl)) (λs H fp=>cy) (λs H fp=>cB (ag aH (pa1 (pv 0))))))))),?_⟩;refine⟨_,rfl,a,rfl,⟨_,hq⟩,λM hM=>?_⟩;refine aB (K:=K) (xs:=xs) (λi c U F=>(∃u,U=[u])/\ab H F/\ay K (wo M F) c (((wss.take i).map iC).map aD)) aa ⟨⟨_,rfl⟩,ab.new hM,.nil⟩ (λi c U F _ _ q=>q.2.1.seq hq) (λi x c U F hx L q=>?_) (λc U F a4 q=>?_)
  ·obtain⟨R,C,d⟩:=q;apply cY R;clear R;intro u;obtain⟨o,r,hw,rfl,O⟩:=qK G hx;have IG:=J.row o (XB hw);have a7:c.length<=64:=by rw[d.length,XA,XA,X4];lia
   refine bZ ⟨_,rfl,r,rfl,⟨_,C.seq O⟩,λI W=>?_⟩;refine aB (K:=K) (xs:=o.map V.str) (λj B l f=>(∃u,l=[u])/\ab F f/\ay K (tO f) B (((o.take j).map Pt.word).map Pt.dat)) aa ⟨⟨_,rfl⟩,ab.new W,.nil⟩ (λj B l f _ _ q=>(C.trans q.2.1).seq O) (λj y B l f hy a3 q=>?_) (λB l f _ q=>?_)
   ·obtain⟨R,z,b⟩:=q;apply cY R;clear R;intro u;obtain⟨v,m,rfl⟩:=ee hy;have WX:B.length+1<=20:=by rw[b.length,XA,XA,X4];lia
    refine bZ ⟨_,rfl,(by show 2<=Yb0;decide),λt ht=>?_⟩;have st:ab f (upd f t (.tup [.str "word",.str v])):=ab.new ht;have pt:QE (upd f t (.tup [.str "word",.str v])) (.ref t) (.word v):=⟨t,rfl,aa⟩;have N:=st _ _ a3;refine⟨_,N,small (by lia),_,aa,⟨_,rfl⟩,ar W (z.trans st),?_⟩;have et:(o.take (j+1)).map Pt.word=(o.take j).map Pt.word++[.word v]:=by rw[XW,m];simp
    rw[et,XH];have tt:=Pb (ys:=B++[.ref t]) N;exact(b.same ((RD st).trans tt)).append (.cons ((pt.den (IG.2 v (XB m))).same tt) .nil)
   ·obtain⟨_,z,b⟩:=q;rw[XA,XY (XD _)]at b;have S:=z _ _ L;refine⟨_,S,small (by lia),_,aa,⟨_,rfl⟩,ar hM (C.trans z),?_⟩;rw[B4,XW,hw];simp only[Option.toList,XH,XS,YU];refine(d.same (g8 z)).append (.cons (.lst (xs:=B) (.of (by rwa [aq ((aw L W).symm)])) (b.same (Tv S))) .nil)
  ·obtain⟨_,C,d⟩:=q;rw[a0,XY (XD _)]at d;refine⟨M,c,wss.map iC,n,rfl,.of a4,d.same bc,λe=>J.ne (YI.mp e),by grind,λ_ Y=>?_,λD U8 f hD z X b=>?_⟩
   ·obtain⟨o,Z,rfl⟩:=XE.mp Y;have IG:=J.row o Z;refine⟨⟨by unfold iC;rw[XA];lia,λp hp=>?_⟩,by grind [iC,XA]⟩;obtain⟨v,m,rfl⟩:=XE.mp hp;exact(IG.2 v m).ok
   ·exact k D U8 f (C.free hD) (C.trans z) X (b.same (cJ C.ll))
def xi (K:Vzz) (P:Yau):Sp:=λvs H Q _=>∃(a t:Yau) (zs:Qqv) (s l:Int),vs=[.ref a,.ref t]/\Rd H a (.lst (zs.map V.str))/\zs.length<64/\(∀z∈zs,∃ws,fU 12 z ws)/\SqT K H t [.int s,.int l]/\cD P H /\
 ∀(D:Yau) (ms:Qqv) (acc:Qqt) (H':Hp) (ps:Qqr),ms.Perm (fg [] zs)->UpS ms->H D=none->ab (wo P H) H'->cD P H'->H' D=some (.lst acc)->ps.Perm (gth s l (ms.map λz=>Z5 z " "))->ow ps->mw ps->ps.length<64->K5 H H' acc->(∀x∈acc,x ≠ .ref D)->ay K (lim H H') acc (ps.map aD)->Q (.ref D) H'
theorem Dy (h:ms[i]? = some z):(ms.take (i+1)).map (λz=>Z5 z " ")=(ms.take i).map (λz=>Z5 z " ")++[Z5 z " "]:=by
 rw[XW,h];simp
theorem ik:ax ["lines","sieve","rows","patterns","group"] ["lines","sieve"] (ae (top 43)):=fsc
theorem pT (T:Tx K mg A):VP T.gathered P w base 20 (xi K A.ap):=by
 refine T.gathered.fn.ok ik (λvs H Q E h=>?_) (λ_ _ _ s H vs Q E hr h=>?_)
 ·obtain⟨a,t,zs,s,l,rfl,_⟩:=h;rfl
 ·obtain⟨a,t,zs,Y,l,rfl,cx,_,c1,c5,bh,k⟩:=h;refine⟨_,af (gb (i:=2) (N':=["line"]) (n:=1) (fi:=[]) (g:=bf 0) ik.nd rfl (Or.inl rfl) rfl (bX (ae (top 43)) ["lines","sieve","rows","patterns","group"] (by decide +kernel)) (aI (yp (my rfl hr) rfl (by rfl) T.fm gr (by rfl) T.Ld Dw (pa1 (pv 0)))) (λs H fp=>aM (i:=0) (nT _) rfl (Or.inl rfl) (.inr rfl)) (λs H fp=>cy) (λs H fp=>aY T.words_of (ib T) hr (pa1 (pv 0))))
   (af (aV (i:=3) ik.nd rfl (Or.inl rfl) (br dG))
   (af (gQ UO rfl (aI (aY T.k8 (sm T) hr (ag (pv 2) (pa1 (pcm ["words"] [] (ae (top 43)) ["lines","sieve","rows","patterns","group"] (aI (pv 2)) (λs H fp=>aE (r:=cZ K) aS (by rfl) T.cM Z8 (pa1 (pv 0)))))))) (pn 4 ik.nd) (aj (bV (fc ZU PySem.F.slot_list_extend PySem.F.type_list_extend wm (pv 3) (pa1 (pcm ["smaller"] [] (ae (top 43)) ["lines","sieve","rows","patterns","group"] (aI (aY T.parted (GJ T) hr (ag (pv 4) (pa1 (pv 1))))) (λs H fp=>aY T.fE (lm T) hr (pa1 (pv 0)))))))))
   (aj (au (aY T.ordered (l3 T) hr (pa1 (pv 3))))))),?_⟩
  have d1:=uh zs;refine⟨_,rfl,a,zs,rfl,cx,by lia,by lia,λS ms hS bw cf=>⟨S,rfl,⟨_,.of aa⟩,λR hR=>?_⟩⟩;have d2:=bw.length_eq;have b8:∀z∈ms,∃ws,fU 12 z ws:=λz hz=>c1 z ((ij.mp (bw.mem_iff.mp hz)).resolve_left (by simp));obtain⟨tb,b1⟩:=aN bh;have sS:ab H (upd H S (.lst (ms.map V.str))):=ab.new hS;have b3:(upd H S (.lst (ms.map V.str))) S=some (.lst (ms.map V.str)):=aa;generalize upd H S (.lst (ms.map V.str))=H1 at sS b3 hR ⊢;refine aB (K:=K) (xs:=ms.map V.str) (λi I m H2=>(∃u,m=[u])/\ab H1 H2/\ay K (wo R H2) I (((ms.take i).map λz=>Z5 z " ").map wsD)) aa ⟨⟨_,rfl⟩,ab.new hR,.nil⟩ (λi I m H2 _ _ q=>.of (q.2.1 _ _ b3)) (λi x I m H2 hx bb q=>?_) (λI m H2 bq q=>?_)
  ·obtain⟨U,s2,a0⟩:=q;apply cY U;clear U;intro u;obtain⟨z,hz,rfl⟩:=ee hx;obtain⟨ws,f⟩:=b8 z (XB hz);have bl:I.length<=64:=by rw[a0.length,XA,XA,X4];lia
   refine bZ ⟨_,rfl,z,rfl,XG (f.ok (by decide)).2 (by decide),λL hL=>?_⟩;have sL:ab H2 (upd H2 L (.lst ((Z5 z " ").map V.str))):=ab.new hL;refine⟨_,sL _ _ bb,small (by lia),_,aa,⟨_,rfl⟩,ar hR (s2.trans sL),?_⟩;rw[B4,Dy hz,XH];refine(a0.same (g8 sL)).append (.cons (.lst (xs:=(Z5 z " ").map V.str) (.of (Xe ((aw bb hL).symm) aa)) ?_) .nil);rw[f.split];exact eX λw hw=>(f.wd w hw).ok
  ·obtain⟨_,s2,a0⟩:=q;rw[XA,XY (XD _)]at a0;have a5:=a0.same bc;have ai:jv (ms.map λz=>Z5 z " "):=⟨by rw[XA];lia,λws bz=>by
    obtain⟨z,hz,rfl⟩:=XE.mp bz;obtain⟨ws,f⟩:=b8 z hz;rw[f.split];exact⟨f.pos,f.le,λw hw=>⟨(f.wd w hw).word,XG (f.wd w hw).len (by decide),(f.wd w hw).ok⟩⟩⟩
   have cs:(ms.map λz=>Z5 z " ").length=ms.length:=XA _;generalize hrs:(ms.map λz=>Z5 z " ")=rss at a5 ai cs;have R7:I.length=rss.length:=by rw[a5.length,XA]
   have ah:=sS.trans s2;refine⟨XT _,λG hG=>?_⟩;have sG:ab H2 (upd H2 G (.lst [])):=ab.new hG;have a8:(upd H2 G (.lst [])) G=some (.lst []):=aa;have cm:=ah.trans sG;have a3:=sG _ _ bq;generalize upd H2 G (.lst [])=H3 at sG a8 cm a3 ⊢;refine⟨_,rfl,_,rfl,R,rfl,⟨_,.of a3⟩,λKL ax=>?_⟩;refine aB (K:=K) (xs:=I) (λi O m H4=>(∃u,m=[u])/\ab H3 H4/\O=((rss.take i).map λws=>(Sum.inl (ws.length:Int):Key)).map kV) aa ⟨⟨_,rfl⟩,ab.new ax,rfl⟩ (λi O m H4 _ _ q=>.of (q.2.1 _ _ a3)) (λi x O m H4 hx d0 q=>?_) (λO m H4 b5 q=>?_)
   ·obtain⟨U,s4,rfl⟩:=q;apply cY U;clear U;intro u;obtain⟨ws,r,hw,rfl,cu⟩:=qK a5 hx;refine bZ ⟨_,rfl,r,_,rfl,.inl ((sG.trans s4).seq cu),_,d0,small (by grind),_,aa,⟨_,rfl⟩,ar ax s4,?_⟩;rw[XW,hw];simp[kV]
   ·obtain⟨_,s4,rfl⟩:=q;rw[R7,XY (XD _)]at b5;refine⟨R,KL,I,_,rfl,.of (s4 _ _ a3),.of b5,by rw[XA];lia,by lia,λD as H5 hD s5 bx _ gZ=>⟨D,rfl,⟨_,.of bx⟩,?_⟩⟩;have b9:=sG.trans (s4.trans s5);have a6:=ah.trans b9;have cv:=(s4.trans s5) _ _ a8;have xN:=a6 _ _ b1;have a9:G≠A.ap:=λe=>by lia
    have c8:=ah.free hG;have c0:D≠G:=λe=>by rw[e,s4 _ _ a8]at hD;cases hD
    have c2:D≠A.ap:=λe=>by lia
    have LU:=DZ (vJ (a5.same (hJ hG b9))) (rss.map λws=>(Sum.inl (ws.length:Int):Key));have ba:(wo G H5) A.ap=some (.tbl tb):=by rwa [aq a9.symm]
    refine iI (K:=K) (xs:=as.map V.ref) (λi m H6=>(∃v,m=[some (.ref a),some (.ref t),some (.ref R),some (.ref G),v])/\ab (wo A.ap (wo G H5)) H6/\cD A.ap H6/\∃xK:Qqt,H6 G=some (.lst xK)/\ay K (wo G H6) xK ((((byL rss).take i).flatMap (Dh Y l)).map aD))
     ⟨⟨_,rfl⟩,bc.trans bc,(av bh a6),[],cv,.nil⟩ (λi m H6 _ q=>.of (q.2.1 _ _ (by rwa [aq c2,aq c0]))) (λi x m H6 hx q=>?_) (λm H6 q=>?_)
    ·obtain⟨U,s6,Z,xK,a4,X⟩:=q;apply cY U;clear U;intro v;rw[XM]at hx;obtain⟨c,ct,rfl⟩:∃c,as[i]? = some c/\x = .ref c:=by
      grind
     obtain⟨g,cc,_⟩:=gZ.at ct;obtain⟨J,b2,bj⟩:=LU.at cc;have b4:=XB b2;have MK:=(DE b4).1;have SI:g≠[]:=λe=>by
      have:=bj.len
      grind
     have ck:c≠G:=λz=>by lia
     have B:=pO ai b4;refine⟨_,rfl,.inl ⟨rfl,_,.of a4⟩,_,rfl,_,rfl,wo A.ap (wo G H5),.ref c,gn J,J,t,Y,l,rfl,s6,eM,(xm ba (.lst (.of (by rwa [aq ck])) (wH bj))),B,(s6.eQ (mO ba ((hJ c8 a6).eQ c5))),Z,by have:=Oz (gn J) J;have:=B.Gk;lia,λD2 ys C H7 _ s7 bk NN _ cg _ _ ak=>⟨D2,rfl,⟨_,.of NN⟩,λM hM=>?_⟩⟩;obtain⟨c7,S3⟩:=aN Z;obtain⟨_,_⟩:=aN bk;have bo:=yl s7 S3 a4 λ_ e=>by cases e
     have cj:ys.length=(prt (gn J) Y l 13 J).length:=by rw[ak.length,XA]
     have cp:=nu (n:=gn J) (s:=Y) (l:=l) (N:=13) MK;have bu:=B.le;refine aB (K:=K) (xs:=ys) (λj O m H8=>(∃u,m=[u])/\ab H7 H8/\ay K (lim (upd H7 M (.lst [])) H8) O ((((prt (gn J) Y l 13 J).take j).map λg'=>bA (g'.map iC) (gn J)).map aD)) aa ⟨⟨_,rfl⟩,ab.new hM,.nil⟩ (λj O m H8 _ _ q=>.of (q.2.1 _ _ NN)) (λj y O m H8 hy b0 q=>?_) (λO m H8 cz q=>?_)
     ·obtain⟨U,s8,W⟩:=q;apply cY U;clear U;intro u;obtain⟨d,cw,bp⟩:=ak.get hy;rw[XM]at cw;obtain⟨g',be,rfl⟩:∃g',(prt (gn J) Y l 13 J)[j]? = some g'/\d=gD g':=by
       grind
      have bl:O.length<=64:=by rw[W.length,XA,XA,X4];lia
      refine bZ ⟨_,rfl,y,gn J,g',rfl,bp.same (cg.trans s8),i5 B g' (XB be),λ_ Wq H9 bg s9 U4 c3=>?_⟩;refine⟨_,(s9 _ _ b0),small (by lia),_,aa,⟨_,rfl⟩,ar hM (s8.trans s9),?_⟩;rw[jb aa,XW,be];simp only[Option.toList,XH,XS,YU];have c4:LL (upd H7 M (.lst [])) H8:=λb zs e=>by
       by_cases hb:b=M
       ·exact⟨O,by rwa [hb]⟩
       ·rw[ao hb]at e;exact⟨zs,s8 _ _ e⟩
      exact(W.same (bM s9)).append (.cons (.lst (xs:=Wq) (.of ((bK (by rw[ao ((aw b0 bg).symm)];exact s8.free bg)).trans U4)) (c3.same (cJ c4))) .nil)
     ·obtain⟨_,s8,W⟩:=q;rw[cj,XY (XD _)]at W;have b6:=s8 _ _ bo;have yJ:xK.length<=rss.length:=by rw[X.length,XA];exact zP Y l rss i
      have bl:O.length<=64:=by rw[W.length,XA,XA];lia
      refine⟨G,M,xK,O,rfl,rfl,b6,cz,XG (show _<=1000 by lia) (by decide),?_⟩;refine⟨⟨_,rfl⟩,ar (by rw[aq a9,eM]) ((bL s6 s7).trans s8),qG (av bk s8) b6,xK++O,aa,?_⟩;rw[B4,XW,show(byL rss)[i]? = some J from b2];simp only[Option.toList,List.flatMap_append,XH,Yr,List.flatMap_nil,Ym];have sa:ab (wo A.ap (wo G H6)) (wo G H8):=λb o e=>by
       obtain⟨h1,e⟩:=aZ e;obtain⟨h2,e⟩:=aZ e;rw[aq h2];exact s8 _ _ (s7 _ _ (by rwa [aq h1]))
      exact((ke (by rwa [aq a9.symm]) X).same sa).append (W.same (LA (by rwa [ao ((aw bo hM).symm).symm])))
    ·obtain⟨U,s6,Z,xK,a4,X⟩:=q;apply cY U;clear U;intro v;have cn:as.length=(byL rss).length:=by rw[gZ.len,LU.len];rfl
     rw[XA,cn,XY (XD _)]at X;have bu:(gth Y l rss).length<=rss.length:=by
      have:=zP Y l rss (byL rss).length
      rwa [XY (XD _)]at this
     have cp:xK.length=(gth Y l rss).length:=by rw[X.length,XA];rfl
     have B:mw (gth Y l rss):=Qz ai;have a7:ab (wo A.ap H) H6:=λb o e=>by
      obtain⟨h1,e⟩:=aZ e;have h2:b≠G:=λz=>by lia
      exact s6 b o (Xf h1 h2 (a6 b o e))
     refine⟨_,rfl,G,xK,gth Y l rss,rfl,.of a4,by lia,X.same bc,λps az=>⟨XG (B ps az).2.2 (by decide),λp hp=>((B ps az).1 p hp).ok⟩,λD9 Wv H9 ps c6 s9 Rn Jy iy fr c9 bt=>?_⟩;obtain⟨c7,S3⟩:=aN Z;have b7:∀{b:Yau}{zs:Qqt},H6 b=none->H9 b=some (.lst zs)->H b=none:=λ{b zs} e1 e2=>by
      have h1:b≠A.ap:=λz=>by lia
      have:=a7.free e1
      rwa [aq h1]at this
     refine k D9 ms Wv H9 ps bw cf (b7 c6 Rn) (a7.trans s9) (av Z s9) Rn (by rwa [hrs]) iy (λq hq=>B q (Jy.mem_iff.mp hq)) (by rw[Jy.length_eq];lia) (λx hx=>?_) c9 (bt.same (cJ λb zs e=>?_))
     ·obtain⟨t',ys,e1,e2,e3,e4⟩:=fr x hx;exact⟨t',ys,e1,b7 e2 e3,e3,e4⟩
     ·have h1:b≠A.ap:=nw e b1
      exact⟨zs,a7 _ _ (by rwa [aq h1])⟩
def Dt (K:Vzz):Sp:=λvs H Q _=>∃z:Str,vs=[.str z]/\LOk z/\Z2 z=true/\(Z5 z " ").length<=12/\(∀w∈Z5 z " ",dh w=true)/\∀H',ab H H'->Q (.bl true) H'
theorem Mu (n:Nat):(UF n true).all id=true:=by
 simp
theorem uc:ax ["thing","words"] ["thing"] (ae (top 17)):=fsc
theorem Bs (T:Tx K mg A):Okd T.xk P w base 3 (Dt K):=by
 refine T.xk.fn.ok uc (λI H Q E h=>?_) (λ_ _ _ s H I Q E C h=>?_)
 ·obtain⟨z,rfl,_⟩:=h;rfl
 ·obtain⟨z,rfl,t,j,G,B,k⟩:=h;refine⟨_,af (bg (fC (b7 (aE (r:=OL K) zJ (by rfl) T.d8 dv (ag (pv 0) (pa1 (qI (v:=.ty "str") (by rfl) T.pe HI rfl)))))) (aj (au fA)) aG)
   (af (aV (i:=1) uc.nd rfl (Or.inl rfl) (aY T.words_of (ib T) C (pa1 (pv 0))))
   (aj (au (gY (iF wx (aE (r:=cZ K) aS (by rfl) T.cM Z8 (pa1 (pv 1))) (fM (v:=.int 12) (by rfl) (Ya7 T.wZ) ⟨_,rfl⟩)) (iw (aE (r:=Gu K) (j5 rfl) (by rfl) T.Av um (pa1 (pcm ["word"] [] (ae (top 17)) ["thing","words"] (aI (pv 1)) (λs H _=>aY T.nE (mq T) C (pa1 (pv 0))))))))))),?_⟩
  refine⟨_,rfl,_,"str",_,true,rfl,.str z,by rfl,_,rfl,aX ?_⟩;refine⟨_,rfl,z,rfl,t,λl q=>?_⟩;have o:ab H (upd H l (.lst ((Z5 z " ").map V.str))):=ab.new q;have d:=ug (y:= " ") j;generalize Z5 z " " = ws at o G B d;have g:SqL K (upd H l (.lst (ws.map V.str))) l (ws.map V.str):=.of aa;refine⟨_,rfl,l,_,rfl,.inl g,_,_,rfl,rfl,_,rfl,?_⟩;rw[XA,Yb4 (show(ws.length:Int)<=12 by lia)];refine bN ?_;refine⟨_,rfl,l,rfl,⟨_,g⟩,λD n=>?_⟩;generalize upd H l (.lst (ws.map V.str))=H1 at o g n;refine aB (K:=K) (xs:=ws.map V.str) (λi a f c=>(∃u,f=[u])/\ab H1 c/\a=(UF i true).map V.bl) aa ⟨⟨_,rfl⟩,ab.new n,rfl⟩ (λi a f c _ _ p=>p.2.1.seq g) (λi x a f c J b p=>?_) (λa f c b p=>?_)
  ·obtain⟨⟨u,rfl⟩,m,rfl⟩:=p;obtain⟨w,e,rfl⟩:=ee J;have L:=ba e;have F:=XB e;refine bZ ⟨_,rfl,w,rfl,XG (d w F).2 t,_,b,small (by grind),_,aa,⟨_,rfl⟩,ar n m,?_⟩;rw[B w F,Zd,XH];rfl
  ·obtain⟨_,m,rfl⟩:=p;refine⟨D,_,rfl,.of b,?_⟩;rw[Mu];exact k c (o.trans m)
def uU (K:Vzz) (A:Ad):Sp:=λvs H Q _=>∃(x t r b dx:Yau) (rv bv:Qqt) (rs:List (Int×Str)) (bs:Qqr) (s l:Int),vs=[.ref x,.ref t,.ref r,.ref b]/\H x=some (.ins A.aJ dx [])/\SqT K H t [.int s,.int l]/\H r=some (.lst rv)/\ay K H rv (rs.map iR)/\H b=some (.lst bv)/\ay K H bv (bs.map aD)/\rs.length<64/\(∀q∈rs,∃ws,fU 12 q.2 ws)/\bs.length<64/\mw bs/\cD A.ap H /\
 ∀(H':Hp) (f fl:Yau) (fv lv:Qqt) (fnd:Qqr) (fls:List (Option Qqs)),H f=none->H fl=none->ab (wo x (wo A.ap H)) H'->cD A.ap H'->H' x=some (.ins A.aJ dx [("rows",.ref r),("by_hand",.ref b),("found",.ref f),("falls",.ref fl)]) ->
  H' f=some (.lst fv)->ay K (lim H H') fv (fnd.map aD)->H' fl=some (.lst lv)->ay K (lim H H') lv (fls.map oP)->jC s l (eY bs (rs.map (·.2))) fnd->uo bs fnd (rs.map (·.2)) fls->Q .non H'
theorem Ir {bs:Qqr} (h:zs[i]? = some z):eY bs (zs.take (i+1))=eY bs (zs.take i)++if (bs.filter (bq z)).isEmpty then[z]else[]:=by
 unfold eY;rw[XW,h,Yq]
 grind
theorem EG {bs:Qqr}:(eY bs zs).length<=zs.length:=Yt _ _
theorem ir:ax ["self","sieve","rows","by_hand","lines","first"] ["self","sieve","rows","by_hand"] (ae (mIn 55 0)):=fsc
theorem lQ (T:Tx K mg A):OkM T.jk mg P w base 21 (uU K A):=by
 refine T.jk.fn.ok ir (λvs H Q E h=>?_) (λ_ _ _ s H vs Q E hr h=>?_)
 ·obtain⟨x,t,r,b,R,rv,bv,rs,bs,s0,l0,rfl,_⟩:=h;rfl
 ·obtain⟨x,t,r,b,R,rv,bv,rs,bs,s0,l0,rfl,hx,d2,b9,bz,hb,b5,_,_,_,b6,c9,k⟩:=h;have Vj:rv.length=rs.length:=by rw[bz.length,XA]
  have Xu:bv.length=bs.length:=by rw[b5.length,XA]
  obtain⟨_,b7⟩:=aN c9;have dh:x≠A.ap:=λe=>by lia
  refine⟨_,af (gb (i:=4) (N':=["moment","line"]) (n:=2) (fi:=[]) (g:=oz K 2 (c5 (bf 0) (c5 (bf 1) oF))) ir.nd rfl (Or.inl rfl) rfl (bX (ae (mIn 55 0)) ["self","sieve","rows","by_hand","lines","first"] (by decide +kernel)) (aI (pv 2)) (λs H fp=>dC rfl (aL (aM (i:=0) (show(["moment","line"]:Qqv).Nodup by decide +kernel) rfl (Or.inl rfl) (.inr rfl)) (aL (aM (i:=1) (show(["moment","line"]:Qqv).Nodup by decide +kernel) rfl (Or.inl rfl) (.inr rfl)) cE))) (λs H fp=>cy) (λs H fp=>pv 1))
   (af (gb (i:=5) (N':=["line","by_hand"]) (n:=1) (fi:=[3]) (g:=bf 0) ir.nd rfl (Or.inl rfl) rfl (bX (ae (mIn 55 0)) ["self","sieve","rows","by_hand","lines","first"] (by decide +kernel)) (aI (pv 4)) (λs H fp=>aM (i:=0) (show(["line","by_hand"]:Qqv).Nodup by decide +kernel) rfl (Or.inl rfl) (.inr rfl)) (λs H fp=>cy) (λs H fp=>aY T.g7 (kB T) hr (ag (pv 0) (pa1 (pv 1)))))
   (af (jz T.aU T.bF (pv 0) (pv 2))
   (af (jz T.aU T.be (pv 0) (pv 3))
   (af (jz T.aU T.gv (pv 0) (Oo T.gathered (pT T) hr (ag (cm (N':=["line","fall"]) (n:=2) (fi:=[]) (g:=oz K 2 (c5 (bf 0) (c5 (bf 1) oF))) rfl (bX (ae (mIn 55 0)) ["self","sieve","rows","by_hand","lines","first"] (by decide +kernel)) (rC (by rfl) T.wb (ag (pv 4) (pa1 (pv 5)))) (λs H fp=>dC rfl (aL (aM (i:=0) (show(["line","fall"]:Qqv).Nodup by decide +kernel) rfl (Or.inl rfl) (.inr rfl)) (aL (aM (i:=1) (show(["line","fall"]:Qqv).Nodup by decide +kernel) rfl (Or.inl rfl) (.inr rfl)) cE))) (λs H fp=>cT (bp CV (pv 1) Dm)) (λs H fp=>pv 0)) (pa1 (pv 1)))))
   (aj (jz T.aU T.dU (pv 0) (cm (N':=["line","fall","self"]) (n:=2) (fi:=[0]) (g:=oz K 2 (c5 (bf 0) (c5 (bf 1) oF))) rfl (bX (ae (mIn 55 0)) ["self","sieve","rows","by_hand","lines","first"] (by decide +kernel)) (rC (by rfl) T.wb (ag (pv 4) (pa1 (pv 5)))) (λs H fp=>dC rfl (aL (aM (i:=0) (show(["line","fall","self"]:Qqv).Nodup by decide +kernel) rfl (Or.inl rfl) (.inr rfl)) (aL (aM (i:=1) (show(["line","fall","self"]:Qqv).Nodup by decide +kernel) rfl (Or.inl rfl) (.inr rfl)) cE))) (λs H fp=>cy) (λs H fp=>jN (bp CV (pv 1) Dm) (aY T.g7 (kB T) hr (ag (pv 0) (pa1 (aW T.aU T.gv (pv 2))))) (pv 1))))))))),?_⟩
  refine⟨_,rfl,r,rfl,⟨_,.of b9⟩,λL hL=>?_⟩;refine aB (K:=K) (xs:=rv) (λi a B H1=>(∃u v,B=[u,v])/\ab H H1/\a=((rs.take i).map (·.2)).map V.str) aa ⟨⟨_,_,rfl⟩,ab.new hL,rfl⟩ (λi a B H1 _ _ q=>.of (q.2.1 _ _ b9)) (λi y a B H1 hy d9 q=>?_) (λa B H1 S q=>?_)
  ·obtain⟨q0,s1,rfl⟩:=q;apply qD q0;clear q0;intro u v;obtain⟨p,_,hp,rfl,d3,_⟩:=zc bz hy;refine CM (s1.eQ d3) ⟨_,rfl,_,d9,small (by grind),_,aa,⟨_,_,rfl⟩,ar hL s1,?_⟩;rw[XW,hp];simp
  obtain⟨_,s1,rfl⟩:=q;rw[Vj,XY (XD _)]at S;have a6:∀z∈rs.map (·.2),∃ws,fU 12 z ws:=λz J=>by
   grind
  have d8:(rs.map (·.2)).length<64:=by rwa [XA]
  generalize rs.map (·.2)=zs at S a6 d8 k
  have ax:∀z∈zs,LOk z/\Z2 z=true:=λz J=>by
   obtain⟨ws,hw⟩:=a6 z J;have:=hw.ok (by decide);exact⟨XG this.2 (by decide),this.1⟩
  refine⟨_,rfl,L,rfl,⟨_,.of S⟩,λF hF=>?_⟩;refine aB (K:=K) (xs:=zs.map V.str) (λi a B H2=>(∃u,B=[u,some (.ref b)])/\ab H1 H2/\∃os:List (Option Qqs),ay K (wo F (lim H H2)) a (os.map oP)/\os.length=i/\∀(j:Nat) z o,zs[j]? = some z->os[j]? = some o->FN bs z o) aa ⟨⟨_,rfl⟩,ab.new hF,[],.nil,rfl,λj z o _ e=>by cases e⟩ (λi a B H2 _ _ q=>.of (q.2.1 _ _ S)) (λi y a B H2 hy br q=>?_) (λfo B H2 c6 q=>?_)
  ·obtain⟨q0,s2,os,dn,bg,da⟩:=q;apply cY q0;clear q0;intro u;obtain⟨z,J,rfl⟩:=ee hy;have X:=ax z (XB J);have hi:=ba J;have l:=s1.trans s2;refine bZ ⟨_,rfl,_,rfl,z,b,bv,bs,rfl,.of (l _ _ hb),by lia,b5.same l,(λp hp=>⟨XG (b6 p hp).2.2 (by decide),λq hq=>((b6 p hp).1 q hq).ok⟩),X.1,X.2,λrr H3 s3 hf=>?_⟩;obtain⟨o,ho,cf⟩:=AB hf;have au:a.length=i:=by rwa [dn.length,XA]
   refine⟨_,s3 _ _ br,small (by lia),_,aa,⟨_,rfl⟩,ar hF (s2.trans s3),os++[o],?_,by simp_all,λj z' o' a3 I=>?_⟩
   ·rw[qJ,XH];exact(dn.same (g8 (bM s3))).append (.cons (cf.same (Ja l br)) .nil)
   ·grind
  obtain⟨_,s2,os,bk,bg,da⟩:=q;rw[XA]at bg;have dF:=bk.same bc;have cj:fo.length=zs.length:=by rwa [dF.length,XA]
  have l:=s1.trans s2;have b1:=l _ _ hx;have cs:=s2 _ _ S;have c8:=av c9 l;clear bk s1 s2 S;refine⟨_,rfl,_,rfl,x,R,_,rfl,b1,by decide,?_⟩;refine eL c8 b1 λH3 W f3 c4=>?_;replace W:H3 x=some (.ins A.aJ R [("rows",.ref r)]):=W;refine⟨_,rfl,_,rfl,x,R,_,rfl,W,by simp,?_⟩;refine eL c4 W λH4 aw f0 az=>?_;replace aw:H4 x=some (.ins A.aJ R [("rows",.ref r),("by_hand",.ref b)]):=aw;have f4:∀c,c≠x->H4 c=H2 c:=λc h=>(f0 c h).trans (f3 c h);clear c4 W f3;have bo:L≠x:=λe=>by lia
  have cb:F≠x:=λe=>by lia
  have c3:H4 L=some (.lst (zs.map V.str)):=by rwa [f4 _ bo]
  have bx:H4 F=some (.lst fo):=by rwa [f4 _ cb]
  have Vr:SqT K H4 t [.int s0,.int l0]:=by
   exact(show ab (wo x H) H4 fromλc o e=>by
    obtain⟨m,e⟩:=aZ e;rw[f4 c m];exact l _ _ e).eQ (qR hx d2)
  have b3:∀(i:Nat) z y,zs[i]? = some z->fo[i]? = some y->∃o,FN bs z o/\os[i]? = some o/\decide (y=V.non)=o.isNone:=λi z y J hy=>by
   grind [qH,CB]
  refine⟨_,rfl,_,rfl,L,F,rfl,⟨_,.of c3⟩,⟨_,.of bx⟩,λGL bj=>?_⟩;refine sf (K:=K) (xs:=zs.map V.str) (ys:=fo) (λi a B H5=>(∃u v,B=[u,v])/\ab H4 H5/\a=(eY bs (zs.take i)).map V.str) aa ⟨⟨_,_,rfl⟩,ab.new bj,rfl⟩ (λi a B H5 _ q=>⟨.of (q.2.1 _ _ c3),.of (q.2.1 _ _ bx)⟩) (λi xx y a B H5 tt ak hy M q a9=>?_) (λa B H5 cg q=>?_)
  ·obtain⟨q0,s5,rfl⟩:=q;apply qD q0;clear q0;intro u v;obtain⟨z,J,rfl⟩:=ee ak;obtain⟨o,ho,cc,OI⟩:=b3 i z y J hy;have st:ab H5 (upd H5 tt (.tup [.str z,y])):=ab.new a9;have au:=EG (bs:=bs) (zs:=zs.take i);rw[X4]at au;refine⟨tt,_,rfl,.of aa,rfl,_,_,rfl,_,_,rfl,rfl,_,rfl,rfl,_,rfl,?_⟩;rw[OI,ho.none];have a0:=Ir (bs:=bs) J;cases he:(bs.filter (bq z)).isEmpty with
   | true=>
    rw[he]at a0;refine bN ⟨_,rfl,_,st _ _ M,small (by rw[XA];lia),_,aa,⟨_,_,rfl⟩,ar bj (s5.trans st),?_⟩;rw[a0,XH];rfl
   | false=>
    rw[he]at a0;refine aX ⟨_,st _ _ M,⟨_,_,rfl⟩,s5.trans st,?_⟩;rw[a0];simp
  obtain⟨_,s5,rfl⟩:=q;rw[XA,cj,Zq,XY (XD _)]at cg;have Xn:=EG (bs:=bs) (zs:=zs);refine⟨_,rfl,GL,t,eY bs zs,s0,l0,rfl,.inl cg,by lia,λz J=>a6 z (X7.mp J).1,s5.eQ Vr,av az s5,λD ms Pu H6 ps cu hu hD s6 bl cw d0 d1 as U6 _ _ ah=>?_⟩;have ct:=s5 _ _ aw;have a5:=s6 _ _ (by rwa [aq dh]);have ao:D≠x:=nw hD ct
  have Xh:Pu.length=ps.length:=by rw[ah.length,XA]
  refine⟨_,rfl,x,R,_,rfl,a5,by simp,?_⟩;refine eL bl a5 λH7 N f7 cn=>?_;replace N:H7 x=some (.ins A.aJ R [("rows",.ref r),("by_hand",.ref b),("found",.ref D)]):=N;obtain⟨bb,KD⟩:=aN cn;have O:∀c o,c≠x->c≠A.ap->H2 c=some o->H7 c=some o:=λc o f m e=>by
   rw[f7 c f];refine s6 _ _ ?_;rw[aq m];refine s5 _ _ ?_
   rwa [f4 c f]
  have di:∀c o,c≠x->c≠A.ap->H5 c=some o->H7 c=some o:=λc o f m e=>by
   rw[f7 c f];exact s6 _ _ (by rwa [aq m])
  have a4:∀c o,c≠x->H6 c=some o->H7 c=some o:=λc o f e=>by rwa [f7 c f]
  have c2:∀{c:Yau}{ys:Qqt},H2 c=some (.lst ys)->c≠A.ap:=λ{c ys} h e=>by
   obtain⟨q,hq⟩:=aN c8;rw[e,hq]at h;cases h
  have b8:=O _ _ bo (c2 cs) cs;have b0:=O _ _ cb (c2 c6) c6;have b2:=a4 _ _ ao cw;have bt:∀d,H x≠some (.lst d):=λd e=>by rw[hx]at e;cases e
  have bu:∀d,H A.ap≠some (.lst d):=λd e=>by rw[b7]at e;cases e
  have c0:∃C R fs,lim H5 H6 x=some (.ins C R fs):=⟨_,_,_,by rw[bh λd e=>by rw[ct]at e;cases e];exact a5⟩;have b4:∃ps,lim H5 H6 A.ap=some (.tbl ps):=by
   obtain⟨_,d5⟩:=aN (av az s5);obtain⟨q6,dd⟩:=aN bl;exact⟨q6,by rw[bh λd e=>by rw[d5]at e;cases e];exact dd⟩
  have cv:∀c d,(∀ys,H5 c≠some (.lst ys))->c≠x->H c≠some (.lst d):=λc d f m e=>f d (s5 _ _ (by rw[f4 c m];exact l _ _ e));refine⟨_,rfl,_,rfl,L,F,rfl,⟨_,.of b8⟩,⟨_,.of b0⟩,λG hG=>?_⟩;have cx:∀c o,c≠x->c≠A.ap->H2 c=some o->c≠G:=λc o f m e z=>by rw[<-z,O c o f m e]at hG;cases hG
  refine sf (K:=K) (xs:=zs.map V.str) (ys:=fo) (λi a B H8=>(∃u v,B=[u,v,some (.ref x)])/\ab H7 H8/\∃ls:List (Option Qqs),ay K (wo G (lim H H8)) a (ls.map oP)/\ls.length=i/\∀(j:Nat) z o,zs[j]? = some z->ls[j]? = some o->nR bs ps z o) aa ⟨⟨_,_,rfl⟩,ab.new hG,[],.nil,rfl,λj z o _ e=>by cases e⟩ (λi a B H8 _ q=>⟨.of (q.2.1 _ _ b8),.of (q.2.1 _ _ b0)⟩) (λi xx y a B H8 tt ak hy M q a9=>?_) (λlv B H8 _ q=>?_)
  ·obtain⟨q0,s8,ls,dn,Y,a8⟩:=q;apply qD q0;clear q0;intro u v;obtain⟨z,J,rfl⟩:=ee ak;obtain⟨o,ho,cc,OI⟩:=b3 i z y J hy;have st:ab H8 (upd H8 tt (.tup [.str z,y])):=ab.new a9;have c7:SqT K (upd H8 tt (.tup [.str z,y])) tt [.str z,y]:=.of aa;have U:=s8.trans st;generalize upd H8 tt (.tup [.str z,y])=H9 at st c7 U ⊢;have hi:=ba J;have au:a.length=i:=by rwa [dn.length,XA]
   have X:=ax z (XB J);have bw:=st _ _ M;have cp:∀{o':Option Qqs},nR bs ps z o'->∀(j:Nat) z' o2,zs[j]? = some z'->(ls++[o'])[j]? = some o2->nR bs ps z' o2:=λ{o'} h' j z' o2 a3 I=>by
    by_cases hj:j<ls.length
    ·rw[Yp hj]at I;exact a8 j z' o2 a3 I
    ·have dg:=ba I;rw[XI,XZ]at dg;have cz:j=i:=by lia
     rw[Yw (by lia),show j - ls.length=0 by lia]at I;cases I;rw[cz,J]at a3;cases a3;exact h'
   refine CM c7 ⟨_,rfl,rfl,_,rfl,?_⟩;rw[OI];cases o with
   | none=>
    have d7:bs.filter (bq z)=[]:=by
     rcases ho with⟨e,_⟩ | ⟨p,e,_⟩
     ·exact e
     ·cases e
    refine bN ⟨_,rfl,_,rfl,x,R,_,.ref D,rfl,U _ _ N,rfl,z,D,Pu,ps,rfl,.of (U _ _ b2),by lia,(mL ah c0 b4 λc o f _ _ e=>a4 c o f e).same U,(λp hp=>⟨XG (as p hp).2.2 (by decide),λq hq=>((as p hp).1 q hq).ok⟩),X.1,X.2,λrr _ Z hf=>?_⟩;obtain⟨o',I,cf⟩:=AB hf;refine⟨_,Z _ _ bw,small (by lia),_,aa,⟨_,_,rfl⟩,ar hG (U.trans Z),ls++[o'],?_,by rw[XI,Y];rfl,cp (.inr ⟨d7,I⟩)⟩;rw[qJ,XH];refine(dn.same (g8 (bM (st.trans Z)))).append (.cons ?_ .nil);refine Ew cf ⟨_,_,_,by rw[bh λd e=>by rw[U _ _ N]at e;cases e];exact Z _ _ (U _ _ N)⟩ ⟨bb,by rw[bh λd e=>by rw[U _ _ KD]at e;cases e];exact Z _ _ (U _ _ KD)⟩ λc o2 f m h3 e=>?_;rw[aq λe2=>h3 _ (by rwa [e2]),bh λd e2=>h3 d (U _ _ (O _ _ f m (l _ _ e2)))];exact e
   | some p=>
    have df:Den K (lim H H2) y (oP (some p)):=by
     obtain⟨o2,ck,hd⟩:=qH dF hy;rw[cc]at ck;cases ck;exact hd
    refine aX ⟨_,rfl,_,bw,small (by lia),_,aa,⟨_,_,rfl⟩,ar hG U,ls++[some p],?_,by rw[XI,Y];rfl,cp (.inl ?_)⟩
    ·rw[qJ,XH];refine(dn.same (g8 (bM st))).append (.cons ?_ .nil);refine Ew df ⟨_,_,_,by rwa [bh bt]⟩ ⟨_,by rw[bh bu];exact l _ _ b7⟩ λc o2 f m h3 e=>?_;rw[aq (cx c o2 f m e),bh h3];exact U _ _ (O c o2 f m e)
    ·rcases ho with⟨_,e⟩ | ⟨_,e,hl⟩
     ·cases e
     ·cases e;exact⟨p,rfl,hl⟩
  obtain⟨_,s8,ls,d4,Y,a8⟩:=q;rw[XA,cj,Zq]at Y;have c1:=s8 _ _ N;have M:G≠x:=nw hG N
  refine⟨_,rfl,x,R,_,rfl,c1,by simp,?_⟩;refine eL (av cn s8) c1 λH9 ai f9 de=>?_;replace ai:H9 x=some (.ins A.aJ R [("rows",.ref r),("by_hand",.ref b),("found",.ref D),("falls",.ref G)]):=ai;have a7:∀c o,c≠x->H7 c=some o->H9 c=some o:=λc o f e=>by rw[f9 c f];exact s8 _ _ e
  refine k H9 D G Pu lv ps ls ?_ ?_ ?_ de ai (a7 _ _ ao b2) ?_ (by rwa [f9 _ M]) ?_ ⟨⟨ms,cu,hu,d0⟩,d1,as,U6⟩ ⟨Y,a8⟩
  ·cases e:H D with
   | none=>rfl
   | some o=>
    have:=s5 _ _ (show H4 D=some o by rw[f4 _ ao];exact l _ _ e);rw[hD]at this;cases this
  ·cases e:H G with
   | none=>rfl
   | some o=>
    by_cases m:G=A.ap
    ·rw[m,KD]at hG;cases hG
    ·have:=O _ _ M m (l _ _ e);rw[hG]at this;cases this
  ·intro c o e;obtain⟨f,e⟩:=aZ e;obtain⟨m,e⟩:=aZ e;exact a7 _ _ f (O _ _ f m (l _ _ e))
  ·exact mL ah c0 b4 λc o f m h3 e=>by
    rw[bh λd=>cv c d h3 f];exact a7 _ _ f (a4 _ _ f e)
  ·have dc:∃C R fs,lim H H8 x=some (.ins C R fs):=⟨_,_,_,by rwa [bh bt]⟩;exact mL (d4.same bc) dc ⟨bb,by rw[bh bu];exact s8 _ _ KD⟩ λc o f m h3 e=>by
    rwa [bh h3,f9 c f]
def Bl (K:Vzz) (A:Ad):Sp:=λvs H Q _=>∃(g dx st dx2:Yau) (fs gs:List (Str×V)) (rr bb:V),vs=[.ref g]/\H g=some (.ins A.aF dx fs)/\Yah ("state" : Str) fs=some (.ref st)/\H st=some (.ins A.aJ dx2 gs)/\Yah ("rows" : Str) gs=some rr/\Yah ("by_hand" : Str) gs=some bb/\∀p,H p=none->Q (.ref p) (upd H p (.tup [rr,bb]))
def rO (K:Vzz) (A:Ad):Sp:=λvs H Q _=>∃(g h dx t st ah pa tb r b:Yau) (rv bv:Qqt) (rs:List (Int×Str)) (bs:Qqr) (s l:Int),vs=[.ref g,.ref h]/\H g=some (.ins A.aF dx [("sieve",.ref t),("state",.ref st),("ahead",.ref ah),("past",.ref pa),("taken_back",.ref tb)])/\SqT K H h [.ref r,.ref b]/\SqT K H t [.int s,.int l] /\
 H r=some (.lst rv)/\ay K H rv (rs.map iR)/\H b=some (.lst bv)/\ay K H bv (bs.map aD)/\rs.length<64/\(∀q∈rs,∃ws,fU 12 q.2 ws)/\bs.length<64/\mw bs/\cD A.ap H /\
 ∀(H':Hp) (x dx' f fl:Yau) (fv lv:Qqt) (fnd:Qqr) (fls:List (Option Qqs)),H x=none->H f=none->H fl=none->ab (wo g (wo A.ap H)) H'->cD A.ap H'->H' g=some (.ins A.aF dx [("sieve",.ref t),("state",.ref x),("ahead",.ref st),("past",.ref pa),("taken_back",.ref tb)]) ->
  H' x=some (.ins A.aJ dx' [("rows",.ref r),("by_hand",.ref b),("found",.ref f),("falls",.ref fl)])->H' f=some (.lst fv)->ay K (lim H H') fv (fnd.map aD)->H' fl=some (.lst lv)->ay K (lim H H') lv (fls.map oP)->jC s l (eY bs (rs.map (·.2))) fnd->uo bs fnd (rs.map (·.2)) fls->Q .non H'
def sO (K:Vzz) (A:Ad):Sp:=λvs H Q _=>∃(B:Hp) (g pa tb r b:Yau) (v:eD) (rv bv:Qqt) (rs:List (Int×Str)) (bs:Qqr),vs=[.ref g,.ref r,.ref b]/\bi K A.aF A.aJ B H g pa tb v/\B A.ap=none/\B r=some (.lst rv)/\ay K B rv (rs.map iR)/\B b=some (.lst bv)/\ay K B bv (bs.map aD)/\rs.length<64/\(∀q∈rs,∃ws,fU 12 q.2 ws)/\bs.length<64/\mw bs/\v.past.length<=100000/\cD A.ap H /\
 ∀(H' B':Hp) (tb':Yau) (cur:StV),ab (wo g (wo pa (wo A.ap H))) H'->cD A.ap H'->H tb' = none->ab B B'->(∀c o,B c=none->H c=some o->lz o->B' c=none)->cur.rs=rs->cur.bs=bs->bi K A.aF A.aJ B' H' g pa tb' ⟨v.s,v.l,cur,v.cur,v.past++[(v.cur.rs,v.cur.bs)],[]⟩->Q .non H'
def pG (K:Vzz) (A:Ad):Sp:=λvs H Q _=>∃(B:Hp) (g pa tb:Yau) (v:eD) (m:Int) (z:Str),vs=[.ref g,.int m,.str z]/\bi K A.aF A.aJ B H g pa tb v/\B A.ap=none/\(∃ws,fU 12 z ws)/\v.cur.rs.length<63/\(∀q,v.cur.rs.getLast? = some q->q.1<=m)/\v.past.length<=100000/\cD A.ap H /\
 ∀(H' B':Hp) (tb':Yau) (cur:StV),ab (wo g (wo pa (wo A.ap H))) H'->cD A.ap H'->H tb' = none->ab B B'->(∀c o,B c=none->H c=some o->lz o->B' c=none)->cur.rs=v.cur.rs++[(m,z)]->cur.bs=v.cur.bs->bi K A.aF A.aJ B' H' g pa tb' ⟨v.s,v.l,cur,v.cur,v.past++[(v.cur.rs,v.cur.bs)],[]⟩->Q (.int (v.cur.rs.length:Int)) H'
def o8 (K:Vzz) (A:Ad):Sp:=λvs H Q _=>∃(g t dx:Yau) (s l:Int),vs=[.ref g,.ref t]/\H g=some (.ins A.aF dx [])/\SqT K H t [.int s,.int l]/\cD A.ap H /\
 ∀(H' B':Hp) (pa tb:Yau) (cur:StV),ab (wo g (wo A.ap H)) H'->cD A.ap H'->H pa=none->H tb=none->(∀c o,H c=some o->lz o->B' c=none)->cur.rs=[]->cur.bs=[]->bi K A.aF A.aJ B' H' g pa tb ⟨s,l,cur,cur,[],[]⟩->Q .non H'
def dA (K:Vzz) (A:Ad):Sp:=λvs H Q _=>(∃(B B2:Hp) (g pa tb g2 pa2 tb2:Yau) (v v2:eD),vs=[.ref g,.ref g2]/\bi K A.aF A.aJ B H g pa tb v/\bi K A.aF A.aJ B2 H g2 pa2 tb2 v2 /\
 Q (.bl (Z7 (.tuple [.int v.s,.int v.l]) (.tuple [.int v2.s,.int v2.l]) && (Z7 (.list (v.cur.rs.map iR)) (.list (v2.cur.rs.map iR)) && Z7 (.list (v.cur.bs.map aD)) (.list (v2.cur.bs.map aD))))) H)\/∃(x y:V) (t:Vzy),vs=[x,y]/\jI K H y t/\W.kitOne K t (.ref A.aF)=some false/\Q (.bl false) H
def jB (K:Vzz) (A:Ad):Sp:=λvs H Q _=>∃(B:Hp) (g pa tb:Yau) (v:eD),vs=[.ref g]/\bi K A.aF A.aJ B H g pa tb v /\
 ∀(D:Yau) (acc:Qqt) (H':Hp),H D=none->ab H H'->H' D=some (.lst acc)->ay K (lim H H') acc ((v.cur.bs++v.cur.fs).map aD)->Q (.ref D) H'
def mX (K:Vzz) (A:Ad):Sp:=λvs H Q _=>∃(B:Hp) (g pa tb:Yau) (v:eD) (i:Nat) (ps:Qqs),vs=[.ref g,.int i]/\bi K A.aF A.aJ B H g pa tb v/\v.cur.os[i]? = some (some ps) /\
 ∀(D:Yau) (ys:Qqt) (H':Hp),H D=none->ab H H'->H' D=some (.lst ys)->ay K (lim H H') ys (ps.map Pt.dat)->Q (.ref D) H'
theorem A8:ax ["self"] ["self"] (ae (mIn 56 3)):=fsc
theorem zr (T:Tx K mg A):OkM T.rZ mg P w base 1 (Bl K A):=by
 refine T.rZ.fn.ok A8 (λq H Q E h=>?_) (λ_ _ _ s H q Q E _ h=>?_)
 ·obtain⟨g,f,b,a,d,e,j,l,rfl,_⟩:=h;rfl
 ·obtain⟨g,f,b,a,d,e,j,l,rfl,i,c,m,n,o,k⟩:=h;refine⟨_,aj (au (cB (ag (aW T.aU T.bF (aW T.aA T.aC (pv 0))) (pa1 (aW T.aU T.be (aW T.aA T.aC (pv 0))))))),?_⟩;exact⟨_,rfl,g,f,d,.ref b,rfl,i,c,b,a,e,j,rfl,m,n,_,rfl,g,f,d,.ref b,rfl,i,c,b,a,e,l,rfl,m,o,(by show 2<=Yb0;decide),λp r=>k p r⟩
theorem gF:ax ["self","held","rows","by_hand"] ["self","held"] (ae (mIn 56 5)):=fsc
theorem rT (T:Tx K mg A):OkM T.kE mg P w base 23 (rO K A):=by
 refine T.kE.fn.ok gF (λvs H Q E h=>?_) (λ_ _ _ s H vs Q E hr h=>?_)
 ·obtain⟨g,h,i,t,l,ah,M,L,r,b,rv,bv,rs,bs,s0,l0,rfl,_⟩:=h;rfl
 ·obtain⟨g,h,i,t,l,ah,M,L,r,b,rv,bv,rs,bs,s0,l0,rfl,q,S,a0,Z,a6,hb,U,ak,a7,a9,W,G,k⟩:=h;obtain⟨_,_⟩:=aN G;have N:g≠A.ap:=λe=>by lia
  refine⟨_,af (lV (pv 1) (dC rfl (aL (pn 2 gF.nd) (aL (pn 3 gF.nd) cE))))
   (af (jz T.aA T.iV (pv 0) (aW T.aA T.aC (pv 0)))
   (aj (jz T.aA T.aC (pv 0) (nX T.Bj ((lQ T).mono (by decide)) hr (by rfl) T.EX T.jk.bd .nil bu (ag (aW T.aA T.c6 (pv 0)) (ag (pv 2) (pa1 (pv 3)))))))),?_⟩
  refine⟨_,rfl,h,_,rfl,S,rfl,_,_,rfl,_,_,rfl,rfl,?_⟩;refine⟨_,rfl,g,i,_,.ref l,rfl,q,rfl,_,rfl,g,i,_,rfl,q,by simp,?_⟩;refine eL G q λH2 a f2 ai=>?_;replace a:H2 g=some (.ins A.aF i [("sieve",.ref t),("state",.ref l),("ahead",.ref l),("past",.ref M),("taken_back",.ref L)]):=a;have s2:ab (wo g H) H2:=λc o e=>by
   grind [aZ]
  refine⟨_,rfl,g,i,_,.ref t,rfl,a,rfl,_,rfl,_,rfl,λx F hx a3 a4=>?_⟩;obtain⟨Hx,eq,I,ae⟩:=rR A.aJ hx a3 a4;rw[eq];have j:ab (wo g H) Hx:=s2.trans I;have u:∀{c:Yau}{J:Qqt},H c=some (.lst J)->c≠g:=λ{c J} h e=>by lia
  have p:x≠g:=λe=>by lia
  have ar:H x=none:=by rwa [<-f2 x p]
  refine⟨x,t,r,b,F,rv,bv,rs,bs,s0,l0,rfl,ae,j.eQ (qR q a0),j _ _ (by rwa [aq (u Z)]),(uw q a6).same j,j _ _ (by rwa [aq (u hb)]),(uw q U).same j,ak,a7,a9,W,av ai I,λH3 f fl fv lv a5 aa hf ao s3 a8 _ _ df _ dl KS sQ=>⟨rfl,?_⟩⟩;have B:H3 g=some (.ins A.aF i [("sieve",.ref t),("state",.ref l),("ahead",.ref l),("past",.ref M),("taken_back",.ref L)]):=s3 _ _ (Xf p.symm N (I _ _ a));refine⟨_,rfl,g,i,_,rfl,B,by simp,?_⟩;refine eL a8 B λX m y O=>?_;replace m:X g=some (.ins A.aF i [("sieve",.ref t),("state",.ref x),("ahead",.ref l),("past",.ref M),("taken_back",.ref L)]):=m;have D:∀{c:Yau},Hx c=none->H c=none:=λ{c} e=>by
   cases e2:H c with
   | none=>rfl
   | some o=>
    by_cases n:c=g
    ·rw[n,I _ _ a]at e;cases e
    ·rw[j c o (by rwa [aq n])]at e;cases e
  have Y:f≠g:=λe=>by lia
  have V8:fl≠g:=λe=>by lia
  have go:∀{v:Qqt}{ds:Qqy},ay K (lim Hx H3) v ds->ay K (lim H X) v ds:=λ{v ds} d=>mS d λc o n R _ _ _=>by
   have C:c≠g:=λe=>by grind
   rw[bh λJ e=>n J (j _ _ (by rwa [aq C])),y c C];exact R
  refine k X x F f fl fv lv a5 aa ar (D hf) (D ao) (λc o e=>?_) O m (by rwa [y x p]) (by rwa [y f Y]) (go df) (by rwa [y fl V8]) (go dl) KS sQ;obtain⟨n,e⟩:=aZ e;obtain⟨R,e⟩:=aZ e;rw[y c n];exact s3 _ _ (by rw[aq (λz=>by lia),aq R];exact j _ _ (by rwa [aq n]))
theorem rH:ax ["self","rows","by_hand"] ["self","rows","by_hand"] (ae (mIn 56 6)):=fsc
theorem gz (T:Tx K mg A):OkM T.fQ mg P w base 24 (sO K A):=by
 refine T.fQ.fn.ok rH (λvs H Q E h=>?_) (λ_ _ _ s H vs Q E hr h=>?_)
 ·obtain⟨B,g,pa,tb,r,b,v,rv,bv,rs,bs,rfl,_⟩:=h;rfl
 ·obtain⟨B,g,pa,tb,r,b,v,rv,bv,rs,bs,rfl,bW,_,a8,ai,a4,a5,ax,ak,as,a6,_,aw,k⟩:=h;obtain⟨S,t,st,ah,I,_,hg,b5,_,sB,b7,rh,_,_,a7,ae,_,a0,_,b8,_⟩:=bW;have qY:=ae;obtain⟨b4,J,L,_,_,b2,bg,_,_,q1,q2,q3,q4,q5,_,_,_,_⟩:=qY;obtain⟨_,ka⟩:=aN aw;have bl:g≠A.ap:=λe=>by lia
  have bb:pa≠A.ap:=λe=>by lia
  have X:pa≠g:=λe=>by lia
  have S8:I.length<=100000:=by rwa [a0.1]
  refine⟨_,af (bV (fc ZU Ws WF d7 (aW T.aA T.qb (pv 0)) (pa1 (dW (pv 0) T.aA T.zE ((zr T).mono (by decide)) hr T.rZ.bd .nil bu))))
   (af (jz T.aA T.ig (pv 0) (br dG))
   (aj (bV (cO (pv 0) T.aA T.tD ((rT T).mono (by decide)) hr T.kE.bd .nil bu (pa1 (cB (ag (pv 1) (pa1 (pv 2))))))))),?_⟩
  refine⟨_,rfl,g,S,_,.ref pa,rfl,hg,rfl,.inl ⟨rfl,_,.of b5⟩,_,rfl,g,S,_,rfl,hg,rfl,g,S,st,b4,_,_,.ref J,.ref L,rfl,hg,rfl,sB _ _ q1,rfl,rfl,λp hp=>?_⟩;have N:p≠pa:=λe=>by lia
  have M:p≠g:=λe=>by lia
  refine⟨pa,I,_,rfl,rfl,by rwa [ao N.symm],small (by lia),?_⟩;have f2:∀c,c≠pa->c≠p->(upd (upd H p (.tup [.ref J,.ref L])) pa (.lst (I++[.ref p]))) c=H c:=λc i j=>by rw[ao i,ao j]
  have Ub:(upd (upd H p (.tup [.ref J,.ref L])) pa (.lst (I++[.ref p]))) pa=some (.lst (I++[.ref p])):=aa;have b1:(upd (upd H p (.tup [.ref J,.ref L])) pa (.lst (I++[.ref p]))) p=some (.tup [.ref J,.ref L]):=by rw[ao N];exact aa
  have au:cD A.ap (upd (upd H p (.tup [.ref J,.ref L])) pa (.lst (I++[.ref p]))):=qG (av aw (ab.new hp)) (xs:=I) (by rwa [ao N.symm]);generalize upd (upd H p (.tup [.ref J,.ref L])) pa (.lst (I++[.ref p]))=H2 at f2 Ub b1 au ⊢;have bc:H2 g=_:=(f2 g X.symm M.symm).trans hg;refine⟨XT _,λtb' Bz=>?_⟩;have az:tb'≠g:=λe=>by lia
  have ba:tb'≠pa:=λe=>by lia
  have Wc:tb'≠p:=λe=>by lia
  have Js:H tb' = none:=by simp_all
  have s3:ab H2 (upd H2 tb' (.lst [])):=ab.new Bz;have U2:(upd H2 tb' (.lst [])) tb' = some (.lst []):=aa;generalize upd H2 tb' (.lst [])=H3 at s3 U2 ⊢;have a3:=s3 _ _ bc;refine⟨_,rfl,g,S,_,rfl,a3,by simp,?_⟩;refine eL (av au s3) a3 λH4 D f4 b6=>?_;replace D:H4 g=some (.ins A.aF S [("sieve",.ref t),("state",.ref st),("ahead",.ref ah),("past",.ref pa),("taken_back",.ref tb')]):=D;have O:∀c o,c≠g->c≠pa->H c=some o->H4 c=some o:=λc o i j e=>by
   rw[f4 c i];refine s3 _ _ ?_
   grind
  refine⟨_,rfl,g,S,_,rfl,D,rfl,_,rfl,_,rfl,(by show 2<=Yb0;decide),λh hh=>?_⟩;obtain⟨H5,eq,u,b3⟩:=cL (.tup [.ref r,.ref b]) hh;rw[eq];have y:∀{c:Yau}{o:HO},B c=some o->c≠g/\c≠pa/\c≠A.ap:=λ{c o} e=>⟨(λz=>by lia),(λz=>by lia),λz=>by lia⟩;have G:ab B H5:=λc o e=>u _ _ (O c o (y e).1 (y e).2.1 (sB _ _ e));refine⟨g,h,S,t,st,ah,pa,tb',r,b,rv,bv,rs,bs,v.s,v.l,rfl,u _ _ D,.of b3,G.eQ a7,G _ _ a8,ai.same G,G _ _ a4,a5.same G,ax,ak,as,a6,av b6 u,λm x be f fl fv lv b9 bf hx hf bk s6 a9 ar _ _ df _ dl KS sQ=>?_⟩;have R:∀c o,c≠g->c≠pa->c≠A.ap->H c=some o->m c=some o:=λc o i j n e=>s6 _ _ (Xf i n (u _ _ (O c o i j e)));have Y:∀c o,c≠g->c≠A.ap->H4 c=some o->m c=some o:=λc o i n e=>s6 _ _ (Xf i n (u _ _ e));have SY:∀c o,B c=some o->m c=some o:=λc o e=>R c o (y e).1 (y e).2.1 (y e).2.2 (sB _ _ e);have a:=za (H':=m) sB b7 rh (sB.free Js) SY;have lr:=qO (B:=B) (H:=H) (H':=m) (g:=g) (pa:=pa) (tb:=tb');have JS:H4 pa=some (.lst (I++[.ref p])):=by rw[f4 pa X];exact s3 _ _ Ub
  have Ck:H4 tb' = some (.lst []):=by rwa [f4 tb' az]
  have bj:tb'≠A.ap:=λe=>by
   lia
  have h0:∀{c:Yau},H5 c=none->H c=none/\c≠g/\c≠pa/\c≠tb':=λ{c} e=>by
   have W:c≠g:=λz=>by rw[z,u _ _ D]at e;cases e
   have U:c≠pa:=λz=>by rw[z,u _ _ JS]at e;cases e
   have n3:c≠tb':=λz=>by rw[z,u _ _ Ck]at e;cases e
   refine⟨?_,W,U,n3⟩;cases e2:H c with
   | none=>rfl
   | some o=>rw[u _ _ (O c o W U e2)]at e;cases e
  have Z:∀{c:Yau},H5 c=none->nxt B H m g pa tb' c=m c:=λ{c} e=>by
   obtain⟨i,j,n,h4⟩:=h0 e;exact g9 j n h4 (λ_ z=>by rw[i]at z;cases z) (λ_ _ _ z=>by rw[i]at z;cases z) λ_ z=>by rw[i]at z;cases z
  have go:∀{v:Qqt}{ds:Qqy},ay K (lim H5 m) v ds->ay K (nxt B H m g pa tb') v ds:=λ{v ds} d=>mS d λc o i j _ n h4=>by
   have W:c≠g:=λe=>by rw[e,ar]at j;cases j;exact n _ _ _ rfl
   have U:c≠pa:=λe=>i _ (by rw[e];exact u _ _ JS);have n4:c≠A.ap:=λe=>by
    obtain⟨q,hq⟩:=aN a9;rw[e,hq]at j;cases j;exact h4 _ rfl
   rw[g9 W U (λe=>i _ (by rw[e];exact u _ _ Ck)) (λys e=>i ys (u _ _ (O _ _ W U e))) (λC _ _ e=>?_) (λ_ e=>?_)]
   ·exact j
   ·have:=R _ _ W U n4 e;rw[j]at this;cases this;exact n _ _ _ rfl
   ·have:=R _ _ W U n4 e;rw[j]at this;cases this;exact h4 _ rfl
  have Wf:p≠A.ap:=nw hp ka
  have bo:m p=some (.tup [.ref J,.ref L]):=Y _ _ M Wf (by rw[f4 p M];exact s3 _ _ b1);have bh:nxt B H m g pa tb' p=some (.tup [.ref J,.ref L]):=by
   rwa [g9 M N Wc.symm (λ_ z=>by rw[hp]at z;cases z) (λ_ _ _ z=>by rw[hp]at z;cases z) λ_ z=>by rw[hp]at z;cases z]
  refine k m (nxt B H m g pa tb') tb' ⟨rs,bs,b9,bf⟩ (λc o e=>?_) a9 Js a (λc o i j n=>xh i j n) rfl rfl
   ⟨S,t,x,st,I++[.ref p],[],ar,(Y _ _ X bb JS),(Y _ _ az bj Ck),BM SY,lr.1,lr.2.1,lr.2.2,ba.symm,a.eQ a7,
    ⟨be,r,b,f,fl,rv,bv,fv,lv,by rwa [Z hx],a _ _ a8,ai.same a,a _ _ a4,a5.same a,by rwa [Z hf],go df,by rwa [Z bk],go dl⟩,
    ae.same a,?_,.nil,⟨KS,sQ,ak,a6,ax,as⟩,b8⟩
  ·obtain⟨i,e⟩:=aZ e;obtain⟨j,e⟩:=aZ e;obtain⟨n,e⟩:=aZ e;exact R c o i j n e
  ·exact(a0.same a).snoc ⟨p,J,L,b2,bg,rfl,.of bh,a _ _ q2,q3.same a,a _ _ q4,q5.same a⟩
theorem F1 {N:Hp->Prop}{G:Prop} (Pre:Hp->Prop) (rest:∀H,Pre H->N H) (f:(∀H,Pre H->N H)->G):G:=f rest
theorem HF (a:List (Int×Str)):(PyData.list (a.map iR)).depth<=100:=by
 have h:Z3 (a.map iR)<=5:=bJ _ λd b=>by
  obtain⟨q,_,rfl⟩:=XE.mp b;show(PyData.tuple [.int q.1,.str q.2]).depth<=5
  grind [ZT,Z3]
 simp only[ZT];lia
theorem pP:ax ["self","moment","line","rows"] ["self","moment","line"] (ae (mIn 56 7)):=fsc
theorem zQ (T:Tx K mg A):OkM T.jW mg P w base 25 (pG K A):=by
 refine T.jW.fn.ok pP (λvs H Q E h=>?_) (λ_ _ _ s H vs Q E hr h=>?_)
 ·obtain⟨B,g,pa,tb,v,m,z,rfl,_⟩:=h;rfl
 ·obtain⟨B,g,pa,tb,v,m,z,rfl,bW,az,hz,_,DI,b2,a4,k⟩:=h;have Bo:=bW;obtain⟨dx,t,st,_,_,_,W,C,G,sB,a8,rh,uQ,_,_,as,_,_,_,F,_⟩:=Bo;obtain⟨V,O,b0,_,_,a,b1,_,_,q1,q2,q3,q4,q5,_,_,_,_⟩:=as;obtain⟨ws,L⟩:=hz;have D:=L.ok (by decide);have J:a.length=v.cur.rs.length:=by rw[q3.length,XA]
  refine⟨_,af (aV (i:=3) pP.nd rfl (Or.inl rfl) (aW T.aU T.bF (aW T.aA T.aC (pv 0))))
   (af (bg (fC (b7 (aY T.xk (Bs T) hr (pa1 (pv 2))))) (aj eG) aG)
   (af (bg ((pw_and (HX (pv 3) (λ_=>rfl)) (pw_and1 (bp sY (pv 1) (iT K (fj K (pv 3) (EN yx ak)) ak)))).pt) (aj eG) aG)
   (af (bg (bp DK (aE (r:=cZ K) aS (by rfl) T.cM Z8 (pa1 (pv 3))) (fM (v:=.int 120) (by rfl) (Ya7 T.yz) ⟨_,rfl⟩)) (aj eG) aG)
   (af (bV (cO (pv 0) T.aA T.gH ((gz T).mono (by decide)) hr T.fQ.bd .nil bu (ag (bU (r:=qX K) kH (pv 3) (br (pa1 (cB (ag (pv 1) (pa1 (pv 2))))))) (pa1 (aW T.aU T.be (aW T.aA T.aC (pv 0)))))))
   (aj (au (aE (r:=cZ K) aS (by rfl) T.cM Z8 (pa1 (pv 3))))))))),?_⟩
  refine⟨_,rfl,g,dx,_,.ref st,rfl,W,rfl,st,V,_,.ref O,rfl,sB _ _ q1,rfl,?_⟩;refine⟨_,rfl,z,rfl,XG D.2 (by decide),D.1,by rw[L.split];exact L.le,by rw[L.split];exactλw h=>(L.wd w h).word,λH1 M=>⟨_,rfl,aX ?_⟩⟩;have d:=sB.trans M;have x:H1 O=some (.lst a):=d _ _ q2;apply F1 (λH2:Hp=>H2=H1)
  case f=>
   intro rest;refine⟨_,rfl,_,.inl ⟨a,.of x,rfl⟩,?_⟩;cases hq:a with
   | nil=>exact aX (aX (rest _ rfl))
   | cons y _=>
    have a0:a≠[]:=λe=>by rw[e]at hq;cases hq
    obtain⟨I,x',e'⟩:∃I x',a=I++[x']:=⟨a.dropLast,a.getLast a0,(Zy a0).symm⟩;have a9:a[I.length]? = some x':=by rw[e'];simp
    obtain⟨p,ty,hp,rfl,ai,_⟩:=zc q3 a9;have b4:p.1<=m:=DI p (by
     rw[List.getLast?_eq_getElem?,<-J,e',XI,XZ,Nat.add_sub_cancel];exact hp)
    refine bN ⟨_,rfl,_,rfl,(1:Int),rfl,O,_,(-1:Int),.ref ty,rfl,rfl,.of x,?_,ty,_,0,_,rfl,rfl,d.eQ ai,rfl,_,_,rfl,rfl,_,rfl,?_⟩
    ·rw[e'];exact D8
    ·rw[Yb5 (by lia)];exact aX (rest _ rfl)
  intro H2 e2;subst e2;refine⟨_,rfl,O,_,rfl,.inl (.of x),_,_,rfl,rfl,_,rfl,?_⟩;rw[Yb5 (by rw[J];lia)];refine aX ?_;have Y:=M _ _ W;refine⟨_,rfl,g,dx,_,rfl,Y,rfl,_,rfl,_,rfl,_,rfl,(by show 2<=Yb0;decide),λtt l=>?_⟩;obtain⟨_,eq,s2,a6⟩:=cL (.tup [.int m,.str z]) l;rw[eq];refine⟨(by show 1<=Yb0;decide),λll ae=>?_⟩;obtain⟨_,eq,N,b3⟩:=cL (.lst [.ref tt]) ae;rw[eq];refine⟨O,ll,_,_,rfl,rfl,.of ((s2.trans N) _ _ x),.of b3,XG (show a.length+1<=100 by lia) (by decide),λR S=>?_⟩;obtain⟨H5,eq,s4,_⟩:=cL (.lst (a++[.ref tt])) S;rw[eq];have u:=(s2.trans N).trans s4;have a5:=d.trans u;have b5:B R=none:=(d.trans (s2.trans N)).free S;have X:R≠tt:=λe=>by rw[e,(N _ _ a6)]at S;cases S
  refine⟨_,rfl,g,dx,_,.ref st,rfl,(u _ _ Y),rfl,st,V,_,.ref b0,rfl,a5 _ _ q1,rfl,?_⟩;have U:ab B (upd (upd B tt (.tup [.int m,.str z])) R (.lst (a++[.ref tt]))):=(ab.new (d.free l)).trans (ab.new (by rwa [ao X]));have bR:(upd (upd B tt (.tup [.int m,.str z])) R (.lst (a++[.ref tt]))) R=some (.lst (a++[.ref tt])):=aa;have bt:(upd (upd B tt (.tup [.int m,.str z])) R (.lst (a++[.ref tt]))) tt=some (.tup [.int m,.str z]):=by rw[ao X.symm];exact aa
  have bo:∀c,c≠R->c≠tt->(upd (upd B tt (.tup [.int m,.str z])) R (.lst (a++[.ref tt]))) c=B c:=λc n j=>by rw[ao n,ao j]
  generalize upd (upd B tt (.tup [.int m,.str z])) R (.lst (a++[.ref tt]))=B1 at U bR bt bo;have Vy:ab B1 H5:=λc o e=>by
   by_cases n:c=R
   ·rw[n,bR]at e;cases e;rwa [n]
   by_cases j:c=tt
   ·rw[j,bt]at e;cases e;rw[j];exact(N.trans s4) _ _ a6
   rw[bo c n j]at e;exact a5 _ _ e
  have a3:∀{c:Yau}{o:HO},H c=some o->c≠R/\c≠tt:=λ{c o} e=>⟨(λh=>by rw[<-h,(M.trans (s2.trans N)) _ _ e]at S;cases S),λh=>by rw[<-h,M _ _ e]at l;cases l⟩;have Z:∀{c:Yau}{o:HO},H c=some o->B c=none->B1 c=none:=λ{c o} e _=>by rwa [bo c (a3 e).1 (a3 e).2]
  obtain⟨_,ka⟩:=aN a4;have b:=M.trans u;refine⟨B1,g,pa,tb,R,b0,v,a++[.ref tt],b1,v.cur.rs++[(m,z)],v.cur.bs,rfl,(bW.grow U Vy (Z W a8) (Z C rh) (Z G uQ) ((b _ _ W).trans W.symm) ((b _ _ C).trans C.symm) ((b _ _ G).trans G.symm)),Z ka az,bR,?_,U _ _ q4,q5.same U,by rw[XI,XZ];lia,λq hq=>?_,F.bl,F.hnd,b2,av (av a4 M) u,λH6 B' aw ax s6 ar Bz a7 gc e1 e2 OA=>?_⟩
  ·rw[XH];exact(q3.same U).append (.cons (.tup (.of bt) (.cons (.int _) (.cons (.str D.1) .nil))) .nil)
  ·rcases XU.mp hq with hq | hq
   ·exact F.lns q hq
   ·rw[XR.mp hq];exact⟨ws,L⟩
  ·have QL:=OA;obtain⟨_,_,_,_,_,_,_,_,_,ap,_⟩:=QL;have Gq:=U.trans a7;refine⟨_,rfl,O,_,rfl,.inl (.of (ap _ _ (Gq _ _ q2))),?_⟩;rw[J];refine k H6 B' aw ax (λc o e=>?_) ar ?_ Gq (λc o n j h3=>gc c o (Z j n) (b _ _ j) h3) e1 e2 OA
   ·obtain⟨n,e⟩:=aZ e;obtain⟨j,e⟩:=aZ e;obtain⟨h3,e⟩:=aZ e;exact s6 _ _ (Xj n j h3 (b _ _ e))
   ·exact b.free Bz
theorem Hi:ax ["self","other"] ["self","other"] (ae (mIn 56 2)):=fsc
theorem vO (T:Tx K mg A):OkM T.gG mg P w base 1 (dA K A):=by
 refine T.gG.fn.ok Hi (λvs H Q E h=>?_) (λ_ _ _ s H vs Q E e h=>?_)
 ·rcases h with⟨B,R,g,pa,X,m,D,z,v,n,rfl,_⟩ | ⟨x,y,t,rfl,_⟩ <;> rfl
 ·rcases h with⟨B,R,g,pa,X,m,D,z,v,n,rfl,bW,qZ,k⟩ | ⟨x,y,t,rfl,M,V,k⟩
  case inr=>
   refine⟨_,af (bg ((pw_or (fC (b7 (aE (r:=KU K) wU (by rfl) T.d8 dv (ag (pv 1) (pa1 (Kd (by rfl) T.Af)))))) (pw_or1 (bp (r:=yw K) (jT e) (aW T.aA T.c6 (pv 0)) (aW T.aA T.c6 (pv 1))))).pt) (aj (au fA)) aG)
   (aj (au (gY (iF (r:=nH K) (gy e) (aW T.aU T.bF (aW T.aA T.aC (pv 0))) (aW T.aU T.bF (aW T.aA T.aC (pv 1)))) (iw (iF (r:=nH K) (gy e) (aW T.aU T.be (aW T.aA T.aC (pv 0))) (aW T.aU T.be (aW T.aA T.aC (pv 1)))))))),?_⟩
   exact⟨_,rfl,y,A.aF,t,false,rfl,M,V,_,rfl,bN k⟩
  obtain⟨p,t,j,_,_,_,o,_,_,d,_,_,_,_,q,C,_⟩:=bW;obtain⟨f,W,b0,_,_,_,_,_,_,G,q2,q3,L,N,_⟩:=C;obtain⟨u,S,b,_,_,_,c,_,_,a,_,_,_,_,U1,Z,_⟩:=qZ;obtain⟨i,U,Y,_,_,_,_,_,_,F,J,p3,I,O,_⟩:=Z;refine⟨_,af (bg ((pw_or (fC (b7 (aE (r:=KU K) wU (by rfl) T.d8 dv (ag (pv 1) (pa1 (Kd (by rfl) T.Af)))))) (pw_or1 (bp (r:=yw K) (jT e) (aW T.aA T.c6 (pv 0)) (aW T.aA T.c6 (pv 1))))).pt) (aj (au fA)) aG)
   (aj (au (gY (iF (r:=nH K) (gy e) (aW T.aU T.bF (aW T.aA T.aC (pv 0))) (aW T.aU T.bF (aW T.aA T.aC (pv 1)))) (iw (iF (r:=nH K) (gy e) (aW T.aU T.be (aW T.aA T.aC (pv 0))) (aW T.aU T.be (aW T.aA T.aC (pv 1)))))))),?_⟩
  refine⟨_,rfl,_,A.aF,_,true,rfl,T.uq.ty T.aA c,T.uq.self,_,rfl,aX ?_⟩;refine⟨_,rfl,g,p,_,.ref t,rfl,o,rfl,_,rfl,m,u,_,.ref S,rfl,c,rfl,_,_,.tup (d.eQ q) (.cons (.int _) (.cons (.int _) .nil)),.tup (a.eQ U1) (.cons (.int _) (.cons (.int _) .nil)),by grind [ZT,Z3],_,rfl,?_⟩;cases he:Z7 (.tuple [.int v.s,.int v.l]) (.tuple [.int n.s,.int n.l])with
  | false=>
   rw[he]at k;exact bN k
  | true=>
   rw[he]at k;refine aX ⟨_,rfl,g,p,_,.ref j,rfl,o,rfl,j,f,_,.ref W,rfl,d _ _ G,rfl,_,rfl,m,u,_,.ref b,rfl,c,rfl,b,i,_,.ref U,rfl,a _ _ F,rfl,_,_,.lst (.of (d _ _ q2)) (q3.same d),.lst (.of (a _ _ J)) (p3.same a),?_,?_⟩
   ·exact HF _
   refine⟨_,rfl,?_⟩;cases he2:Z7 (.list (v.cur.rs.map iR)) (.list (n.cur.rs.map iR))with
   | false=>
    lia
   | true=>
    rw[he2]at k;exact bN ⟨_,rfl,g,p,_,.ref j,rfl,o,rfl,j,f,_,.ref b0,rfl,d _ _ G,rfl,_,rfl,m,u,_,.ref b,rfl,c,rfl,b,i,_,.ref Y,rfl,a _ _ F,rfl,_,_,.lst (.of (d _ _ L)) (N.same d),.lst (.of (a _ _ I)) (O.same a),m6 _,k⟩
theorem qC:ax ["self"] ["self"] (ae (mIn 56 13)):=fsc
theorem c7 (T:Tx K mg A):OkM T.cg mg P w base 1 (jB K A):=by
 refine T.cg.fn.ok qC (λvs H Q E h=>?_) (λ_ _ _ s H vs Q E _ h=>?_)
 ·obtain⟨B,g,pa,tb,v,rfl,_⟩:=h;rfl
 ·obtain⟨B,g,pa,tb,v,rfl,bW,k⟩:=h;obtain⟨dx,t,G,_,_,_,Z,_,_,m,_,_,_,_,_,W,_,p,_,z,_⟩:=bW;obtain⟨y,_,b0,f0,_,_,a,b,_,q1,_,q3,q4,q5,q6,q7,_,_⟩:=W;have a0:a.length=v.cur.bs.length:=by rw[q5.length,XA]
  have a3:b.length=v.cur.fs.length:=by rw[q7.length,XA]
  have h1:=z.bl;have h2:=z.gth.lt;refine⟨_,aj (au (pcm ["pattern"] [] (ae (mIn 56 13)) ["self"] (aI (bU (r:=qX K) kH (aW T.aU T.be (aW T.aA T.aC (pv 0))) (aW T.aU T.gv (aW T.aA T.aC (pv 0))))) (λs H _=>bI (r:=jl K) fF (by rfl) T.i4 fZ (pa1 (pv 0))))),?_⟩;refine⟨_,rfl,g,dx,_,.ref G,rfl,Z,rfl,G,y,_,.ref b0,rfl,m _ _ q1,rfl,_,rfl,g,dx,_,.ref G,rfl,Z,rfl,G,y,_,.ref f0,rfl,m _ _ q1,rfl,b0,f0,_,_,rfl,rfl,.of (m _ _ q4),.of (m _ _ q6),XG (show a.length+b.length<=1000 by lia) (by decide),λC hC=>⟨C,rfl,⟨_,.of aa⟩,?_⟩⟩;have I:ab H (upd H C (.lst (a++b))):=ab.new hC;have f:(upd H C (.lst (a++b))) C=some (.lst (a++b)):=aa;have V:ay K H (a++b) ((v.cur.bs++v.cur.fs).map aD):=by
   rw[XH];exact(q5.same m).append (q7.same m)
  have R:(a++b).length<=1000:=by grind
  have j:(a++b).length=(v.cur.bs++v.cur.fs).length:=by simp_all
  generalize upd H C (.lst (a++b))=H1 at I f ⊢;generalize a++b=xs at f V R j;generalize v.cur.bs++v.cur.fs=pss at V j k;intro D N;refine aB (K:=K) (xs:=xs) (λi c M n=>(∃u,M=[u])/\ab H1 n/\ay K (wo D (lim H n)) c ((pss.take i).map aD)) aa ⟨⟨_,rfl⟩,ab.new N,.nil⟩ (λi c M n _ _ q=>.of (q.2.1 _ _ f)) (λi x c M n hx l q=>?_) (λc M n U q=>?_)
  ·obtain⟨q0,J,d⟩:=q;apply cY q0;clear q0;intro u;obtain⟨_,X,p⟩:=c8 V hx;obtain⟨a1,O,rfl,Y,S⟩:=dH p;have e:=I.trans J;have a4:c.length<=1000:=by rw[d.length,XA,X4];lia
   refine bZ ⟨_,rfl,a1,O,rfl,.inl (e.seq Y),λL hL=>?_⟩;have F:=ab.new (o:=.lst O) hL;refine⟨_,F _ _ l,small (by lia),_,aa,⟨_,rfl⟩,ar N (J.trans F),?_⟩;rw[qJ,dw X];refine(d.same (g8 (bM F))).append (.cons (.lst (xs:=O) (.of (by rw[aq ((aw l hL).symm),bK (e.free hL)];exact aa)) ?_) .nil);exact(js e (e.trans F) S).same (Ja e l)
  ·obtain⟨_,J,d⟩:=q;rw[j,XY (XD _)]at d;exact k D c n (I.free N) (I.trans J) U (d.same bc)
theorem yt:ax ["self","number"] ["self","number"] (ae (mIn 56 14)):=fsc
theorem nN (T:Tx K mg A):OkM T.gj mg P w base 1 (mX K A):=by
 refine T.gj.fn.ok yt (λR H Q E h=>?_) (λ_ _ _ s H R Q E _ h=>?_)
 ·obtain⟨B,g,G,F,v,i,y,rfl,_⟩:=h;rfl
 ·obtain⟨B,g,G,F,v,i,y,rfl,L,u,k⟩:=h;obtain⟨O,t,m,_,_,_,I,_,_,c,_,_,_,_,_,l,_,_,_,_,_⟩:=L;obtain⟨e,_,_,_,b,_,_,_,a,U,_,q3,_,_,_,_,J,p⟩:=l;have C:a.length=v.cur.os.length:=by rw[p.length,XA]
  have S:=ba u;have q:a[i]? = some a[i]:=XJ (by lia);obtain⟨o,n,N⟩:=qH p q;rw[u]at n;cases n;obtain⟨z,x,M,j,d⟩:=dH N;refine⟨_,aj (au (bI (r:=jl K) fF (by rfl) T.i4 fZ (pa1 (fj K (aW T.aU T.dU (aW T.aA T.aC (pv 0))) (pv 1))))),?_⟩;refine⟨_,rfl,g,O,_,.ref m,rfl,I,rfl,m,e,_,.ref b,rfl,c _ _ U,rfl,_,rfl,b,_,(i:Int),_,rfl,rfl,.of (c _ _ J),d5 q,z,x,by rw[M],.inl (c.seq j),λD f=>?_⟩;exact k D x _ f (ab.new f) aa (js (ab.refl H) (ab.new f) (d.same c))
theorem zd:ax ["self","sieve"] ["self","sieve"] (ae (mIn 56 0)):=fsc
theorem zL (T:Tx K mg A):OkN T.iz mg P w base 23 (o8 K A):=by
 refine T.iz.fn.ok zd (λvs H Q E h=>?_) (λ_ _ _ s H vs Q E hr h=>?_)
 ·obtain⟨g,t,m,s0,l0,rfl,_⟩:=h;rfl
 ·obtain⟨g,t,m,s0,l0,rfl,hg,Z,aw,k⟩:=h;obtain⟨_,ka⟩:=aN aw;have b4:g≠A.ap:=λe=>by lia
  refine⟨_,af (jz T.aA T.c6 (pv 0) (bI iq (by rfl) T.qW nk (pa1 (pv 1))))
   (af (jz T.aA T.aC (pv 0) (nX T.Bj ((lQ T).mono (by decide)) hr (by rfl) T.EX T.jk.bd .nil bu (ag (aW T.aA T.c6 (pv 0)) (ag (br dG) (pa1 (br dG))))))
   (af (jz T.aA T.iV (pv 0) (aW T.aA T.aC (pv 0)))
   (af (jz T.aA T.qb (pv 0) (br dG))
   (aj (jz T.aA T.ig (pv 0) (br dG)))))),?_⟩
  refine⟨_,rfl,t,_,rfl,.inr ⟨Z,_,rfl,g,m,_,rfl,hg,by decide,?_⟩⟩;refine eL aw hg λH1 N f1 ao=>?_;replace N:H1 g=some (.ins A.aF m [("sieve",.ref t)]):=N;have ah:ab (wo g H) H1:=λc o e=>by
   grind [aZ]
  refine⟨_,rfl,g,m,_,.ref t,rfl,N,rfl,XT _,λr bg=>?_⟩;obtain⟨_,R,s2,ai⟩:=cL (.lst []) bg;rw[R];refine⟨XT _,λb a6=>?_⟩;obtain⟨H3,R,s3,ae⟩:=cL (.lst []) a6;rw[R];have I:=s2.trans s3;have M:=I _ _ N;intro x as hx b8 bb;obtain⟨Hx,R,L,au⟩:=rR A.aJ hx b8 bb;rw[R];have sH:ab (wo g H) Hx:=(ah.trans I).trans L;have ax:x≠g:=λe=>by lia
  have n0:∀{c:Yau},H3 c=none->H c=none:=λ{c} e=>by
   cases e2:H c with
   | none=>rfl
   | some o=>
    by_cases a:c=g
    ·rw[a,M]at e;cases e
    ·rw[(ah.trans I) c o (by rwa [aq a])]at e;cases e
  have b1:H x=none:=n0 hx;have be:H r=none:=by
   grind
  have b3:H b=none:=by
   have b7:b≠g:=λe=>by lia
   cases e2:H b with
   | none=>rfl
   | some o=>rw[s2 _ _ (show H1 b=some o by rwa [f1 b b7])]at a6;cases a6
  refine⟨x,t,r,b,as,[],[],[],[],s0,l0,rfl,au,sH.eQ (qR hg Z),(s3.trans L) _ _ ai,.nil,L _ _ ae,.nil,by decide,(λq p=>by cases p),by decide,(λq p=>by cases p),av (av ao I) L,λF f fl fv lv a0 a8 hf b0 s4 X bj b6 df WB dl KS sQ=>⟨rfl,?_⟩⟩;have a3:F g=some (.ins A.aF m [("sieve",.ref t)]):=s4 _ _ (Xf ax.symm b4 (L _ _ M));refine⟨_,rfl,g,m,_,rfl,a3,by simp,?_⟩;refine eL X a3 λH5 G f5 b9=>?_;replace G:H5 g=some (.ins A.aF m [("sieve",.ref t),("state",.ref x)]):=G;refine⟨_,rfl,g,m,_,.ref x,rfl,G,rfl,_,rfl,g,m,_,rfl,G,by simp,?_⟩;refine eL b9 G λH6 a5 f0 ba=>?_;replace a5:H6 g=some (.ins A.aF m [("sieve",.ref t),("state",.ref x),("ahead",.ref x)]):=a5;have f6:∀c,c≠g->H6 c=F c:=λc h=>(f0 c h).trans (f5 c h);refine⟨XT _,λpa b5=>?_⟩;obtain⟨_,R,s7,_⟩:=cL (.lst []) b5;rw[R];have b2:=s7 _ _ a5;have D:pa≠g:=λe=>by lia
  refine⟨_,rfl,g,m,_,rfl,b2,by simp,?_⟩;refine eL (av ba s7) b2 λH8 a9 f8 bh=>?_;replace a9:H8 g=some (.ins A.aF m [("sieve",.ref t),("state",.ref x),("ahead",.ref x),("past",.ref pa)]):=a9;refine⟨XT _,λtb n=>?_⟩;obtain⟨_,R,s9,_⟩:=cL (.lst []) n;rw[R];have az:=s9 _ _ a9;have y:tb≠g:=λe=>by lia
  have bf:H8 pa=some (.lst []):=by rwa [f8 pa D]
  have bc:tb≠pa:=λe=>by lia
  refine⟨_,rfl,g,m,_,rfl,az,by simp,?_⟩;refine eL (av bh s9) az λi Fo aa MY=>?_;replace Fo:i g=some (.ins A.aF m [("sieve",.ref t),("state",.ref x),("ahead",.ref x),("past",.ref pa),("taken_back",.ref tb)]):=Fo;have g4:∀c o,c≠g->F c=some o->i c=some o:=λc o a e=>by
   rw[aa c a];refine s9 _ _ ?_;rw[f8 c a];refine s7 _ _ ?_
   rwa [f6 c a]
  have gx:∀c o,c≠g->c≠x->c≠A.ap->Hx c=some o->i c=some o:=λc o a j l e=>g4 c o a (s4 _ _ (by rwa [aq j,aq l]));have g0:∀c o,c≠g->c≠A.ap->H c=some o->i c=some o:=λc o a l e=>gx c o a (λz=>by lia) l (sH _ _ (by rwa [aq a]));have z4:∀{c:Yau},c≠g->F c=none->H c=none:=λ{c} a e=>by
   cases e2:H c with
   | none=>rfl
   | some o=>
    by_cases l:c=A.ap
    ·obtain⟨q,p⟩:=aN X;rw[l,p]at e;cases e
    ·rw[s4 c o (by rw[aq (nw e2 b1),aq l];exact sH _ _ (by rwa [aq a]))]at e;cases e
  have Sm:H pa=none:=z4 D (by rwa [<-f6 pa D]);have Js:H tb=none:=z4 y (by
   cases e2:F tb with
   | none=>rfl
   | some o=>
    rw[f8 tb y]at n;rw[s7 _ _ (show H6 tb=some o by rwa [f6 tb y])]at n;cases n)
  have u:∀{c:Yau}{Y:Qqt},Hx c=some (.lst Y)->c≠g/\c≠x/\c≠A.ap:=λ{c Y} e=>⟨(λz=>by rw[z,L _ _ M]at e;cases e),(nw e au),λz=>by
   obtain⟨q,p⟩:=aN (av (av ao I) L);rw[z,p]at e;cases e⟩
  have W:=(s3.trans L) _ _ ai;have a4:=L _ _ ae;have JS:F pa=none:=by rwa [<-f6 pa D]
  have Ck:F tb=none:=by
   cases e2:F tb with
   | none=>rfl
   | some o=>
    rw[f8 tb y]at n;rw[s7 _ _ (show H6 tb=some o by rwa [f6 tb y])]at n;cases n
  have S:∀{c:Yau}{o:HO},F c=some o->c≠pa/\c≠tb:=λ{c o} e=>⟨(nw e JS),nw e Ck⟩;have J:∀{c:Yau}{o:HO},H c=none->c≠g->F c=some o->nxt (λ_=>none) H i g pa tb c=some o:=λ{c o} a j l=>by
   rw[g9 j (S l).1 (S l).2 (λ_ z=>by rw[a]at z;cases z) (λ_ _ _ z=>by rw[a]at z;cases z) λ_ z=>by rw[a]at z;cases z];exact g4 _ _ j l
  have O:∀{c:Yau},Hx c=none->H c=none/\c≠g:=λ{c} e=>by
   have a:c≠g:=λz=>by rw[z,L _ _ M]at e;cases e
   refine⟨?_,a⟩;cases e2:H c with
   | none=>rfl
   | some o=>rw[sH c o (by rwa [aq a])]at e;cases e
  have go:∀{v:Qqt}{ds:Qqy},ay K (lim Hx F) v ds->ay K (nxt (λ_=>none) H i g pa tb) v ds:=λ{v ds} d=>mS d λc o a j _ l h4=>by
   have U:c≠g:=λe=>by rw[e,a3]at j;cases j;exact l _ _ _ rfl
   have n4:c≠A.ap:=λe=>by
    obtain⟨q,p⟩:=aN X;rw[e,p]at j;cases j;exact h4 _ rfl
   have a7:=g4 c o U j;rw[g9 U (S j).1 (S j).2 (λY e=>a Y (sH _ _ (by rwa [aq U]))) (λC d' fs e=>?_) (λps e=>?_)]
   ·exact a7
   ·have:=g0 _ _ U n4 e;rw[a7]at this;cases this;exact l _ _ _ rfl
   ·have:=g0 _ _ U n4 e;rw[a7]at this;cases this;exact h4 _ rfl
  have hqB:SqT K (nxt (λ_=>none) H i g pa tb) t [.int s0,.int l0]:=by
   have ar:∀o:HO,(∀Y,o ≠ .lst Y)->(∀C d' fs,o ≠ .ins C d' fs)->(∀ps,o ≠ .tbl ps)->H t=some o->nxt (λ_=>none) H i g pa tb t=some o:=λo a j l e=>by
    have U:t≠g:=λz=>by rw[z,hg]at e;cases e;exact j _ _ _ rfl
    have n4:t≠A.ap:=λz=>by rw[z,ka]at e;cases e;exact l _ rfl
    rw[g9 U (nw e Sm) (nw e Js) (λY z=>by rw[e]at z;cases z;exact a _ rfl) (λ_ _ _ z=>by rw[e]at z;cases z;exact j _ _ _ rfl) λ_ z=>by rw[e]at z;cases z;exact l _ rfl];exact g0 _ _ U n4 e
   rcases Z with(q | ⟨ob,q⟩) | q
   ·exact .inl (.inl (ar _ (λ_ z=>by cases z) (λ_ _ _ z=>by cases z) (λ_ z=>by cases z) q))
   ·exact .inl (.inr ⟨ob,ar _ (λ_ z=>by cases z) (λ_ _ _ z=>by cases z) (λ_ z=>by cases z) q⟩)
   ·exact .inr q
  have lr:=qO (B:=λ_=>none) (H:=H) (H':=i) (g:=g) (pa:=pa) (tb:=tb);have Q1:AL K A.aJ (nxt (λ_=>none) H i g pa tb) x ⟨[],[],a0,a8⟩:=⟨as,r,b,f,fl,[],[],fv,lv,J b1 ax bj,J be (u W).1 (s4 _ _ (by rwa [aq (u W).2.1,aq (u W).2.2])),.nil,J b3 (u a4).1 (s4 _ _ (by rwa [aq (u a4).2.1,aq (u a4).2.2])),.nil,J (O hf).1 (O hf).2 b6,go df,J (O b0).1 (O b0).2 WB,go dl⟩;have ak:StV.Ok ⟨[],[],a0,a8⟩ s0 l0:=⟨KS,sQ,(λq p=>by cases p),(λq p=>by cases p),by simp,by simp⟩;refine k i (nxt (λ_=>none) H i g pa tb) pa tb ⟨[],[],a0,a8⟩ (λc o e=>?_) MY Sm Js (λc o a j=>xh rfl a j) rfl rfl ⟨m,t,x,x,[],[],Fo,by rw[aa pa D];exact s9 _ _ bf,by rwa [aa tb y],BM (λc o e=>by cases e),lr.1,lr.2.1,lr.2.2,bc.symm,hqB,Q1,Q1,.nil,.nil,ak,ak⟩;obtain⟨a,e⟩:=aZ e;obtain⟨j,e⟩:=aZ e;exact g0 c o a j e
def tP (K:Vzz) (A:Ad):Sp:=λvs H Q _=>∃(B:Hp) (g pa tb:Yau) (v:eD) (x:V) (ps:Qqs),vs=[.ref g,x]/\bi K A.aF A.aJ B H g pa tb v/\B A.ap=none/\Den K H x (aD ps)/\PW ps/\ps≠[]/\ps.length<=12/\ps∉v.cur.bs/\v.cur.bs.length<12/\v.past.length<=100000/\cD A.ap H /\
 ∀(H' B':Hp) (tb':Yau) (cur:StV),ab (wo g (wo pa (wo A.ap H))) H'->cD A.ap H'->H tb' = none->ab B B'->(∀c o,B c=none->H c=some o->lz o->B' c=none)->cur.rs=v.cur.rs->cur.bs.Perm (v.cur.bs++[ps])->ow cur.bs->bi K A.aF A.aJ B' H' g pa tb' ⟨v.s,v.l,cur,v.cur,v.past++[(v.cur.rs,v.cur.bs)],[]⟩->Q .non H'
theorem Cz:ax ["thing"] ["thing"] (ae (top 22)):=fsc
theorem Br (T:Tx K mg A):Okd T.xM P w base 3 (CK K):=by
 refine T.xM.fn.ok Cz (λe H Q E h=>?_) (λ_ _ _ s H e Q E f h=>?_)
 ·obtain⟨v,p,rfl,_⟩:=h;rfl
 ·obtain⟨v,p,rfl,d,c,k⟩:=h;obtain⟨t,x,y,rfl,a,_,_,b⟩:=lX d;refine⟨_,af (bg ((pw_or (fC (b7 (aE (r:=LM K) vV (by rfl) T.d8 dv (ag (pv 0) (pa1 (qI (v:=.ty "tuple") (by rfl) T.qW nk rfl)))))) (pw_or1 (bp px (aE (r:=cZ K) aS (by rfl) T.cM Z8 (pa1 (pv 0))) ak))).pt) (aj (au fA)) aG)
   (af (bg (bp gE (iT K (pv 0) ak) aH) (aj (au (aY T.nE (mq T) f (pa1 (iT K (pv 0) ak))))) aG)
   (aj (au (gY (iF gE (iT K (pv 0) ak) aH) (iw (qM (r:=rIn K false) vY (iT K (pv 0) ak) (fM (v:=.ref A.cs) (by rfl) T.jc rfl) (by rfl))))))),?_⟩
  refine⟨_,rfl,t,_,.inl ⟨rfl,a⟩,_,rfl,aX ?_⟩;refine⟨_,rfl,t,_,rfl,.inr a,rfl,_,rfl,aX ?_⟩;refine⟨_,rfl,t,_,0,_,rfl,rfl,a,rfl,rfl,_,rfl,?_⟩;cases p with
  | word _=>
   obtain⟨rfl,rfl⟩:=b;rw[Yb4 rfl];exact bN ⟨_,rfl,t,_,1,_,rfl,rfl,a,rfl,_,rfl,(show TOk _ from c).1,k⟩
  | hole m=>
   obtain⟨rfl,rfl⟩:=b;refine aX ⟨_,rfl,t,_,0,_,rfl,rfl,a,rfl,rfl,_,rfl,?_⟩;rw[Yb4 rfl];refine bN ⟨_,rfl,t,_,1,_,rfl,rfl,a,rfl,A.cs,_,rfl,.inr (T.jm _),rfl,rfl,?_⟩;have g:∀i<3,(inV (.str (cA i)) [.str "number",.str "name",.str "any"])=true:=by decide +kernel
   rwa [Yb8 XN,g m c]
theorem vk:ax ["thing"] ["thing"] (ae (top 23)):=fsc
theorem vd (T:Tx K mg A):Okd T.l5 P w base 4 (uH K):=by
 refine T.l5.fn.ok vk (λy H Q E h=>?_) (λ_ _ _ s H y Q E z h=>?_)
 ·obtain⟨v,ps,rfl,_⟩:=h;rfl
 ·obtain⟨v,ps,rfl,t,m,_,_,_,k⟩:=h;obtain⟨a,xs,rfl,e,d⟩:=dH t;have q:xs.length=ps.length:=by rw[d.length,XA]
  refine⟨_,af (bg (fC (b7 (aE (r:=LM K) vV (by rfl) T.d8 dv (ag (pv 0) (pa1 (qI (v:=.ty "list") (by rfl) T.i4 fZ rfl)))))) (aj (au fA)) aG)
   (aj (au (gY (A7 wx wx ak (aE (r:=cZ K) aS (by rfl) T.cM Z8 (pa1 (pv 0))) (fM (v:=.int 12) (by rfl) (Ya7 T.xV) ⟨_,rfl⟩)) (iw (aE (r:=Gu K) (j5 rfl) (by rfl) T.Av um (pa1 (pcm ["part"] [] (ae (top 23)) ["thing"] (aI (pv 0)) (λs H _=>aY T.xM (Br T) z (pa1 (pv 0)))))))))),?_⟩
  refine⟨_,rfl,a,xs,.inr ⟨rfl,e⟩,_,rfl,aX ?_⟩;refine⟨_,rfl,a,xs,rfl,.inl e,_,_,rfl,rfl,_,rfl,?_⟩;rw[Yb4 (show(1:Int)<=(xs.length:Int)by lia)];refine bN ⟨_,_,rfl,rfl,_,rfl,?_⟩;rw[Yb4 (show(xs.length:Int)<=12 by lia)];refine bN ⟨_,rfl,a,rfl,⟨_,e⟩,λD n=>?_⟩;refine aB (K:=K) (xs:=xs) (λi b g f=>(∃u,g=[u])/\ab H f/\b=(UF i true).map V.bl) aa ⟨⟨_,rfl⟩,ab.new n,rfl⟩ (λi b g f _ _ p=>p.2.1.seq e) (λi x b g f o c p=>?_) (λb g f c p=>?_)
  ·obtain⟨⟨u,rfl⟩,l,rfl⟩:=p;have F:=ba o;obtain⟨p,C,j⟩:=gh d o;have B:=XB C;refine bZ ⟨_,rfl,x,p,rfl,j.same l,m p B,_,c,small (by grind),_,aa,⟨_,rfl⟩,ar n l,?_⟩
   grind [Zd,XH]
  ·obtain⟨_,l,rfl⟩:=p;refine⟨D,_,rfl,.of c,?_⟩
   simp_all
theorem uu:ax ["self","pattern","by_hand"] ["self","pattern"] (ae (mIn 56 8)):=fsc
theorem BC (T:Tx K mg A):OkM T.lc mg P w base 25 (tP K A):=by
 refine T.lc.fn.ok uu (λvs H Q E h=>?_) (λ_ _ _ s H vs Q E hr h=>?_)
 ·obtain⟨B,g,pa,tb,v,x,ps,rfl,_⟩:=h;rfl
 ·obtain⟨B,g,pa,tb,v,x,ps,rfl,bW,ae,cf,N,_,uB,Wj,_,ai,Z,k⟩:=h;have Bo:=bW;obtain⟨dx,t,st,_,_,_,M,u,z,U,a3,rh,uQ,_,_,a7,_,_,_,m,_⟩:=Bo;obtain⟨L,r0,b0,_,_,a0,n,_,_,q1,q2,q3,q4,q5,_,_,_,_⟩:=a7;have a9:n.length=v.cur.bs.length:=by rw[q5.length,XA]
  have V:∀p∈ps,p.ok:=λp G=>(N p G).okP.1;have UG:1<=ps.length:=by
   grind
  refine⟨_,af (aV (i:=2) uu.nd rfl (Or.inl rfl) (aW T.aU T.be (aW T.aA T.aC (pv 0))))
   (af (bg ((pw_or (fC (b7 (aY T.l5 (vd T) hr (pa1 (pv 1))))) (pw_or1 (ju (r:=zm K false) (II hr) (pv 1) (pv 2) (by rfl)))).pt) (aj eG) aG)
   (af (bg (bp DK (aE (r:=cZ K) aS (by rfl) T.cM Z8 (pa1 (pv 2))) (fM (v:=.int 12) (by rfl) (Ya7 T.sI) ⟨_,rfl⟩)) (aj eG) aG)
   (aj (bV (cO (pv 0) T.aA T.gH ((gz T).mono (by decide)) hr T.fQ.bd .nil bu (ag (aW T.aU T.bF (aW T.aA T.aC (pv 0))) (pa1 (aY T.ordered (l3 T) hr (pa1 (bU (r:=qX K) kH (pv 2) (br (pa1 (pv 1))))))))))))),?_⟩
  refine⟨_,rfl,g,dx,_,.ref st,rfl,M,rfl,st,L,_,.ref b0,rfl,U _ _ q1,rfl,?_⟩;refine⟨_,rfl,x,ps,rfl,cf,V,UG,uB,λp G=>(N p G).okP.2,λ_ s1=>⟨_,rfl,aX ?_⟩⟩;have j:=U.trans s1;refine⟨_,rfl,_,rfl,_,_,.lst (.of (j _ _ q4)) (q5.same j),cf.same s1,?_,_,rfl,?_⟩
  ·exact XG (bY _) (by decide)
  rw[Yb8 XN,kQ (λq f p G=>((m.hnd q f).1 p G).okP.1) V,Yb5 Wj];refine aX ?_;refine⟨_,rfl,b0,_,rfl,.inl (.of (j _ _ q4)),_,_,rfl,rfl,_,rfl,?_⟩;rw[Yb5 (by rw[a9];lia)];refine aX ?_;have S:=s1 _ _ M;refine⟨_,rfl,g,dx,_,rfl,S,rfl,_,rfl,g,dx,_,.ref st,rfl,S,rfl,st,L,_,.ref r0,rfl,j _ _ q1,rfl,?_⟩;refine⟨_,rfl,_,rfl,(by show 1<=Yb0;decide),λll C=>?_⟩;obtain⟨_,eq,s2,a6⟩:=cL (.lst [x]) C;rw[eq];refine⟨b0,ll,_,_,rfl,rfl,.of ((j.trans s2) _ _ q4),.of a6,XG (show n.length+1<=100 by lia) (by decide),λR hR=>?_⟩;obtain⟨H3,eq,s3,a4⟩:=cL (.lst (n++[x])) hR;rw[eq];have d:=s1.trans (s2.trans s3);have y:mw (v.cur.bs++[ps]):=λq f=>by
   rcases XU.mp f with f | f
   ·exact m.hnd q f
   ·simp_all
  have d3:ay K H3 (n++[x]) ((v.cur.bs++[ps]).map aD):=by
   rw[XH];exact(q5.same (U.trans d)).append (.cons (cf.same d) .nil)
  refine⟨R,_,_,rfl,.of a4,by grind,d3,λq f=>⟨XG (y q f).2.2 (by decide),λp G=>((y q f).1 p G).okP.1⟩,λD O H4 l hD s4 _ bw _ _ _ dn=>?_⟩;have a:=d.trans s4;obtain⟨_,ka⟩:=aN Z;have X:∀c o,B c=some o->H4 c=some o:=λc o e=>a _ _ (U _ _ e);have b:=za (H':=H4) U a3 rh uQ X;have lr:=qO (B:=B) (H:=H) (H':=H4) (g:=g) (pa:=pa) (tb:=tb);have Y:ab (nxt B H H4 g pa tb) H4:=BM X;have ak:H D=none:=d.free hD;have dB:=Hl (B:=B) d s4 M u z dn;have bD:nxt B H H4 g pa tb D=some (.lst O):=by
   grind [g9]
  have F:∀c o,B c=none->H c=some o->lz o->nxt B H H4 g pa tb c=none:=λc o W I J=>xh W I J;generalize nxt B H H4 g pa tb=B1 at b lr Y dB bD F;have C:=bw.length_eq;rw[XI,XZ]at C;refine⟨B1,g,pa,tb,r0,D,v,a0,O,v.cur.rs,l,rfl,bW.grow b Y lr.1 lr.2.1 lr.2.2 ((a _ _ M).trans M.symm) ((a _ _ u).trans u.symm) ((a _ _ z).trans z.symm),F _ _ ae ka (.inr (.inr ⟨_,rfl⟩)),b _ _ q2,q3.same b,bD,dB,m.rl,m.lns,by lia,(λq f=>y q (bw.mem_iff.mp f)),ai,av Z a,λH5 B' a8 aa s5 a5 Bz Gq gc e1 e2 Kl=>?_⟩;refine k H5 B' a8 aa (λc o e=>?_) a5 (a.free Bz) (b.trans Gq) (λc o W I J=>gc c o (F c o W I J) (a _ _ I) J) e1 (by rwa [e2]) (by rwa [e2]) Kl;obtain⟨W,e⟩:=aZ e;obtain⟨I,e⟩:=aZ e;obtain⟨J,e⟩:=aZ e;exact s5 _ _ (Xj W I J (a _ _ e))
def AA (K:Vzz) (A:Ad):Sp:=λvs H Q _=>∃(B:Hp) (g pa tb:Yau) (v:eD) (x:V) (ps:Qqs),vs=[.ref g,x]/\bi K A.aF A.aJ B H g pa tb v/\B A.ap=none/\Den K H x (aD ps)/\(∀p∈ps,p.ok)/\ps∈v.cur.bs/\v.past.length<=100000/\cD A.ap H /\
 ∀(H' B':Hp) (tb':Yau) (cur:StV),ab (wo g (wo pa (wo A.ap H))) H'->cD A.ap H'->H tb' = none->ab B B'->(∀c o,B c=none->H c=some o->lz o->B' c=none)->cur.rs=v.cur.rs->cur.bs=v.cur.bs.filter (λq=>decide (q≠ps))->bi K A.aF A.aJ B' H' g pa tb' ⟨v.s,v.l,cur,v.cur,v.past++[(v.cur.rs,v.cur.bs)],[]⟩->Q .non H'
theorem qf:ax ["self","pattern","by_hand"] ["self","pattern"] (ae (mIn 56 9)):=fsc
theorem yY (T:Tx K mg A):OkM T.tm mg P w base 25 (AA K A):=by
 refine T.tm.fn.ok qf (λvs H Q E h=>?_) (λ_ _ _ s H vs Q E hr h=>?_)
 ·obtain⟨B,g,pa,tb,v,x,G,rfl,_⟩:=h;rfl
 ·obtain⟨B,g,pa,tb,v,x,G,rfl,bW,_,cf,O,a9,ai,U,k⟩:=h;have Bo:=bW;obtain⟨dx,t,X,_,_,_,F,m,C,l,_,_,_,_,_,a4,_,_,_,j,_⟩:=Bo;obtain⟨N,r0,b0,_,_,a0,S,_,_,q1,q2,q3,q4,q5,_,_,_,_⟩:=a4;have a6:S.length=v.cur.bs.length:=by rw[q5.length,XA]
  have ak:=j.bl;have Ss:∀q∈v.cur.bs,∀p∈q,p.ok:=λq hq p L=>((j.hnd q hq).1 p L).okP.1;refine⟨_,af (aV (i:=2) qf.nd rfl (Or.inl rfl) (aW T.aU T.be (aW T.aA T.aC (pv 0))))
   (af (bg (ju (r:=zm K true) (k5 hr) (pv 1) (pv 2) (by rfl)) (aj eG) aG)
   (aj (bV (cO (pv 0) T.aA T.gH ((gz T).mono (by decide)) hr T.fQ.bd .nil bu (ag (aW T.aU T.bF (aW T.aA T.aC (pv 0))) (pa1 (cm (N':=["kept","pattern"]) (n:=1) (fi:=[1]) (g:=bf 0) rfl (bX (ae (mIn 56 9)) ["self","pattern","by_hand"] (by decide +kernel)) (aI (pv 2)) (λs H fp=>aM (i:=0) (show(["kept","pattern"]:Qqv).Nodup by decide +kernel) rfl (Or.inl rfl) (.inr rfl)) (λs H fp=>cT (bp (r:=yw K) (jT hr) (pv 0) (pv 1))) (λs H fp=>pv 0)))))))),?_⟩
  refine⟨_,rfl,g,dx,_,.ref X,rfl,F,rfl,X,N,_,.ref b0,rfl,l _ _ q1,rfl,?_⟩;refine⟨_,rfl,_,rfl,_,_,.lst (.of (l _ _ q4)) (q5.same l),cf,XG (bY _) (by decide),_,rfl,?_⟩;rw[Yb7 rfl,kQ Ss O,Yb4 a9];refine aX ?_;refine⟨_,rfl,g,dx,_,rfl,F,rfl,_,rfl,g,dx,_,.ref X,rfl,F,rfl,X,N,_,.ref r0,rfl,l _ _ q1,rfl,?_⟩;refine⟨_,rfl,b0,rfl,⟨_,.of (l _ _ q4)⟩,λD hD=>?_⟩;refine aB (K:=K) (xs:=S) (λi a Z H2=>(∃u,Z=[u,some x])/\ab H H2/\ay K B a (((v.cur.bs.take i).filter λq=>decide (q≠G)).map aD)) aa ⟨⟨_,rfl⟩,ab.new hD,.nil⟩ (λi a Z H2 _ _ q=>.of (q.2.1 _ _ (l _ _ q4))) (λi y a Z H2 hy V q=>?_) (λa Z H2 _ q=>?_)
  ·obtain⟨q0,b,I⟩:=q;apply cY q0;clear q0;intro u;obtain⟨d,hd,M⟩:=q5.get hy;rw[XM]at hd;obtain⟨p,Y,rfl⟩:=Option.map_eq_some_iff.mp hd;have as:a.length<=64:=by
    rw[I.length,XA]
    grind
   have ht:v.cur.bs.take (i+1)=v.cur.bs.take i++[p]:=by rw[XW,Y];rfl
   rw[ht,Yq,XH];refine⟨_,rfl,_,rfl,_,_,(M.same l).same b,cf.same b,XG (bY _) (by decide),_,rfl,?_⟩;rw[n6 (Ss p (XB Y)) O];by_cases L:p=G
   ·rw[Yb4 L,show([p].filter λq=>decide (q≠G))=[]from Y2 (λe=>Yb6 e L),YU,Ym];exact aX ⟨a,V,⟨_,rfl⟩,b,I⟩
   ·rw[Yb5 L,show([p].filter λq=>decide (q≠G))=[p]from Zp (Yb4 L)];exact bN ⟨_,rfl,a,V,small (by lia),_,aa,⟨_,rfl⟩,ar hD b,I.append (.cons M .nil)⟩
  ·obtain⟨_,b,I⟩:=q;rw[a6,Yk]at I;obtain⟨_,ka⟩:=aN U;have f:ab B (upd B D (.lst a)):=ab.new (l.free hD);have a8:ab (upd B D (.lst a)) H2:=λc o e=>by
    by_cases J:c=D
    ·rw[J,aa]at e;cases e;rwa [J]
    ·rw[ao J]at e;exact b _ _ (l _ _ e)
   have R:∀{c:Yau}{o:HO},H c=some o->c≠D:=λ{c o} e z=>by lia
   have ap:=Yt (λq=>decide (q≠G)) v.cur.bs;refine⟨upd B D (.lst a),g,pa,tb,r0,D,v,a0,a,v.cur.rs,_,rfl,bW.grow f a8 (by rwa [ao (R F)]) (by rwa [ao (R m)]) (by rwa [ao (R C)]) ((b _ _ F).trans F.symm) ((b _ _ m).trans m.symm) ((b _ _ C).trans C.symm),by rwa [ao (R ka)],f _ _ q2,q3.same f,aa,I.same f,j.rl,j.lns,by lia,(λq hq=>j.hnd q (X7.mp hq).1),ai,av U b,λH5 B' a5 a7 s5 a3 Bz Gq gc Y e2 Kl=>?_⟩;refine k H5 B' a5 a7 (λc o e=>?_) a3 (b.free Bz) (f.trans Gq) (λc o J W h3=>gc c o (by rwa [ao (R W)]) (b _ _ W) h3) Y e2 Kl;obtain⟨J,e⟩:=aZ e;obtain⟨W,e⟩:=aZ e;obtain⟨h3,e⟩:=aZ e;exact s5 _ _ (Xj J W h3 (b _ _ e))
theorem xH:ax ["cell","turn"] ["cell","turn"] (ae (top 58)):=fsc
theorem nQ (T:Tx K mg A):Okd T.kL P w base 1 (uC K):=by
 refine T.kL.fn.ok xH (λb H Q E h=>?_) (λ_ _ _ s H b Q E _ h=>?_)
 ·obtain⟨c,m,rfl,_⟩:=h;rfl
 ·obtain⟨c,m,rfl,_,k⟩:=h;refine⟨_,af (bg (bp DK (pv 0) (bU wX ak ak)) (aj (au (br (ag (bU Cj (pv 0) (bU wX ak ak)) (ag (bU oX (pv 0) ak) (pa1 (pv 1))))))) aG)
   (aj (au (br (ag ak (ag (bU oX (pv 0) ak) (pa1 (pv 1))))))),?_⟩
  refine⟨_,rfl,_,_,rfl,rfl,⟨by decide,by decide,by decide⟩,_,_,rfl,rfl,_,rfl,?_⟩;refine zU (λe=>?_) (λe=>?_)
  ·refine⟨_,rfl,_,_,rfl,rfl,⟨by decide,by decide,by decide⟩,_,_,rfl,rfl,_,rfl,_,_,rfl,rfl,(by lia),_,rfl,(by show 3<=Yb0;decide),λd a=>?_⟩;exact k d _ a (ab.new a) ⟨_,_,_,aa,by lia,Zz _ (by decide),Zn _ (by decide),ZF _,Int.le_refl _⟩
  ·refine⟨_,rfl,_,_,rfl,rfl,(by lia),_,rfl,(by show 3<=Yb0;decide),λd a=>?_⟩;exact k d _ a (ab.new a) ⟨_,_,_,aa,by decide,Zz _ (by decide),Zn _ (by decide),ZF _,Int.le_refl _⟩
theorem fX:ax ["deck","many","found","number"] ["deck","many"] (ae (top 59)):=fsc
theorem aK (T:Tx K mg A):Okd T.aT P w base 1 (xR K):=by
 refine T.aT.fn.ok fX (λu H Q E h=>?_) (λ_ _ _ s H u Q E _ h=>?_)
 ·obtain⟨d,m,n,rfl,_⟩:=h;rfl
 ·obtain⟨d,m,n,rfl,l,_,e,_,k⟩:=h;refine⟨_,af (bg (bp Oe (fj K (pv 0) ak) ak) (af (aV (i:=2) fX.nd rfl (Or.inl rfl) (bU oX (fj K (pv 0) ak) (pv 1)))
   (af (lV (bU DQ (fj K (pv 0) ak) (pv 1)) (BA (pv 0) ak set_list))
   (aj (au (pv 2))))) aG)
   (af (lV (bU gR (fj K (pv 0) ak) ak) (BA (pv 0) ak set_list))
   (af (aV (i:=3) fX.nd rfl (Or.inl rfl) (bU oX (bU wX (bU gR (fj K (pv 0) ak) (bU IM ak (fj K (pv 0) ak))) ak) ak))
   (af (aV (i:=2) fX.nd rfl (Or.inl rfl) (bU DQ (bU oX (bU wX (bU gR (pv 3) (bU IM ak (fj K (pv 0) ak))) ak) ak) ak))
   (af (bg (bp Oe (pv 1) ak) (aj eG) aG)
   (aj (au (bU oX (pv 2) (pv 1)))))))),?_⟩
  obtain⟨a,b,c,o,p,q,g,t,_⟩:=l;have j:SqL K H d [.int a,.int b,.int c]:=.of o;refine⟨_,rfl,d,_,0,_,rfl,rfl,j,rfl,_,_,rfl,rfl,_,rfl,?_⟩;refine zU (λr=>?_) (λr=>?_)
  ·refine⟨_,rfl,d,_,0,_,rfl,rfl,j,rfl,_,rfl,_,_,rfl,rfl,e,?_⟩;refine⟨_,rfl,d,_,0,_,rfl,rfl,j,rfl,_,rfl,_,_,rfl,rfl,⟨e,by lia⟩,?_⟩;refine⟨_,rfl,d,_,0,0,rfl,rfl,o,rfl,?_⟩;refine⟨_,rfl,?_⟩;exact k _ _ yL ⟨_,_,_,aa,Int.ediv_nonneg p (by lia),q,g,t,by lia⟩ (Zz _ (by lia)) (Zn _ e)
  ·refine⟨_,rfl,d,_,2,_,rfl,rfl,j,rfl,_,_,rfl,rfl,?_⟩;refine⟨_,rfl,d,_,2,2,rfl,rfl,o,rfl,?_⟩;have f:SqL K (upd H d (.lst [.int a,.int b,.int (c+1)])) d [.int a,.int b,.int (c+1)]:=.of aa;refine⟨_,rfl,d,_,1,_,rfl,rfl,f,rfl,_,rfl,d,_,2,_,rfl,rfl,f,rfl,_,_,rfl,rfl,.inl ⟨by decide,by decide⟩,_,_,rfl,rfl,_,_,rfl,rfl,⟨by decide,by decide,by lia⟩,_,_,rfl,rfl,(by lia),?_⟩;refine⟨_,rfl,_,rfl,d,_,2,_,rfl,rfl,f,rfl,_,_,rfl,rfl,.inl ⟨by decide,by decide⟩,_,_,rfl,rfl,_,_,rfl,rfl,⟨by decide,by decide,?_⟩,_,_,rfl,rfl,(by lia),_,_,rfl,rfl,⟨by decide,by decide⟩,?_⟩
   ·lia
   ·refine⟨_,rfl,_,_,rfl,rfl,_,rfl,?_⟩;rw[Yb5 (show¬ (1000000:Int)<m by lia)];refine aX ?_;refine⟨_,rfl,_,rfl,_,_,rfl,rfl,e,?_⟩;exact k _ _ yL ⟨_,_,_,aa,p,q,g,by lia,by lia⟩ (Zz _ (by lia)) (Zn _ e)
theorem nL:ax ["word","figures"] ["word"] (ae (top 60)):=fsc
theorem yj (T:Tx K mg A):Okd T.om P w base 1 (xq K):=by
 refine T.om.fn.ok nL (λX H Q E h=>?_) (λ_ _ _ s H X Q E N h=>?_)
 ·obtain⟨z,rfl,_⟩:=h;rfl
 ·obtain⟨z,rfl,q,k⟩:=h;refine⟨_,af (aV (i:=1) nL.nd rfl (Or.inl rfl) (jN (bp gE (iN LX (pv 0) nI (jh ak)) aH) (iN LX (pv 0) (jh ak) nI) (pv 0)))
   (af (bg ((pw_and (bp px (pv 1) aH) (pw_and1 (bp (r:=nH K) (gy N) (cm (N':=["sign"]) (n:=1) (fi:=[]) (g:=bf 0) rfl (bX (ae (top 60)) ["word","figures"] (by decide +kernel)) (Io (pv 1)) (λs H v=>aM (i:=0) (nT _) rfl (Or.inl rfl) (.inr rfl)) (λs H v=>cT (fC (rD kO kO aH (pv 0) aH))) (λs H v=>pv 0)) (br dG)))).pt) (aj (au aH)) aG)
   (aj (au (jN (bp (r:=nH K) (gy N) (cm (N':=["sign"]) (n:=1) (fi:=[]) (g:=bf 0) rfl (bX (ae (top 60)) ["word","figures"] (by decide +kernel)) (Io (pv 0)) (λs H v=>aM (i:=0) (nT _) rfl (Or.inl rfl) (.inr rfl)) (λs H v=>cT (fC (rD kO kO aH (pv 0) aH))) (λs H v=>pv 0)) (br dG)) aH aH)))),?_⟩
  have J:z.length<=Yb0:=XG q.1 (by decide);have U:=Iy (z:=z) (l:=some 1) (u:=none) q.2;have I:("0" : Str)=⟨#[48]⟩:=by decide +kernel
  have L:("9" : Str)=⟨#[57]⟩:=by decide +kernel
  have W:eF z.cps.toList=if dY dig (bH z.cps.toList)=true then 0 else if z.cps.toList.all low=true then 1 else 2:=rfl;rw[W]at k;refine⟨_,rfl,_,rfl,z,rfl,J,rfl,_,rfl,?_⟩;rw[Hk];have S:∃f:Str,f.cps.toList=bH z.cps.toList/\Z2 f=true/\f.length<=10000/\(f=if z.cps.toList.head? = some 45 then Yac z (some 1) none else z):=by
   by_cases d:z.cps.toList.head? = some 45
   ·exact⟨_,by rw[Yb7 d,Dq];exact AW d,by lia,by rw[Yb7 d];exact XG U.2 q.1,rfl⟩
   ·exact⟨_,by rw[Yb8 d];exact B0 d,by rw[Yb8 d];exact q.2,by rw[Yb8 d];exact q.1,rfl⟩
  obtain⟨f,M,F,G,B⟩:=S;have b:∀H2,ab H H2->dY dig (bH z.cps.toList)=false->UE (tIf (ud (tOp (nH K) (vR (Qh (o5 0)) (bf 0) (PN (ud (w8 (λx y H Q=>∃i j,x = .str i/\y = .str j/\Q (.bl (!decide (j.cps.toList<i.cps.toList))) H) (λx y H Q=>∃i j,x = .str i/\y = .str j/\Q (.bl (!decide (j.cps.toList<i.cps.toList))) H) (tC (.str "a")) (o5 0) (tC (.str "z"))))) (o5 0) 1 []) (P7 Kv))) (tC (.str "name")) (tC (.str "other"))) { nx:=λ_ Y=>Q .non Y,rt:=Q } [some (.str z),some (.str f)] H2:=λH2 p C=>by
   refine oZ (λc=>!(decide (97<=c) && decide (c<=122))) rfl q.2 (XG q.1 (by decide)) (λc H2 R h=>i7 (by decide +kernel) (by decide +kernel) h) λV O=>?_;have e:(z.cps.toList.all λc=>!(!(decide (97<=c) && decide (c<=122))))=z.cps.toList.all low:=by
    congr 1
    funext c
    simp[low]
   rw[e];have o:=k V (p.trans O);rw[C,Yb8 XN]at o;by_cases m:z.cps.toList.all low=true
   ·rw[Yb7 m]at o;rw[m];exact bN o
   ·rw[Yb8 m]at o;rw[X5.mpr m];exact aX o
  by_cases d:z.cps.toList.head? = some 45
  ·rw[Yb4 d];rw[Yb7 d]at B;subst B;refine bN ⟨_,rfl,_,rfl,z,rfl,J,?_⟩;refine⟨_,rfl,rfl,_,rfl,?_⟩;rw[nq,M];by_cases t:(bH z.cps.toList).isEmpty=true
   ·rw[t];refine aX ?_;refine aX ?_;exact b H (ab.refl _) (by grind [dY])
   ·rw[X5.mpr t];refine bN ?_;refine oZ (λc=>!(decide (48<=c) && decide (c<=57))) rfl F (XG G (by decide)) (λc H2 R h=>i7 I L h) λH2 p=>?_;have e:((Yac z (some 1) none).cps.toList.all λc=>!(!(decide (48<=c) && decide (c<=57))))=(bH z.cps.toList).all dig:=by
     grind [dig]
    rw[e];by_cases m:(bH z.cps.toList).all dig=true
    ·rw[m];refine bN ?_;have D:dY dig (bH z.cps.toList)=true:=by grind [dY]
     have o:=k H2 p
     rwa [D,Yb7 rfl]at o
    ·rw[X5.mpr m];refine aX ?_;exact b H2 p (by unfold dY;rw[X5.mpr m,YO])
  ·rw[Yb5 d];rw[Yb8 d]at B;subst B;refine aX ⟨_,rfl,?_⟩;refine⟨_,rfl,rfl,_,rfl,?_⟩;rw[nq,M];by_cases t:(bH f.cps.toList).isEmpty=true
   ·rw[t];refine aX ?_;refine aX ?_;exact b H (ab.refl _) (by grind [dY])
   ·rw[X5.mpr t];refine bN ?_;refine oZ (λc=>!(decide (48<=c) && decide (c<=57))) rfl F (XG G (by decide)) (λc H2 R h=>i7 I L h) λH2 p=>?_;have e:(f.cps.toList.all λc=>!(!(decide (48<=c) && decide (c<=57))))=(bH f.cps.toList).all dig:=by
     grind [dig]
    rw[e];by_cases m:(bH f.cps.toList).all dig=true
    ·rw[m];refine bN ?_;have D:dY dig (bH f.cps.toList)=true:=by grind [dY]
     have o:=k H2 p
     rwa [D,Yb7 rfl]at o
    ·rw[X5.mpr m];refine aX ?_;exact b H2 p (by unfold dY;rw[X5.mpr m,YO])
theorem iU:ax ["deck","way","some"] ["deck"] (ae (top 61)):=fsc
theorem mE (T:Tx K mg A):Okd T.kT P w base 2 (xo K):=by
 refine T.kT.fn.ok iU (λvs H Q E h=>?_) (λ_ _ _ s H vs Q E M h=>?_)
 ·obtain⟨d,n,rfl,_⟩:=h;rfl
 ·obtain⟨d,n,rfl,W,_,k⟩:=h;refine⟨_,af (aV (i:=1) iU.nd rfl (Or.inl rfl) (aY T.aT (aK T) M (ag (pv 0) (pa1 ak))))
   (af (bg (bp sY (pv 1) ak) (aj (au (fj K (br (ag aH (ag aH (pa1 aH)))) (aY T.aT (aK T) M (ag (pv 0) (pa1 ak)))))) aG)
   (af (bg (bp sY (pv 1) ak) (aj (au (fj K (br (ag aH (ag aH (ag aH (ag aH (pa1 aH)))))) (aY T.aT (aK T) M (ag (pv 0) (pa1 ak)))))) aG)
   (af (bg (bp sY (pv 1) ak) (aj (au (fj K (br (ag aH (ag aH (ag aH (ag aH (ag aH (ag aH (ag aH (pa1 aH))))))))) (aY T.aT (aK T) M (ag (pv 0) (pa1 ak)))))) aG)
   (af (aV (i:=2) iU.nd rfl (Or.inr rfl) (fj K (br (ag aH (ag aH (ag aH (pa1 aH))))) (bU Cj (pv 1) ak)))
   (aj (au (fc (r:=rJoin K) WY PySem.F.slot_str_join PySem.F.type_str_join ya aH (pa1 (pcm ["k","some","deck"] [2,0] (ae (top 61)) ["deck","way","some"] (d4 (by rfl) T.gf (pa1 (bU gR ak (aY T.aT (aK T) M (ag (pv 0) (pa1 ak)))))) (λs H _=>IK OQ (pv 1) (aY T.aT (aK T) M (ag (pv 2) (pa1 (aE nv (by rfl) T.cM Z8 (pa1 (pv 1)))))) (λ_ _=>rfl))))))))))),?_⟩
  refine⟨_,rfl,d,12,n,rfl,W,by lia,by decide,by decide,λway _ R b _ _=>?_⟩;refine⟨_,rfl,_,_,rfl,rfl,_,rfl,?_⟩;refine zU (λ_=>?_) (λ_=>?_)
  ·refine⟨(by decide),λp e=>⟨_,rfl,d,3,n+1,rfl,b.same (ab.new e),by lia,by decide,by decide,λr G g a L N=>?_⟩⟩;obtain⟨x,I,B⟩:=kK (l:=BP) L N;have f:=w1 x I;exact⟨p,_,r,_,rfl,rfl,.of (cX g aa (b.ne e)),B,k x G (bL (R.trans (ab.new e)) g) (a.mono (by lia)) ⟨f.1,f.2.1,f.2.2⟩⟩
  ·refine⟨_,rfl,_,_,rfl,rfl,_,rfl,?_⟩;refine zU (λ_=>?_) (λ_=>?_)
   ·refine⟨(by decide),λp e=>⟨_,rfl,d,5,n+1,rfl,b.same (ab.new e),by lia,by decide,by decide,λr G g a L N=>?_⟩⟩;obtain⟨x,I,B⟩:=kK (l:=C0) L N;have f:=w2 x I;exact⟨p,_,r,_,rfl,rfl,.of (cX g aa (b.ne e)),B,k x G (bL (R.trans (ab.new e)) g) (a.mono (by lia)) ⟨f.1,f.2.1,f.2.2⟩⟩
   ·refine⟨_,rfl,_,_,rfl,rfl,_,rfl,?_⟩;refine zU (λ_=>?_) (λh8=>?_)
    ·refine⟨(by decide),λp e=>⟨_,rfl,d,8,n+1,rfl,b.same (ab.new e),by lia,by decide,by decide,λr G g a L N=>?_⟩⟩;obtain⟨x,I,B⟩:=kK (l:=CG) L N;have f:=w3 x I;exact⟨p,_,r,_,rfl,rfl,.of (cX g aa (b.ne e)),B,k x G (bL (R.trans (ab.new e)) g) (a.mono (by lia)) ⟨f.1,f.2.1,f.2.2⟩⟩
    ·have a0:¬ way<8:=λh=>h8 (Yb4 h);obtain⟨x,I,B⟩:=kK (l:=K2) (r:=way - 8) (by lia) (by show way - 8<4;lia);have t:=w4 x I;refine⟨(by decide),λp e=>⟨_,rfl,_,_,rfl,rfl,p,_,way - 8,_,rfl,rfl,.of aa,B,?_⟩⟩;refine⟨rfl,_,rfl,d,4,n+1,rfl,(b.same (ab.new e)),by lia,by decide,by decide,λr4 G g a L N=>?_⟩;refine⟨_,_,rfl,rfl,1+r4,rfl,by lia,by lia,λD X=>?_⟩;have v:=a.ne X;refine eP (λi J Z O=>(∃u,Z=[u,some (.str x),some (.ref d)])/\ab (wo d G) O/\Dk O d (n+2+i)/\∃l:Qqv,J=l.map V.str/\l.length=i/\∀y∈l,Z2 y=true/\y.length<=1/\∃c,y=⟨#[c]⟩/\sgn c=true) aa ⟨⟨_,rfl⟩,bc.trans (ab.new X),a.same (ab.new X),[],rfl,rfl,λy m=>by cases m⟩ (λi J Z O _ C q=>?_) (λJ Z O C q=>?_)
     ·obtain⟨S,U,z,l,rfl,hl,o⟩:=q;apply cY S;clear S;intro u;refine bZ ⟨_,rfl,_,rfl,_,rfl,x,rfl,XG t.2.1 (by decide),d,x.length,n+2+i,rfl,z,by lia,by lia,by lia,λr _ s4 Y S q1=>?_⟩;obtain⟨c,j,hc,hj⟩:=Nz S q1;refine⟨x,r,c,rfl,rfl,XG t.2.1 (by decide),hc,_,cX s4 C v,small (by grind),_,aa,⟨_,rfl⟩,ar (by rwa [aq v.symm]) (bL U s4),Y.upd v,l++[⟨#[c]⟩],by simp,by simp[hl],λy m=>?_⟩;rcases XU.mp m with m | m
      ·exact o y m
      ·simp only[XR]at m;subst m;exact⟨MN t.1 hj,XD _,c,rfl,(Ye.mp t.2.2.2 c (by simpa using Array.mem_of_getElem? hj))⟩
     ·obtain⟨_,U,z,l,rfl,hl,o⟩:=q;refine⟨"",D,l,rfl,rfl,.of C,oq (λy m=>(o y m).2.1) ?_,?_⟩
      ·have:(("" : Str)).length=0:=rfl;rw[this];lia
      ·exact k _ O (bL (bL (R.trans (ab.new e)) g) U) (z.mono (by lia)) (Fc (by lia) (by lia) o)
theorem yB:ax ["deck","most"] ["deck","most"] (ae (top 62)):=fsc
theorem mR (T:Tx K mg A):Okd T.kR P w base 3 (yC K):=by
 refine T.kR.fn.ok yB (λO H Q E h=>?_) (λ_ _ _ s H O Q E L h=>?_)
 ·obtain⟨d,m,n,rfl,_⟩:=h;rfl
 ·obtain⟨d,m,n,rfl,t,_,C,_,k⟩:=h;refine⟨_,aj (au (fc (r:=rJoin K) WY PySem.F.slot_str_join PySem.F.type_str_join ya aH (pa1 (pcm ["k","deck"] [0] (ae (top 62)) ["deck","most"] (d4 (by rfl) T.gf (pa1 (bU gR ak (aY T.aT (aK T) L (ag (pv 0) (pa1 (pv 1))))))) (λs H _=>aY T.kT (mE T) L (pa1 (pv 1))))))),?_⟩;refine⟨rfl,_,rfl,_,rfl,d,m,n,rfl,t,by lia,C,by lia,λS R M g _ _=>?_⟩;refine⟨_,_,rfl,rfl,1+S,rfl,by lia,by lia,λD v=>?_⟩;have a:=g.ne v;refine eP (λi f B j=>(∃u,B=[u,some (.ref d)])/\ab (wo d R) j/\Dk j d (n+1+6 * i)/\∃l:Qqv,f=l.map V.str/\l.length=i/\∀y∈l,WOk y) aa ⟨⟨_,rfl⟩,bc.trans (ab.new v),g.same (ab.new v),[],rfl,rfl,λy o=>by cases o⟩ (λi f B j _ e q=>?_) (λf B j e q=>?_)
  ·obtain⟨J,p,c,l,rfl,I,b⟩:=q;apply cY J;clear J;intro u;refine bZ ⟨_,rfl,d,n+1+6 * i,rfl,c,by lia,λx _ G z _=>?_⟩;refine⟨_,cX G e a,small (by grind),_,aa,⟨_,rfl⟩,ar (by rwa [aq a.symm]) (bL p G),(z.upd a).mono (by lia),l++[x],by simp,by simp[I],λy o=>?_⟩
   grind
  ·obtain⟨_,p,c,l,rfl,I,b⟩:=q;have N:((" " : Str)).length=1:=rfl;refine⟨" ",D,l,rfl,rfl,.of e,oq (λy o=>(b y o).len) ?_,?_⟩
   ·rw[N];lia
   ·exact k _ l j (bL M p) (c.mono (by lia)) ⟨rfl,by lia,by lia,b⟩
theorem dc:ax ["deck","line","found","word","kind","way"] ["deck","line"] (ae (top 64)):=fsc
theorem qA (T:Tx K mg A):Okd T.i8 P w base 2 (qr K):=by
 refine T.i8.fn.ok dc (λvs H Q E h=>?_) (λ_ _ _ s H vs Q E hr h=>?_)
 ·obtain⟨d,z,n,rfl,_⟩:=h;rfl
 ·obtain⟨d,z,n,rfl,m,_,N,a3,k⟩:=h;refine⟨_,af (aV (i:=2) dc.nd rfl (Or.inl rfl) (br dG))
   (af (gQ UO rfl (aI (fc WY PySem.F.slot_str_split PySem.F.type_str_split tX (pv 1) (pa1 aH))) (pn 3 dc.nd) (af (aV (i:=4) dc.nd rfl (Or.inl rfl) (aY T.om (yj T) hr (pa1 (pv 3))))
   (af (aV (i:=5) dc.nd rfl (Or.inl rfl) (aY T.aT (aK T) hr (ag (pv 0) (pa1 ak))))
   (aj (bg (bp sY (pv 5) ak) (aj (bV (fc ZU Ws WF d7 (pv 2) (pa1 (cB (ag aH (pa1 (pv 3)))))))) (aj (bg ((pw_and (bp sY (pv 5) ak) (pw_and1 (bp px (pv 4) aH))).pt) (aj (bV (fc ZU Ws WF d7 (pv 2) (pa1 (cB (ag aH (pa1 (pv 4)))))))) (aj (bV (fc ZU Ws WF d7 (pv 2) (pa1 (cB (ag aH (pa1 aH))))))))))))))
   (aj (au (pv 2)))),?_⟩
  obtain⟨_,Z⟩:=m.lst;refine⟨XT _,λF hF=>?_⟩;have u:=m.ne hF;refine⟨_,rfl,rfl,z," ",rfl,rfl,(by decide +kernel),XG (Zc N 2) (by decide),λL hL=>⟨L,rfl,⟨_,.of aa⟩,?_⟩⟩;have C:=aw (aa (H:=H)) hL;have W:ab H (upd H F (.lst [])):=ab.new hF;have sL:ab (upd H F (.lst [])) (upd (upd H F (.lst [])) L (.lst ((Z5 z " ").map V.str))):=ab.new hL;have a5:=(sP (z:=z) (y:= " ")).2;refine iI (K:=K) (xs:=(Z5 z " ").map V.str) (me K H d z F L n) ⟨⟨_,_,_,rfl⟩,bc.trans (W.trans sL),m.same (W.trans sL),aa,[],[],sL _ _ aa,rfl,(λp hp=>by cases hp),(λj w p _ hp=>by simp at hp),.nil⟩ (λi I H3 _ q=>.of q.2.2.2.1) (λi x I H3 hx q=>?_) (λI H3 q=>?_)
  ·obtain⟨R,s3,r,S,b,ps,o,c,g,l,X⟩:=q;apply NP R;clear R;intro u1 u2 u3;obtain⟨wd,e,rfl⟩:=ee hx;have a4:=ba e;have hw:=(ug (z:=z) (y:= " ") a3) wd (XB e);have U:TOk wd:=⟨XG hw.2 (XG N (by decide)),hw.1⟩;refine⟨_,rfl,wd,rfl,U,λ_ O=>?_⟩;refine⟨_,rfl,d,6,n+i,rfl,r.same O,by lia,by decide,by decide,λway H5 Y D _ _=>?_⟩;have G:=cX Y (O _ _ S) ((m.same W).ne hL);have a:=cX Y (O _ _ o) u;have v:=(X.same (bM O)).same (ze (W _ _ Z) Y);have B:=bL (s3.trans O) Y;have a6:b.length=i:=by rw[X.length,XA,c]
   have J:=B3 wd.cps.toList;refine⟨_,rfl,_,_,rfl,rfl,_,rfl,?_⟩;refine zU (λ_=>?_) (λ_=>?_)
   ·refine⟨_,rfl,.inl ⟨rfl,_,.of a⟩,_,rfl,(by show 2<=Yb0;decide),λt f=>⟨F,b,_,rfl,rfl,ab.new f _ _ a,small (by lia),?_⟩⟩;exact me.step (pt:=.word wd) u C hF ⟨_,_,_,rfl⟩ B D G a c g l v e (.inl rfl) rfl U (by decide +kernel) hw.1 f
   ·have S4:∀(t:Yau) (f:H5 t=none) (I:St),(∃u1 u2 u3,I=[some (.ref d),some (.str z),some (.ref F),u1,u2,u3])->me K H d z F L n (i+1) I (upd (upd H5 t (.tup [.str "hole",.str "any"])) F (.lst (b++[.ref t]))):=λt f I a0=>
     me.step (pt:=.hole 2) u C hF a0 B D G a c g l v e (.inr (.inr rfl)) rfl (by decide:2<3) (by decide +kernel) (by decide +kernel) f
    refine⟨_,rfl,_,_,rfl,rfl,_,rfl,?_⟩;refine zU (λ_=>?_) (λ_=>?_)
    ·refine⟨_,rfl,rfl,_,rfl,?_⟩;rw[Ft J];by_cases h2:eF wd.cps.toList=2
     ·rw[Yb4 h2];refine aX ?_;exact⟨_,rfl,.inl ⟨rfl,_,.of a⟩,(by decide),λt f=>⟨F,b,_,rfl,rfl,ab.new f _ _ a,small (by lia),S4 t f _ ⟨_,_,_,rfl⟩⟩⟩
     ·rw[Yb5 h2];refine bN ?_;refine⟨_,rfl,.inl ⟨rfl,_,.of a⟩,_,rfl,(by show 2<=Yb0;decide),λt f=>⟨F,b,_,rfl,rfl,ab.new f _ _ a,small (by lia),?_⟩⟩;have M:eF wd.cps.toList<2:=by lia
      rw[Mr M];exact me.step (pt:=.hole (eF wd.cps.toList)) u C hF ⟨_,_,_,rfl⟩ B D G a c g l v e (.inr (.inl ⟨rfl,M⟩)) rfl J (by decide +kernel) sJ f
    ·refine aX ?_;exact⟨_,rfl,.inl ⟨rfl,_,.of a⟩,(by decide),λt f=>⟨F,b,_,rfl,rfl,ab.new f _ _ a,small (by lia),S4 t f _ ⟨_,_,_,rfl⟩⟩⟩
  ·obtain⟨R,s3,r,S,b,ps,o,c,g,l,X⟩:=q;apply NP R;clear R;intro u1 u2 u3;rw[XA]at c r;refine⟨_,rfl,k F H3 ps hF s3 (r.mono (by lia)) ⟨by lia,g⟩ ⟨c,l⟩ ⟨b,o⟩ ?_⟩;exact .lst (.of ((bK hF).trans o)) (X.same (cJ W.ll))
theorem du:ax ["deck","most","shapes","found","k","words","turn"] ["deck","most"] (ae (top 63)):=fsc
theorem vh (T:Tx K mg A):Okd T.md P w base 4 (uD K):=by
 refine T.md.fn.ok du (λvs H Q E h=>?_) (λ_ _ _ s H vs Q E I h=>?_)
 ·obtain⟨d,m,n,rfl,_⟩:=h;rfl
 ·obtain⟨d,m,n,rfl,b4,_,ba,_,k⟩:=h;refine⟨_,af (gb (i:=2) (N':=["k","deck"]) (n:=1) (fi:=[0]) (g:=bf 0) du.nd rfl (Or.inl rfl) rfl (bX (ae (top 63)) ["deck","most","shapes","found","k","words","turn"] (by decide +kernel)) (d4 (by rfl) T.gf (pa1 (bU gR ak (aY T.aT (aK T) I (ag (pv 0) (pa1 ak)))))) (λs H fp=>aM (i:=0) (show(["k","deck"]:Qqv).Nodup by decide +kernel) rfl (Or.inl rfl) (.inr rfl)) (λs H fp=>cy) (λs H fp=>C9 (K:=K) rfl WY PySem.F.slot_str_split PySem.F.type_str_split tX (aY T.kR (mR T) I (ag (pv 1) (pa1 (fj K (br (ag ak (ag ak (pa1 ak)))) (aY T.aT (aK T) I (ag (pv 1) (pa1 ak))))))) (pa1 aH)))
   (af (aV (i:=3) du.nd rfl (Or.inl rfl) (br dG))
   (af (gQ UO rfl (d4 (by rfl) T.gf (pa1 (aY T.aT (aK T) I (ag (pv 0) (pa1 (bU gR (pv 1) ak)))))) (pn 4 du.nd) (af (aV (i:=5) du.nd rfl (Or.inl rfl) (bI (r:=jl K) fF (by rfl) T.i4 fZ (pa1 (fj K (pv 2) (aY T.aT (aK T) I (ag (pv 0) (pa1 (aE (r:=cZ K) aS (by rfl) T.cM Z8 (pa1 (pv 2))))))))))
   (af (gQ UO rfl (d4 (by rfl) T.gf (pa1 (aY T.aT (aK T) I (ag (pv 0) (pa1 ak))))) (pn 6 du.nd) (aj (lV (aY T.kT (mE T) I (pa1 (pv 0))) (BA (pv 5) (aY T.aT (aK T) I (ag (pv 0) (pa1 (aE (r:=cZ K) aS (by rfl) T.cM Z8 (pa1 (pv 5)))))) set_list))))
   (af (bV (fc ZU Ws WF d7 (pv 3) (pa1 (fc (r:=rJoin K) WY PySem.F.slot_str_join PySem.F.type_str_join ya aH (pa1 (pv 5))))))
   (aj (bg (bp gE (aY T.aT (aK T) I (ag (pv 0) (pa1 ak))) ak) (aj (bV (fc ZU Ws WF d7 (pv 3) (pa1 (fj K (pv 3) (aY T.aT (aK T) I (ag (pv 0) (pa1 (aE (r:=cZ K) aS (by rfl) T.cM Z8 (pa1 (pv 3))))))))))) aG))))))
   (aj (au (iN (r:=Ka K) qV (pv 3) nI (jh (pv 1))))))),?_⟩
  have h1:((" " : Str)).length=1:=rfl;refine⟨_,rfl,d,3,n,rfl,b4,by lia,by decide,by decide,λr H1 s1 a9 _ _=>⟨_,_,rfl,rfl,1+r,rfl,by lia,by lia,λSH a0=>?_⟩⟩;have MW:=a9.ne a0;refine eP (λi acc G H3=>(∃u,G=[u,some (.ref d)])/\ab (wo d H1) H3/\Dk H3 d (n+1+81 * i)/\acc.length=i/\∀x∈acc,∃(s:Yau) (ws:Qqv),x = .ref s/\s≠d/\s≠SH/\H3 s=some (.lst (ws.map V.str))/\Bh ws) aa ⟨⟨_,rfl⟩,bc.trans (ab.new a0),a9.same (ab.new a0),rfl,λx c=>by cases c⟩ (λi acc G H3 hi a8 q=>?_) (λacc G H3 a8 q=>?_)
  ·obtain⟨f,s3,B,av,a6⟩:=q;apply cY f;clear f;intro u;refine bZ ?_;refine⟨_,rfl,(by decide),λp hp=>⟨_,rfl,d,3,_,rfl,B.same (ab.new hp),by lia,by decide,by decide,λr3 H4 s4 a4 f q1=>?_⟩⟩;obtain⟨v,hv,b7,ax⟩:=M5 f q1;refine⟨p,_,r3,_,rfl,rfl,.of (cX s4 aa (B.ne hp)),hv,d,v,_,rfl,a4,by lia,b7,ax,λx ws R Z z C=>?_⟩;have O2:=bL (bL (bc.trans (ab.new hp)) s4) Z;have Ru:=cX O2 a8 MW;refine⟨rfl,x," ",rfl,rfl,by rw[h1];decide,XG (Zc (C.ok (by lia)).2 2) (by decide),λl hl=>?_⟩;have sl:ab R (upd R l (.lst ((Z5 x " ").map V.str))):=ab.new hl;have Tp:=(aw Ru hl).symm;refine⟨acc,sl _ _ Ru,small (by lia),_,aa,⟨_,rfl⟩,ar (by rwa [aq MW.symm]) (bL s3 (O2.trans sl)),((z.same sl).upd MW).mono (by lia),by rw[XI,av];rfl,λy N=>?_⟩;rcases XU.mp N with N | N
   ·obtain⟨s,az,rfl,g1,g2,g3,g4⟩:=a6 y N;exact⟨s,az,rfl,g1,g2,by rw[ao g2];exact sl _ _ (cX O2 g3 g1.symm),g4⟩
   ·simp only[XR]at N;subst N;refine⟨l,ws,rfl,((z.ne hl).symm),Tp,by rw[ao Tp,aa,C.split],C.pos,XG C.le (by lia),C.wd⟩
  ·obtain⟨_,s3,B,av,a6⟩:=q;have NH:=hJ eM (bL s1 s3);have Pr:(wo d H3) SH=some (.lst acc):=by rwa [aq MW.symm]
   have UL:QJ (wo d H3) acc:=λx c=>by
    obtain⟨s,ws,rfl,g1,g2,g3,g4⟩:=a6 x c;exact⟨s,ws,rfl,by rwa [aq g1],g4⟩
   have U:(wo d H3) d=none:=eM;have OJ:ab (wo d H3) H3:=bc;refine⟨XT _,λF hF=>?_⟩;have a:=B.ne hF;have M:=OJ.free hF;have bb:H F=none:=by
    have:=NH.free M
    rwa [aq a.symm]at this
   generalize wo d H3=Hs at NH Pr UL U OJ M;have sF:ab H3 (upd H3 F (.lst [])):=ab.new hF;refine⟨_,rfl,_,rfl,_,_,rfl,rfl,d,_,_,rfl,B.same sF,by lia,by lia,by lia,λr2 H4 s4 a4 f q1=>⟨r2,rfl,by lia,by lia,?_⟩⟩;refine we (λi G R=>(∃u4 u5 u6,G=[some (.ref d),some (.int m),some (.ref SH),some (.ref F),u4,u5,u6])/\ab Hs R/\Dk R d (n+400+20 * i)/\∃ls:Qqv,R F=some (.lst (ls.map V.str))/\ls.length<=2 * i/\∀x∈ls,∃ws,fU 12 x ws)
    ⟨⟨_,_,_,rfl⟩,λb o e=>s4 b o (Xe (aw e U) (sF b o (OJ b o e))),a4.mono (by lia),[],cX s4 aa a,XD _,λx c=>by cases c⟩ (λi G R hi q=>?_) (λG R q=>?_)
   ·obtain⟨f,Z,z,ls,a3,b3,PZ⟩:=q;apply NP f;clear f;intro u4 u5 u6;have vC:∀{Ha Hb:Hp},ab Hs Ha->ab (wo d Ha) Hb->ab Hs Hb:=λsa sb b o e=>sb b o (Xe (aw e U) (sa b o e));refine⟨_,rfl,_,rfl,_,rfl,SH,_,rfl,.inl (.of (Z _ _ Pr)),d,_,_,rfl,z,by lia,by lia,by lia,λrk H6 s6 ai k0 _=>?_⟩;have O:=vC Z s6;have ah:=cX s6 a3 a;obtain⟨jj,rfl⟩:=Y4 (k0:(0:Int)<=rk);have b2:jj<acc.length:=by lia
    have ap:=XJ b2;obtain⟨sA,ws,ex,b0,b1⟩:=UL acc[jj] (XB ap);refine⟨SH,acc,_,_,rfl,rfl,.of (O _ _ Pr),d5 ap,sA,_,by rw[ex],.inl (.of (O _ _ b0)),λW hW=>?_⟩;have sW:ab H6 (upd H6 W (.lst (ws.map V.str))):=ab.new hW;have J:=ai.ne hW;refine⟨_,rfl,d,3,_,rfl,ai.same sW,by lia,by decide,by decide,λr3 _ s8 b6 _ g1=>⟨r3,rfl,by lia,by lia,?_⟩⟩;refine we (λj G H9=>(∃u4 u6,G=[some (.ref d),some (.int m),some (.ref SH),some (.ref F),u4,some (.ref W),u6])/\ab Hs H9/\Dk H9 d (n+400+20 * i+2+7 * j)/\H9 F=some (.lst (ls.map V.str))/\∃l:Qqv,H9 W=some (.lst (l.map V.str))/\Bh l)
     ⟨⟨_,_,rfl⟩,vC (O.trans sW) s8,b6.mono (by lia),cX s8 (sW _ _ ah) a,ws,cX s8 aa J,b1⟩ (λj G H9 _ q=>?_) (λG H9 q=>?_)
    ·obtain⟨f,s9,S,L,l,a5,t⟩:=q;apply qD f;clear f;intro u4 u6;have be:=t.pos;have b9:=t.le;refine⟨_,rfl,d,_,rfl,S,by lia,λx _ Y Wx c=>?_⟩;have SS:=cX Y a5 J;refine⟨_,rfl,_,rfl,_,rfl,W,_,rfl,.inl (.of SS),d,_,_,rfl,Wx,by lia,by rw[XA];lia,by rw[XA];lia,λrj _ X Vs j0 j1=>?_⟩;exact⟨W,_,rj,_,rfl,rfl,(cX X SS J),OX j0 j1,⟨_,_,rfl⟩,ar (O.free hW) (vC (vC s9 Y) X),(Vs.upd J).mono (by lia),by rw[ao (aw ah hW)];exact cX X (cX Y L a) a,l.set rj.toNat x,by rw[aa,List.map_set],t.set c⟩
    ·obtain⟨f,s9,S,L,l,a5,t⟩:=q;apply qD f;clear f;intro u4 u6;have b9:=t.le;refine⟨_,rfl,.inl ⟨rfl,_,.of L⟩,rfl,_,rfl," ",W,l,rfl,rfl,.of a5,oq (λy N=>(t.wd y N).len) (by rw[h1];lia),F,_,_,rfl,rfl,L,small (by rw[XA];lia),?_⟩;have VO:(upd H9 F (.lst (ls.map V.str++[.str (Ya6 " " l)]))) F=some (.lst ((ls++[Ya6 " " l]).map V.str)):=by rw[aa];simp
     have Sr:∀x∈ls++[Ya6 " " l],∃ws,fU 12 x ws:=λx c=>by
      rcases XU.mp c with c | c
      ·exact PZ x c
      ·simp only[XR]at c;subst c;exact⟨l,t.line⟩
     refine⟨_,rfl,d,6,_,rfl,S.upd a,by lia,by decide,by decide,λ_ _ as Sb _ _=>⟨rfl,_,rfl,?_⟩⟩;have MA:=cX as VO a;have Sk:=vC (ar (D:=F) (o:=.lst (ls.map V.str++[.str (Ya6 " " l)])) M s9) as;have QQ:(ls++[Ya6 " " l]).length=ls.length+1:=by simp
     refine zU (λ_=>?_) (λ_=>?_)
     ·refine⟨_,rfl,.inl ⟨rfl,_,.of MA⟩,_,rfl,_,rfl,_,rfl,F,_,rfl,.inl (.of MA),d,_,_,rfl,Sb,by lia,by rw[XA];lia,by rw[XA];lia,λ_ _ a7 Kj z0 z1=>?_⟩;rw[XA]at z1;obtain⟨x,c,b5⟩:=kK z0 z1;have Q3:=cX a7 MA a;refine⟨F,_,_,_,rfl,rfl,.of Q3,b5,F,_,_,rfl,rfl,Q3,small (by rw[XA];lia),⟨_,_,_,rfl⟩,ar M (vC Sk a7),(Kj.upd a).mono (by lia),(ls++[Ya6 " " l])++[x],by rw[aa];simp,by rw[XI,QQ];simp;lia,λy N=>?_⟩
      grind
     ·exact⟨⟨_,_,_,rfl⟩,Sk,Sb.mono (by lia),ls++[Ya6 " " l],MA,by lia,Sr⟩
   ·obtain⟨f,Z,z,ls,a3,b3,PZ⟩:=q;apply NP f;clear f;intro u4 u5 u6;refine⟨_,rfl,_,rfl,m,rfl,F,_,rfl,.of a3,λD hD=>?_⟩;rw[AF ba,<-List.map_take];have b8:H D=none:=by
     have:=(NH.trans Z).free hD
     rwa [aq (z.ne hD).symm]at this
    exact k D (ls.take m.toNat) _ b8 ((NH.trans Z).trans (ab.new hD)) ((z.same (ab.new hD)).mono (by lia)) aa (λx c=>PZ x (YT c)) (by rw[X4];lia)
def uO (K:Vzz):Sp:=λvs H Q _=>∃(d:Yau) (n:Nat),vs=[.ref d]/\Dk H d n/\n<900000/\∀(t:Yau) (s l:Int) H',H t=none->ab (wo d H) H'->Dk H' d (n+3)->H' t=some (.tup [.int s,.int l])->Q (.ref t) H'
theorem QD {r:Int} (a:0<=r) (h1:r<3):∃v:Int,atI [V.int 3,V.int 3,V.int 9] r=some (.int v)/\0<v/\v<10:=by
 have:r=0\/r=1\/r=2:=by lia
 rcases this with rfl | rfl | rfl
 ·exact⟨3,rfl,by decide,by decide⟩
 ·exact⟨3,rfl,by decide,by decide⟩
 ·exact⟨9,rfl,by decide,by decide⟩
theorem uS:ax ["deck"] ["deck"] (ae (top 65)):=fsc
theorem vf (T:Tx K mg A):Okd T.ml P w base 2 (uO K):=by
 refine T.ml.fn.ok uS (λD H Q E h=>?_) (λ_ _ _ s H D Q E j h=>?_)
 ·obtain⟨d,n,rfl,_⟩:=h;rfl
 ·obtain⟨d,n,rfl,f,_,k⟩:=h;refine⟨_,aj (au (cB (ag (bU gR ak (aY T.aT (aK T) j (ag (pv 0) (pa1 ak)))) (pa1 (bU gR ak (aY T.aT (aK T) j (ag (pv 0) (pa1 (fj K (br (ag ak (ag ak (pa1 ak)))) (aY T.aT (aK T) j (ag (pv 0) (pa1 ak)))))))))))),?_⟩;refine⟨_,rfl,d,8,n,rfl,f,by lia,by decide,by decide,λF _ x c _ _=>⟨_,_,rfl,rfl,?_⟩⟩;refine⟨_,rfl,(by decide),λp l=>⟨_,rfl,d,3,_,rfl,c.same (ab.new l),by lia,by decide,by decide,λC _ q g y u=>?_⟩⟩;obtain⟨v,z,e,_⟩:=QD y u;refine⟨p,_,C,_,rfl,rfl,.of (cX q aa (c.ne l)),z,d,v,_,rfl,g,by lia,e,by lia,λB _ r b _ _=>⟨_,_,rfl,rfl,(by show 2<=Yb0;decide),λt i=>?_⟩⟩;have a:=bL (bL x (bc.trans (ab.new l))) (by exact bL (by exact q) r);have m:=ab.new (o:=.tup [.int (2+F),.int (1+B)]) i;refine k t _ _ _ ?_ (a.trans m) ((b.same m).mono (by lia)) aa;have:=a.free i
  rwa [aq (b.ne i).symm]at this
def rfD (x:(Int×Str)×Option Qqs):Yaz:=.tuple [iR x.1,oP x.2]
def BF (v:StV) (lo hi:Int) (p:Qqs):Yaz:=.tuple [aD p,.int (cnt v lo hi p:Nat)]
theorem DP {H:Hp}:∀{xs:Qqt}{ds:Qqy},xs.length=ds.length->(∀(i:Nat) x d,xs[i]? = some x->ds[i]? = some d->Den K H x d)->ay K H xs ds
 | [],[],_,_=>.nil
 | [],_::_,h,_=>by cases h
 | _::_,[],h,_=>by cases h
 | x::xs,d::ds,h,k=>.cons (k 0 x d rfl rfl) (DP (Nat.succ.inj h) λi y e a b=>k (i+1) y e a b)
def jg (K:Vzz) (A:Ad):Sp:=λvs H Q _=>∃(B:Hp) (g pa tb:Yau) (v:eD),vs=[.ref g]/\bi K A.aF A.aJ B H g pa tb v/\∀(D:Yau) (acc:Qqt) (H':Hp),H D=none->ab H H'->H' D=some (.lst acc)->ay K H' acc (v.cur.rf.map rfD)->Q (.ref D) H'
def uW (K:Vzz) (A:Ad):Sp:=λvs H Q _=>∃(B:Hp) (g pa tb:Yau) (v:eD) (lo hi:Int),vs=[.ref g,.int lo,.int hi]/\bi K A.aF A.aJ B H g pa tb v/\∀(D:Yau) (acc:Qqt) (H':Hp),H D=none->ab H H'->H' D=some (.lst acc)->ay K (lim H H') acc ((v.cur.bs++v.cur.fs).map (BF v.cur lo hi))->Q (.ref D) H'
theorem iX:ax ["self"] ["self"] (ae (mIn 56 4)):=fsc
theorem fh (T:Tx K mg A):OkM T.cQ mg P w base 1 (jg K A):=by
 refine T.cQ.fn.ok iX (λvs H Q E h=>?_) (λ_ _ _ s H vs Q E hr h=>?_)
 ·obtain⟨B,g,pa,tb,v,rfl,_⟩:=h;rfl
 ·obtain⟨B,g,pa,tb,v,rfl,U,k⟩:=h;have c:=U.okc;obtain⟨I,t,l,_,_,_,F,_,_,e,_,_,_,_,_,u,_⟩:=U;obtain⟨f,M,_,_,j,a,_,_,b,W,q2,q3,_,_,_,_,X,S⟩:=u;have C:a.length=v.cur.rs.length:=by rw[q3.length,XA]
  have y:b.length=v.cur.rs.length:=by rw[S.length,XA,c.len]
  have a0:=c.rl;refine⟨_,aj (au (Dr hr (by rfl) T.i4 (by rfl) T.wb (ag (aW T.aU T.bF (aW T.aA T.aC (pv 0))) (pa1 (aW T.aU T.dU (aW T.aA T.aC (pv 0))))))),?_⟩;refine⟨_,rfl,g,I,_,.ref l,rfl,F,rfl,l,f,_,.ref M,rfl,e _ _ W,rfl,_,rfl,g,I,_,.ref l,rfl,F,rfl,l,f,_,.ref j,rfl,e _ _ W,rfl,M,j,a,b,rfl,.of (e _ _ q2),.of (e _ _ X),by lia,λD p Z Y s n hl DB=>k D p Z Y s n (DP ?_ λi x d L V=>?_)⟩
  ·rw[hl,C,y,Zq,XA];unfold StV.rf;rw[YD,c.len,Zq]
  ·rw[XM]at V;obtain⟨⟨r,o⟩,m,rfl⟩:=Option.map_eq_some_iff.mp V;unfold StV.rf at m;rw[YF]at m;have hi:=ba L;have N:a[i]? = some a[i]:=XJ (by lia);have G:b[i]? = some b[i]:=XJ (by lia);obtain⟨t,R,e3,_⟩:=DB i _ _ hi N G;rw[L]at R;cases R;obtain⟨d1,O,q⟩:=q3.get N;obtain⟨d2,J,z⟩:=S.get G;rw[XM,m.1]at O;rw[XM,m.2]at J;cases O;cases J;exact .tup (.of e3) (.cons ((q.same e).same s) (.cons ((z.same e).same s) .nil))
theorem lN:ax ["self","low","high","falls"] ["self","low","high"] (ae (mIn 56 16)):=fsc
theorem lP (T:Tx K mg A):OkM T.iW mg P w base 2 (uW K A):=by
 refine T.iW.fn.ok lN (λvs H Q E h=>?_) (λ_ _ _ s H vs Q E hr h=>?_)
 ·obtain⟨B,g,pa,tb,v,b,f,rfl,_⟩:=h;rfl
 ·obtain⟨B,g,pa,tb,v,b,f,rfl,bW,k⟩:=h;have t:=bW.okc;have as:=t.rl;have UM:v.cur.rf.length=v.cur.rs.length:=by unfold StV.rf;rw[YD,t.len,Zq]
  obtain⟨dx,_,_,_,hg⟩:=bW.gg;refine⟨_,af (aV (i:=3) lN.nd rfl (Or.inr rfl) (cm (N':=["fall","moment","line","low","high"]) (n:=3) (fi:=[1,2]) (g:=oz K 2 (c5 (oz K 2 (c5 (bf 1) (c5 (bf 2) oF))) (c5 (bf 0) oF))) rfl (bX (ae (mIn 56 16)) ["self","low","high","falls"] (by decide +kernel)) (aI (dW (pv 0) T.aA T.fq ((fh T).mono (by decide)) hr T.cQ.bd .nil bu)) (λs H fp=>dC rfl (aL (dC rfl (aL (aM (i:=1) (show(["fall","moment","line","low","high"]:Qqv).Nodup by decide +kernel) rfl (Or.inl rfl) (.inr rfl)) (aL (aM (i:=2) (show(["fall","moment","line","low","high"]:Qqv).Nodup by decide +kernel) rfl (Or.inl rfl) (.inr rfl)) cE))) (aL (aM (i:=0) (show(["fall","moment","line","low","high"]:Qqv).Nodup by decide +kernel) rfl (Or.inl rfl) (.inr rfl)) cE))) (λs H fp=>cT (rD wx sY (pv 3) (pv 1) (pv 4))) (λs H fp=>pv 0)))
   (aj (au (pcm ["pattern","falls"] [3] (ae (mIn 56 16)) ["self","low","high","falls"] (aI (dW (pv 0) T.aA T.cH ((c7 T).mono (by decide)) hr T.cg.bd .nil bu)) (λs H fp=>cB (ag (pv 0) (pa1 (C9 (K:=K) rfl (r:=Em K) ZU Yap PySem.F.type_list_count (G6 hr) (pv 1) (pa1 (pv 0))))))))),?_⟩
  refine⟨_,rfl,g,dx,_,rfl,hg,rfl,B,g,pa,tb,v,rfl,bW,λRF a4 H1 _ S O Y=>?_⟩;refine⟨RF,rfl,⟨_,.of O⟩,λFL a3=>?_⟩;have WC:a4.length=v.cur.rs.length:=by rw[Y.length,XA,UM]
  refine aB (K:=K) (xs:=a4) (λi a C H2=>(∃u w z,C=[u,w,z,some (.int b),some (.int f)])/\ab H1 H2/\ay K H1 a (((v.cur.rf.take i).filter (DG b f)).map λx=>oP x.2)) aa ⟨⟨_,_,_,rfl⟩,ab.new a3,.nil⟩ (λi a C H2 _ _ q=>.of (q.2.1 _ _ O)) (λi x a C H2 W I q=>?_) (λ_ C H2 ai q=>?_)
  ·obtain⟨⟨u,w,z,rfl⟩,m,G⟩:=q;obtain⟨d,hd,cf⟩:=Y.get W;rw[XM]at hd;obtain⟨⟨r,o⟩,e1,rfl⟩:=Option.map_eq_some_iff.mp hd;have ak:a.length<=64:=by
    rw[G.length,XA]
    grind
   cases cf with
   | tup a9 V=>
    cases V with
    | cons d1 V=>
     cases V with
     | cons d2 V=>
      cases V;cases d1 with
      | tup ah y=>
       cases y with
       | cons a1 y=>
        cases y with
        | cons a2 y=>
         cases y;cases a1;cases a2;refine⟨_,_,rfl,m.eQ a9,rfl,_,_,rfl,_,_,rfl,m.eQ ah,rfl,_,_,rfl,_,_,rfl,rfl,_,_,rfl,rfl,?_⟩;have ht:v.cur.rf.take (i+1)=v.cur.rf.take i++[(r,o)]:=by rw[XW,e1];rfl
         rw[ht,Yq,XH];have N:DG b f (r,o)=false->ay K H1 a (((v.cur.rf.take i).filter (DG b f)).map (λx=>oP x.2)++([(r,o)].filter (DG b f)).map λx=>oP x.2):=λe=>by
          simp_all
         refine⟨_,rfl,_,rfl,_,_,rfl,rfl,_,rfl,?_⟩;by_cases l:b<=r.1
         ·rw[show decide (b<=(r,o).1.1)=true from Yb4 l];refine bN ⟨_,rfl,_,_,rfl,rfl,_,rfl,?_⟩;by_cases M:r.1<f
          ·rw[show decide ((r,o).1.1<f)=true from Yb4 M];refine bN ⟨_,rfl,a,I,small (by lia),_,aa,⟨_,_,_,rfl⟩,ar a3 m,?_⟩;have e:DG b f (r,o)=true:=Yb4 ⟨l,M⟩;rw[YM,e,Yb7 rfl];exact G.append (.cons d2 .nil)
          ·rw[show decide ((r,o).1.1<f)=false from Yb5 M];exact aX ⟨a,I,⟨_,_,_,rfl⟩,m,N (Yb5 λz=>M z.2)⟩
         ·rw[show decide (b<=(r,o).1.1)=false from Yb5 l];exact aX ⟨_,rfl,aX ⟨a,I,⟨_,_,_,rfl⟩,m,N (Yb5 λz=>l z.1)⟩⟩
  ·obtain⟨_,m,U⟩:=q;rw[WC,<-UM,Yk]at U;refine⟨_,rfl,g,dx,_,rfl,m _ _ (S _ _ hg),rfl,B,g,pa,tb,v,rfl,(bW.same (S.trans m)),λPS pv H3 _ X a5 J=>?_⟩;refine⟨PS,rfl,⟨_,.of a5⟩,λD hD=>?_⟩;have S8:pv.length=(v.cur.bs++v.cur.fs).length:=by rw[J.length,XA]
   have WO:(v.cur.bs++v.cur.fs).length<128:=by
    have l:=t.bl;have M:=t.gth.lt
    grind
   have a0:=X _ _ ai;refine aB (K:=K) (xs:=pv) (λi a C H4=>(∃u,C=[u,some (.ref FL)])/\ab H3 (wo D H4)/\ay K (wo D (lim H H4)) a (((v.cur.bs++v.cur.fs).take i).map (BF v.cur b f))) aa ⟨⟨_,rfl⟩,?_,.nil⟩ (λi a C H4 _ _ q=>.of (bc _ _ (q.2.1 _ _ a5))) (λi x a C H4 W _ q=>?_) (λa C H4 a7 q=>?_)
   ·intro c o e
    grind [aq,ao]
   ·obtain⟨q0,s4,G⟩:=q;apply cY q0;clear q0;intro u;obtain⟨d,hd,cf⟩:=(J.same bG).get W;have R:=hd;rw[XM]at R;obtain⟨p,e1,ed⟩:=Option.map_eq_some_iff.mp R;subst ed;have ap:=ba W;have j:ab H3 H4:=s4.trans bc;have ak:a.length<=i:=by
     rw[G.length,XA,X4];lia
    refine bZ ⟨_,rfl,_,rfl,.inl ⟨rfl,_,.of (j _ _ a0)⟩,_,rfl,_,_,_,rfl,.lst (.of (j _ _ a0)) (((U.same m).same X).same j),cf.same j,XG (bY _) (by decide),(by show 2<=Yb0;decide),λq hq=>?_⟩;rw[PC t (XB e1)];have hqD:D≠q:=λe=>by lia
    have sW:ab (wo D H4) (wo D (upd (upd H4 q (.tup [x,.int (cnt v.cur b f p:Nat)])) D (.lst (a++[.ref q])))):=λc o e=>by
     grind [aZ,aq,ao]
    refine⟨a,by rwa [ao hqD],small (by lia),_,aa,⟨_,rfl⟩,s4.trans sW,?_⟩;rw[XW,e1,XH];have a6:=S.trans m;have up:∀{c:Yau}{o:HO},c≠D->H4 c=some o->(upd (upd H4 q (.tup [x,.int (cnt v.cur b f p:Nat)])) D (.lst (a++[.ref q]))) c=some o:=λ{c o} l e=>by
     rwa [ao l,ao λz=>by rw[z,hq]at e;cases e]
    have sL:ab (wo D (lim H H4)) (wo D (lim H (upd (upd H4 q (.tup [x,.int (cnt v.cur b f p:Nat)])) D (.lst (a++[.ref q]))))):=λc o e=>by
     obtain⟨l,e⟩:=aZ e;have Z:=d9 e;rw[bh Z]at e;rw[aq l,bh Z];exact up l e
    have sN:ab (lim H2 H3) (wo D (lim H (upd (upd H4 q (.tup [x,.int (cnt v.cur b f p:Nat)])) D (.lst (a++[.ref q]))))):=λc o e=>by
     have Z:=d9 e;rw[bh Z]at e;have l:c≠D:=λz=>by lia
     rw[aq l,bh λzs z=>Z zs (a6 _ _ z)];exact up l (j _ _ e)
    obtain⟨_,L,a8⟩:=J.get W;rw[hd]at L;cases L;refine(G.same sL).append (.cons ?_ .nil);exact .tup (.of (by rw[aq hqD.symm,bK (((a6.trans X).trans j).free hq),ao hqD.symm];exact aa)) (.cons (a8.same sN) (.cons (.int _) .nil))
   ·obtain⟨_,s4,G⟩:=q;rw[S8,Yk]at G;exact k D a H4 (((S.trans m).trans X).free hD) (((S.trans m).trans X).trans (s4.trans bc)) a7 (G.same bc)
theorem My {k:Nat}{A:Yaw} (r:bB k A):A.units+10<cLine:=by have:=r.un;lia
section
variable {g:TG}{Q:VK}
theorem HB (c:Nat->Qqt->St->Hp->Prop) (l:H D=some (.lst [])) (j:c 0 [] σ H) (h:∀i acc σ H,i<=xs.length->H D=some (.lst acc)->c i acc σ H->SqT K H a xs)
  (m:∀i x acc σ H,xs[i]? = some x->H D=some (.lst acc)->c i acc σ H->g x σ H λσ2 H2=>tt σ2 H2 λb H3=>if b=true then te σ2 H3 λv H4=>∃ys,H4 D=some (.lst ys)/\ys.length<Yb0/\CN D (c (i+1)) σ2 (upd H4 D (.lst (ys++[v])))else CN D (c (i+1)) σ2 H3)
  (k:∀acc σ H,H D=some (.lst acc)->c xs.length acc σ H->Q (.ref D) H):lM g tt te (Itt K a) D Q σ H:=by
 refine iJ xs.length c l j (λi acc σ H f d p=>⟨xs,xs[i],h i acc σ H (YJ f) d p,by simp[f]⟩) (λacc σ H d p=>⟨xs,h _ acc σ H (XD _) d p,XD _⟩) (λi acc σ H x _ f d p y=>?_) k;obtain⟨e,y⟩:=y
 grind
end
theorem tu {ps:Qqs} (h:Den K H v (tupP ps)):∃a xs,v = .ref a/\SqT K H a xs/\ay K H xs (ps.map Pt.dat):=by
 cases h with
 | tup hq hd=>exact⟨_,_,rfl,hq,hd⟩
theorem xu {k:Kq} (h:Den K H v (prD k)):∃a x y,v = .ref a/\SqT K H a [x,y]/\Den K H x (tupP k.1)/\Den K H y (tupP k.2):=by
 cases h with
 | tup _ b=>
  cases b with
  | cons _ t=>
   cases t with
   | cons _ t=>
    cases t
    grind
def jy (K:Vzz):Sp:=λvs H Q _=>∃v ps,vs=[v]/\Den K H v (tupP ps)/\POk ps/\∀r H',ab H H'->Den K (lim H H') r (gJ ps)->Q r H'
theorem qv (T:Tx K mg A):Okd T.bz P w base 3 (jy K):=by
 refine T.bz.fn.ok jV (λF H Q E h=>?_) (λ_ _ _ s H F Q E I h=>?_)
 ·obtain⟨v,ps,rfl,_⟩:=h;rfl
 ·obtain⟨v,ps,rfl,B,g,k⟩:=h;obtain⟨a,xs,G,q,f⟩:=tu B;refine⟨_,aj (au (cB (ag (aE (r:=cZ K) aS (by rfl) T.cM Z8 (pa1 (pv 0))) (pa1 (pcm ["part"] [] (ae (top 32)) ["pattern"] (Qv (pv 0)) (λs H _=>aY T.m8 (pE T) I (pa1 (pv 0)))))))),?_⟩;subst G;have d:xs.length=ps.length:=by rw[f.length,XA]
  have L:=g.1;refine⟨_,rfl,a,xs,rfl,.inr q,?_⟩;refine⟨_,rfl,a,rfl,⟨_,q⟩,λD l=>?_⟩;refine HB (K:=K) (xs:=xs) (λi b n j=>(∃u,n=[u])/\ab H j/\ay K (lim (upd H D (.lst [])) j) b ((ps.take i).map Pt.key)) aa ⟨⟨_,rfl⟩,ab.new l,.nil⟩ (λi b n j _ _ p=>p.2.1.eQ q) (λi x b n j J c p=>?_) (λb n j c p=>?_)
  ·obtain⟨⟨u,rfl⟩,p⟩:=p;obtain⟨y,e,z⟩:=gh f J;have M:=ba e;have C:b.length=i:=by rw[p.2.length,XA,X4];lia
   refine bZ ⟨_,rfl,x,y,rfl,z.same p.1,g.2 y (XB e),λr _ o dr=>⟨b,o _ _ c,small (by lia),_,aa,⟨_,rfl⟩,ar l (p.1.trans o),?_⟩⟩;rw[jb (ys:=[]) aa,dw e];exact(p.2.same (bM o)).append (.cons (dr.same (cJ (Dn p.1 c))) .nil)
  ·obtain⟨_,p⟩:=p;refine⟨(by show 2<=Yb0;decide),λt m=>?_⟩;rw[XY (by lia)]at p;refine k _ _ (p.1.trans (ab.new m)) ?_;have e:gJ ps = .tuple [.int xs.length,.list (ps.map Pt.key)]:=by rw[d];rfl
   rw[e];refine .tup (.of ((bK (p.1.free m)).trans aa)) (.cons (.int _) (.cons (.lst (.of ((bK l).trans (by rwa [ao (aw c m)]))) ?_) .nil));exact(p.2.same (bM (ab.new m))).same (cJ (ab.new l).ll)
def zT (K:Vzz):Sp:=λvs H Q _=>∃(v:V) (k:Kq),vs=[v]/\Den K H v (prD k)/\POk k.1/\POk k.2/\∀r H',ab H H'->Den K H' r (pkD k)->Q r H'
theorem kc:ax ["pair","old","new"] ["pair"] (ae (top 53)):=fsc
theorem y9 (T:Tx K mg A):Okd T.m9 P w base 4 (zT K):=by
 have i:Okd T.bz P w base 3 (jy K):=(qv T).mono (by decide);refine T.m9.fn.ok kc (λq H Q E h=>?_) (λ_ _ _ s H q Q E l h=>?_)
 ·obtain⟨v,k,rfl,_⟩:=h;rfl
 ·obtain⟨v,e,rfl,n,d,c,k⟩:=h;obtain⟨a,x,y,r,z,o,u⟩:=xu n;refine⟨_,af (lV (pv 0) (dC rfl (aL (pn 1 kc.nd) (aL (pn 2 kc.nd) cE))))
   (aj (au (cB (ag (e9 i l (by rfl) T.bz.mg T.bz.fn.kp T.bz.bd .nil bu (pa1 (pv 1))) (pa1 (e9 i l (by rfl) T.bz.mg T.bz.fn.kp T.bz.bd .nil bu (pa1 (pv 2)))))))),?_⟩
  subst r;refine⟨_,rfl,a,_,rfl,z,rfl,_,_,rfl,_,_,rfl,rfl,?_⟩;refine⟨_,rfl,x,e.1,rfl,o,d,λB _ g d1=>?_⟩;refine⟨_,rfl,y,e.2,rfl,u.same g,c,λp j f d2=>⟨(by show 2<=Yb0;decide),λt m=>?_⟩⟩;have b:ab j (upd j t (.tup [B,p])):=ab.new m;exact k _ _ ((g.trans f).trans b) (.tup (.of aa) (.cons (((d1.same bG).same f).same b) (.cons ((d2.same bG).same b) .nil)))
def Ms (w:Yay) (K:Vzz):Sp:=λvs H Q _=>∃(a:Yau) (xs:Qqt) (ks:List Kq),vs=[.ref a]/\SqL K H a xs/\ay K H xs (ks.map prD)/\(∀k∈ks,Mj k)/\ks.length<64 /\
 ∀(d:Yau) (l:List (Kq×Yau×Nat)) (H':Hp),H d=none->ab H H'->H' d=some (dN w nY d (hoN l))->pf K nY H (hoN l)->qE l ks->l.length<=ks.length->Q (.ref d) H'
theorem ja:ax ["things","many","thing"] ["things"] (ae (top 51)):=fsc
theorem lU (T:Tx K mg A):Okd T.eU P w base 1 (Ms w K):=by
 refine T.eU.fn.ok ja (λX H Q E h=>?_) (λ_ _ _ s H X Q E U h=>?_)
 ·obtain⟨a,xs,ks,rfl,_⟩:=h;rfl
 ·obtain⟨a,xs,ks,rfl,V,t,J,_,k⟩:=h;refine⟨_,af (aV (i:=1) ja.nd rfl (Or.inl rfl) (HV (C:=nY)))
   (af (gQ UO rfl (aI (pv 0)) (pn 2 ja.nd) (aj (HZ (C:=nY) (My U) (pv 1) (pv 2) (bU gR (F0 (C:=nY) (My U) (pv 1) (pv 2) ak ⟨rfl,rfl,rfl,rfl⟩) ak) rfl)))
   (aj (au (pv 1)))),?_⟩
  intro d L;have O:ab H (upd H d (dN w nY d [])):=ab.new L;have F:xs.length=ks.length:=by rw[t.length,XA]
  refine⟨_,rfl,a,rfl,⟨_,O.seq V⟩,?_⟩;refine iI (K:=K) (xs:=xs) (λi B g=>(∃u,B=[some (.ref a),some (.ref d),u])/\ab H g/\∃l:List (Kq×Yau×Nat),g d=some (dN w nY d (hoN l))/\pf K nY H (hoN l)/\qE l (ks.take i)/\l.length<=i) ⟨⟨_,rfl⟩,O,[],aa,(λx N=>by cases N),qE.nil,XD _⟩ (λi B g _ p=>p.2.1.seq V) (λi x B g N p=>?_) (λB g p=>?_)
  ·obtain⟨⟨u,rfl⟩,j,l,r,e,m,f⟩:=p;obtain⟨c,M,G⟩:∃c,ks[i]? = some c/\Den K H x (prD c):=by
    obtain⟨_,_,_⟩:=t.get N
    grind
   have Y:=ba M;obtain⟨b,_,_,rfl,_⟩:=xu G;have o:=J c (XB M);have n:pf K nY g (hoN l):=λy v=>⟨(e y v).1,(e y v).2.same j⟩;have D:(hoN l).length=l.length:=by unfold hoN;rw[XA]
   refine⟨_,rfl,d,_,rfl,r,_,rfl,valN (hoN l) c,⟨_,c,b,r,n,rfl,o,G.same j,rfl⟩,(getM l c:Int),1,Nh l c,rfl,_,rfl,_,rfl,d,_,rfl,⟨_,c,b,r,n,rfl,o,G.same j,by rw[D];exact small (by lia),rfl⟩,?_⟩;rw[Md m.nd];refine⟨⟨_,rfl⟩,ar L j,xc l c b,aa,λy v=>?_,?_,?_⟩
   ·unfold hoN at v;obtain⟨z,W,rfl⟩:=XE.mp v;rcases Kk W with⟨q,I,R,S⟩ | ⟨R,S⟩
    ·have:=e (q.1,q.2.1,.int (q.2.2:Int)) (XE.mpr ⟨q,I,rfl⟩)
     rwa [R,S]at this
    ·show Mj z.1/\Den K H (.ref z.2.1) (prD z.1);lia
   ·rw[XW,M];exact m.put c b
   ·grind [LQ]
  ·obtain⟨⟨u,rfl⟩,j,l,r,e,m,f⟩:=p;rw[F]at m f;rw[Yk]at m;exact⟨_,rfl,k d l g L j r e m f⟩
def yk (K:Vzz) (A:Ad):Sp:=λvs H Q _=>∃(B:Hp) (g pa tb:Yau) (v:eD) (x:V) (p:Qqs),vs=[.ref g,x]/\bi K A.aF A.aJ B H g pa tb v/\Den K H x (aD p)/\p∈v.cur.bs++v.cur.fs/\(∀y∈v.cur.rf,y.2≠some p) /\
 ∀(D:Yau) (H':Hp),ab H H'->Den K H' (.ref D) (.list (UF (hPl p p.length).length (.list [])))->Q (.ref D) H'
def mJ (K:Vzz):Sp:=λvs H Q _=>∃(a:Yau),vs=[.ref a]/\SqL K H a []/\∀(D:Yau) (H':Hp),H D=none->ab H H'->H' D=some (.lst [])->Q (.ref D) H'
theorem il:ax ["words","many"] ["words"] (ae (top 52)):=fsc
theorem mP (T:Tx K mg A):Okd T.gU P w base 4 (mJ K):=by
 refine T.gU.fn.ok il (λG H Q E h=>?_) (λ_ _ _ s H G Q E u h=>?_)
 ·obtain⟨a,rfl,_⟩:=h;rfl
 ·obtain⟨a,rfl,L,k⟩:=h;refine⟨_,af (aV (i:=1) il.nd rfl (Or.inr rfl) (e9 ((lU T).mono (by decide)) u (by rfl) T.eU.mg T.eU.fn.kp T.eU.bd .nil bu (pa1 (pv 0))))
   (aj (au (pcm ["word","many"] [1] (ae (top 52)) ["words","many"] (aI (wj (C:=nY) (a:=.int) (r:=.bE .str .lH) .int ((p8 T).mono (by decide)) u T.jM.bd (by rfl) T.fm (by rfl) T.jM.mg (pa1 (pv 1)))) (λs H _=>cB (ag (pv 0) (pa1 (zA (C:=nY) (w0:=w) (K0:=K) rfl rfl (My u) (pv 1) (pv 0) (λ_ _=>rfl)))))))),?_⟩
  refine⟨_,rfl,a,[],[],rfl,L,.nil,(λk J=>by cases J),by decide,λd l g _ z m _ I j=>?_⟩;obtain rfl:l=[]:=Yo (Nat.le_zero.mp j);refine⟨_,rfl,_,rfl,d,_,[],rfl,m,rfl,by decide,?_⟩;refine⟨[],.nil,(λx f=>by cases f),(λx f=>by cases f),λc p v M I=>?_⟩;obtain rfl:p=[]:=List.Perm.eq_nil M;rw[show picked ([]:Qqt) []=[]from rfl];refine⟨c,rfl,⟨_,.of aa⟩,λD n=>?_⟩;have o:ab g (upd g c (.lst [])):=ab.new v;have B:(upd g c (.lst [])) c=some (.lst []):=aa;generalize upd g c (.lst [])=H2 at o B n;refine aB (K:=K) (xs:=[]) (λi b y e=>ab H2 e/\b=[]) aa ⟨ab.new n,rfl⟩ (λi b y e _ _ q=>.of (q.1 _ _ B)) (λi x b y e f _ q=>by cases f) (λb y e t q=>?_);obtain⟨F,rfl⟩:=q;exact k D e ((z.trans o).free n) ((z.trans o).trans F) t
theorem iY:ax ["self","pattern","rows","places"] ["self","pattern"] (ae (mIn 56 17)):=fsc
theorem ym (T:Tx K mg A):OkM T.oV mg P w base 5 (yk K A):=by
 refine T.oV.fn.ok iY (λvs H Q E h=>?_) (λ_ _ _ s H vs Q E R h=>?_)
 ·obtain⟨B,g,pa,tb,v,x,p,rfl,_⟩:=h;rfl
 ·obtain⟨B,g,pa,tb,v,x,p,rfl,bW,cf,y,ag,k⟩:=h;have O:=bW.okc;obtain⟨dx,_,_,_,hg⟩:=bW.gg;obtain⟨a0,a3,rfl,a6,Z⟩:=dH cf;have ai:a3.length=p.length:=by rw[Z.length,XA]
  have C:=O.pok;have uB:=(O.pso p y).2.2;refine⟨_,af (bg (ju (r:=zm K true) (k5 R) (pv 1) (dW (pv 0) T.aA T.cH ((c7 T).mono (by decide)) R T.cg.bd .nil bu) (by rfl)) (aj eG) aG)
   (af (aV (i:=2) iY.nd rfl (Or.inr rfl) (cm (N':=["fall","moment","line","pattern"]) (n:=3) (fi:=[1]) (g:=oz K 2 (c5 (oz K 2 (c5 (bf 1) (c5 (bf 2) oF))) (c5 (bf 0) oF))) rfl (bX (ae (mIn 56 17)) ["self","pattern","rows","places"] (by decide +kernel)) (aI (dW (pv 0) T.aA T.fq ((fh T).mono (by decide)) R T.cQ.bd .nil bu)) (λs H l=>dC rfl (aL (dC rfl (aL (aM (i:=1) (show(["fall","moment","line","pattern"]:Qqv).Nodup by decide +kernel) rfl (Or.inl rfl) (.inr rfl)) (aL (aM (i:=2) (show(["fall","moment","line","pattern"]:Qqv).Nodup by decide +kernel) rfl (Or.inl rfl) (.inr rfl)) cE))) (aL (aM (i:=0) (show(["fall","moment","line","pattern"]:Qqv).Nodup by decide +kernel) rfl (Or.inl rfl) (.inr rfl)) cE))) (λs H l=>cT (bp (r:=nH K) (gy R) (pv 0) (pv 3))) (λs H l=>aY T.words_of (ib T) R (pa1 (pv 2)))))
   (af (gb (i:=3) (N':=["place","part"]) (n:=2) (fi:=[]) (g:=oz K 2 (c5 (bf 0) (c5 (bf 1) oF))) iY.nd rfl (Or.inl rfl) rfl (bX (ae (mIn 56 17)) ["self","pattern","rows","places"] (by decide +kernel)) (Ez (by rfl) T.pZ (pa1 (pv 1))) (λs H l=>dC rfl (aL (aM (i:=0) (show(["place","part"]:Qqv).Nodup by decide +kernel) rfl (Or.inl rfl) (.inr rfl)) (aL (aM (i:=1) (show(["place","part"]:Qqv).Nodup by decide +kernel) rfl (Or.inl rfl) (.inr rfl)) cE))) (λs H l=>cT (b7 (aY T.i6 (gL T) R (pa1 (pv 1))))) (λs H l=>pv 0))
   (aj (au (cm (N':=["place","rows"]) (n:=1) (fi:=[2]) (g:=bf 0) rfl (bX (ae (mIn 56 17)) ["self","pattern","rows","places"] (by decide +kernel)) (aI (pv 3)) (λs H l=>aM (i:=0) (show(["place","rows"]:Qqv).Nodup by decide +kernel) rfl (Or.inr rfl) (.inl rfl)) (λs H l=>cy) (λs H l=>aY T.gU (mP T) R (pa1 (cm (wi:=y7 K (o5 1)) (N':=["words","place"]) (n:=1) (fi:=[0]) (g:=bf 0) rfl (qS (ae (mIn 56 17)) (by decide +kernel)) (aI (pv 1)) (λs H l=>aM (i:=0) (show(["words","place"]:Qqv).Nodup by decide +kernel) rfl (Or.inl rfl) (.inr rfl)) (λs H l=>cy) (λs H l=>fj K (pv 0) (pv 1)))))))))),?_⟩
  refine⟨_,rfl,_,rfl,g,dx,_,rfl,hg,rfl,B,g,pa,tb,v,rfl,bW,λPS pv _ _ s1 aw b4=>?_⟩;refine⟨_,_,.lst (.of aw) (b4.same bG),cf.same s1,XG (bY _) (by decide),_,rfl,?_⟩;rw[Yb7 rfl,kQ C (C p y),Yb4 y];refine aX ?_;refine⟨_,rfl,g,dx,_,rfl,s1 _ _ hg,rfl,B,g,pa,tb,v,rfl,bW.same s1,λRF b3 H2 _ s2 Y ax=>?_⟩;refine⟨RF,rfl,⟨_,.of Y⟩,λRW av=>?_⟩;have a8:=s1.trans s2;refine aB (K:=K) (xs:=b3) (λi a b H3=>(∃u w z,b=[u,w,z,some (.ref a0)])/\ab H2 H3/\a=[]) aa ⟨⟨_,_,_,rfl⟩,ab.new av,rfl⟩ (λi a b H3 _ _ q=>.of (q.2.1 _ _ Y)) (λi x a b H3 J ap q=>?_) (λ_ b H3 b1 q=>?_)
  ·obtain⟨⟨u,w,z,rfl⟩,U,rfl⟩:=q;obtain⟨d,hd,ak⟩:=ax.get J;rw[XM]at hd;obtain⟨⟨r,o⟩,e1,rfl⟩:=Option.map_eq_some_iff.mp hd;have hm:=XB e1;obtain⟨_,q,b0,eo,_⟩:=O.rfm _ hm;replace eo:o=some q:=eo;subst eo;cases ak with
   | tup as ds=>
    cases ds with
    | cons d1 ds=>
     cases ds with
     | cons d2 ds=>
      cases ds;cases d1 with
      | tup az f=>
       cases f with
       | cons a1 f=>
        cases f with
        | cons a2 f=>
         cases f;cases a1;cases a2;refine⟨_,_,rfl,U.eQ as,rfl,_,_,rfl,_,_,rfl,U.eQ az,rfl,_,_,rfl,_,_,rfl,rfl,_,_,rfl,rfl,?_⟩;refine⟨_,rfl,_,rfl,_,_,d2.same U,cf.same (a8.trans U),XG (bY _) (by decide),_,rfl,?_⟩;rw[show Z7 (oP (r,some q).2) (aD p)=decide (q=p)from n6 (C q b0) (C p y),Yb5 λe=>(ag _ hm) (by rw[e])];exact aX ⟨[],ap,⟨_,_,_,rfl⟩,U,rfl⟩
  obtain⟨_,U,rfl⟩:=q;have G:=a8.trans U;refine⟨_,rfl,a0,rfl,⟨_,G.seq a6⟩,λPL a7=>?_⟩;refine E4 (K:=K) (xs:=a3) (λi a b N=>(∃u w,b=[u,w])/\ab H3 N/\a=(hPl p i).map nV) aa ⟨⟨_,_,rfl⟩,ab.new a7,rfl⟩ (λi a b N _ _ q=>(G.trans q.2.1).seq a6) (λi x a b N t J I q ht=>?_) (λ_ b N W q=>?_)
  ·obtain⟨⟨u,w,rfl⟩,s4,rfl⟩:=q;have b6:=qP p i;obtain⟨pt,S,a9⟩:=gh Z J;have hi:=ba S;have st:ab N (upd N t (.tup [.int i,x])):=ab.new ht;refine⟨t,_,rfl,.of aa,rfl,_,_,rfl,_,_,rfl,rfl,_,rfl,x,pt,rfl,a9.same ((G.trans s4).trans st),_,rfl,?_⟩;have F:=st _ _ I;have V:=s4.trans st;cases pt with
   | word w=>
    rw[nJ,S,show Bp (some (.word w))=false from rfl,Yb8 XN,Ym];exact aX ⟨_,F,⟨_,_,rfl⟩,V,rfl⟩
   | hole m=>
    rw[nJ,S,show Bp (some (.hole m))=true from rfl,Yb7 (show true=true from rfl),XH];exact bN ⟨_,rfl,_,F,small (by rw[XA];lia),_,aa,⟨_,_,rfl⟩,ar a7 V,rfl⟩
  obtain⟨_,s4,rfl⟩:=q;rw[ai]at W;have b5:=qP p p.length;refine⟨_,rfl,PL,rfl,⟨_,.of W⟩,λD hD=>?_⟩;refine aB (K:=K) (xs:=(hPl p p.length).map nV) (λi a b M=>(∃u,b=[u,some (.ref RW)])/\ab N M/\ay K (wo D M) a (UF i (.list []))) aa ⟨⟨_,rfl⟩,ab.new hD,.nil⟩ (λi a b M _ _ q=>.of (q.2.1 _ _ W)) (λi x a b M J I q=>?_) (λa b M F q=>?_)
  ·obtain⟨q0,V,dn⟩:=q;apply cY q0;clear q0;intro u;rw[XM]at J;obtain⟨n,en,rfl⟩:=Option.map_eq_some_iff.mp J;have hi:=ba en;have b8:a.length=i:=by rw[dn.length,Zt]
   have a4:=V _ _ (s4 _ _ b1);refine bZ ⟨_,rfl,RW,rfl,⟨_,.of a4⟩,λIN ah=>?_⟩;refine aB (K:=K) (xs:=[]) (λj ac b H6=>ab M H6/\ac=[]) aa ⟨ab.new ah,rfl⟩ (λj ac b H6 _ _ q=>.of (q.1 _ _ a4)) (λj x ac b H6 J _ q=>by cases J) (λac b H6 b2 q=>?_);obtain⟨s6,rfl⟩:=q;refine⟨IN,rfl,.of b2,λL _ hL s7 _=>?_⟩;have X:=s6.trans s7;have a5:D≠L:=λz=>by rw[<-z,s6 _ _ I]at hL;cases hL
   refine⟨a,X _ _ I,small (by lia),_,aa,⟨_,rfl⟩,ar hD (V.trans X),?_⟩;rw[Zd];refine(dn.same λc o h=>?_).append (.cons (.lst (.of (by rwa [aq a5.symm,ao a5.symm])) .nil) .nil);obtain⟨h1,h⟩:=aZ h;rw[aq h1,ao h1];exact X _ _ h
  obtain⟨_,V,dn⟩:=q;rw[XA]at dn;exact k D M ((G.trans s4).trans V) (.lst (.of F) (dn.same bc))
def JP (K:Vzz):Qqt->Hp->VK->Prop:=λxs H Q=>∃p ys,xs=[V.ref p]/\((SqL K H p ys/\∀l:Yau,H l=none->Q (V.ref l) (upd H l (HO.tup ys)))\/SqT K H p ys/\Q (V.ref p) H)
def Lv (K:Vzz) (A:Ad):Sp:=λvs H Q _=>∃(B:Hp) (a b:Yau) (va vb:StV) (oa ob:Qqr),vs=[.ref a,.ref b]/\AL K A.aJ B a va/\AL K A.aJ B b vb/\ab B H/\va.os=oa.map some/\vb.os=ob.map some/\(∀ps∈oa,POk ps)/\(∀ps∈ob,POk ps)/\oa.length<64 /\
 ∀(D:Yau) (acc:Qqt) (H':Hp) (l:List (Kq×Nat)),H D=none->ab H H'->H' D=some (.lst acc)->ay K (lim H H') acc (l.map mvD)->qu (oa.zip ob) l->Q (.ref D) H'
theorem vI {a:Qqr}{x:V} (h:ay K H xs ((a.map some).map oP)) (hx:xs[i]? = some x):∃ps,a[i]? = some ps/\Den K H x (aD ps):=by
 obtain⟨o,b,c⟩:=qH h hx;rw[XM]at b;obtain⟨ps,e,rfl⟩:=Option.map_eq_some_iff.mp b;exact⟨ps,e,c⟩
theorem AG:ax ["ahead","behind","many"] ["ahead","behind"] (ae (top 54)):=fsc
theorem KG (T:Tx K mg A):Okd T.moved P w base 7 (Lv K A):=by
 refine T.moved.fn.ok AG (λvs H Q E h=>?_) (λ_ _ _ s H vs Q E hr h=>?_)
 ·obtain⟨B,a,b,va,vb,oa,ob,rfl,_⟩:=h;rfl
 ·obtain⟨B,a,b,va,vb,oa,ob,rfl,c6,cj,Y,bh,bo,_,_,_,k⟩:=h;refine⟨_,af (aV (i:=2) AG.nd rfl (Or.inr rfl) (e9 ((lU T).mono (by decide)) hr (by rfl) T.eU.mg T.eU.fn.kp T.eU.bd .nil bu (pa1 (cm (N':=["old","new"]) (n:=2) (fi:=[]) (g:=oz K 2 (c5 (bf 0) (c5 (bf 1) oF))) rfl (bX (ae (top 54)) ["ahead","behind","many"] (by decide +kernel)) (rC (by rfl) T.wb (ag (aW T.aU T.dU (pv 0)) (pa1 (aW T.aU T.dU (pv 1))))) (λs H fp=>dC rfl (aL (aM (i:=0) (show(["old","new"]:Qqv).Nodup by decide +kernel) rfl (Or.inl rfl) (.inr rfl)) (aL (aM (i:=1) (show(["old","new"]:Qqv).Nodup by decide +kernel) rfl (Or.inl rfl) (.inr rfl)) cE))) (λs H fp=>cy) (λs H fp=>cB (ag (bI (r:=JP K) iq (by rfl) T.qW nk (pa1 (pv 0))) (pa1 (bI (r:=JP K) iq (by rfl) T.qW nk (pa1 (pv 1))))))))))
   (aj (au (pcm ["pair","many"] [2] (ae (top 54)) ["ahead","behind","many"] (aI (wj (C:=nY) (a:=.bE .int p7) (r:=Ui) (.bE _ _) ((y9 T).mono (by decide)) hr T.m9.bd (by rfl) T.fm (by rfl) T.m9.mg (pa1 (pv 2)))) (λs H fp=>cB (ag (bI (r:=jl K) fF (by rfl) T.i4 fZ (pa1 (iT K (pv 0) ak))) (ag (bI (r:=jl K) fF (by rfl) T.i4 fZ (pa1 (iT K (pv 0) ak))) (pa1 (zA (C:=nY) (w0:=w) (K0:=K) rfl rfl (My hr) (pv 1) (pv 0) (λ_ _=>rfl))))))))),?_⟩
  obtain⟨bx,_,_,_,fa,_,_,_,la,a1,_,_,_,_,_,_,a8,a9⟩:=c6;obtain⟨c9,_,_,_,fb,_,_,_,lb,b1,_,_,_,_,_,_,b8,b9⟩:=cj;rw[bh]at a9;rw[bo]at b9;have cs:la.length=oa.length:=by rw[a9.length,XA,XA]
  have cp:lb.length=ob.length:=by rw[b9.length,XA,XA]
  refine⟨_,rfl,a,bx,_,.ref fa,rfl,Y _ _ a1,rfl,_,rfl,b,c9,_,.ref fb,rfl,Y _ _ b1,rfl,fa,fb,rfl,⟨_,.of (Y _ _ a8)⟩,⟨_,.of (Y _ _ b8)⟩,λL hL=>?_⟩;refine sf (K:=K) (xs:=la) (ys:=lb) (λi f X N=>(∃u v,X=[u,v])/\ab H N/\ay K (wo L N) f (((oa.zip ob).take i).map prD)) aa ⟨⟨_,_,rfl⟩,(ab.new hL),.nil⟩ (λi f X N _ q=>⟨.of (q.2.1 _ _ (Y _ _ a8)),.of (q.2.1 _ _ (Y _ _ b8))⟩) (λi x y f X N p G Z bz q hp=>?_) (λf X N cg q=>?_)
  ·obtain⟨q0,s2,dn⟩:=q;apply qD q0;clear q0;intro u v;obtain⟨ps,_,c4⟩:=vI a9 G;obtain⟨qs,_,c8⟩:=vI b9 Z;have ez:(oa.zip ob)[i]? = some (ps,qs):=by grind
   have hi:=ba ez;have cn:(oa.zip ob).length<=oa.length:=by rw[YD];lia
   have sp:ab N (upd N p (.tup [x,y])):=ab.new hp;obtain⟨c1,I,rfl,q1,d1⟩:=dH c4;obtain⟨c2,F,rfl,q2,d2⟩:=dH c8;have b5:(upd N p (.tup [.ref c1,.ref c2])) p=some (.tup [.ref c1,.ref c2]):=aa;generalize upd N p (.tup [.ref c1,.ref c2])=H3 at sp b5 ⊢;have bb:=Y.trans (s2.trans sp);refine CM (.of b5) ⟨_,rfl,c1,I,rfl,.inl ⟨bb.seq q1,λt1 c3=>?_⟩⟩;have a5:ab H3 (upd H3 t1 (.tup I)):=ab.new c3;have SO:(upd H3 t1 (.tup I)) t1=some (.tup I):=aa;generalize upd H3 t1 (.tup I)=H4 at a5 SO ⊢;refine⟨_,rfl,c2,F,rfl,.inl ⟨(bb.trans a5).seq q2,λt2 cc=>?_⟩⟩;have a0:ab H4 (upd H4 t2 (.tup F)):=ab.new cc;have SQ:(upd H4 t2 (.tup F)) t2=some (.tup F):=aa;generalize upd H4 t2 (.tup F)=H5 at a0 SQ ⊢;refine⟨(by show 2<=Yb0;decide),λt3 br=>?_⟩;have O:ab H5 (upd H5 t3 (.tup [.ref t1,.ref t2])):=ab.new br;have SJ:(upd H5 t3 (.tup [.ref t1,.ref t2])) t3=some (.tup [.ref t1,.ref t2]):=aa;generalize upd H5 t3 (.tup [.ref t1,.ref t2])=H6 at O SJ ⊢;have R:ab N H6:=sp.trans (a5.trans (a0.trans O));have b0:ab B H6:=Y.trans (s2.trans R);have ap:=R _ _ bz;have Xg:f.length<=i:=by rw[dn.length,XA,X4];lia
   have nl:∀{c:Yau}{ys:Qqt},H6 c=some (.tup ys)->wo L H6 c=some (.tup ys):=λ{c ys} h=>by
    grind [aq]
   have wu:wo L (upd H6 L (.lst (f++[.ref t3])))=wo L H6:=by
    grind [eM,aq,ao]
   refine⟨f,ap,small (by lia),_,aa,⟨_,_,rfl⟩,ar hL (s2.trans R),?_⟩;rw[wu,XW,ez,XH];exact(dn.same (g8 R)).append (.cons (.tup (.of (nl SJ)) (.cons (.tup (.of (nl (O _ _ (a0 _ _ SO)))) (Jm ap (d1.same b0))) (.cons (.tup (.of (nl (O _ _ SQ))) (Jm ap (d2.same b0))) .nil))) .nil)
  obtain⟨_,s2,dn⟩:=q;have b4:min la.length lb.length=(oa.zip ob).length:=by simp_all
  rw[b4,Yk]at dn;have a7:∀kp∈oa.zip ob,POk kp.1/\POk kp.2:=λkp h=>by
   grind [Zl]
  refine⟨L,f,oa.zip ob,rfl,.of cg,(dn.same bc),λkp h=>⟨(a7 kp h).1.2,(a7 kp h).2.2⟩,by lia,λd l H3 _ s3 av c0 ho _=>?_⟩;have Mp:∀x∈l,Mj x.1/\Den K H3 (.ref x.2.1) (prD x.1):=λx G=>by
   have:=c0 (x.1,x.2.1,.int (x.2.2:Int)) (XE.mpr ⟨x,G,rfl⟩);exact⟨this.1,this.2.same s3⟩
  have aw:∀x∈l,POk x.1.1/\POk x.1.2:=λx G=>a7 _ ((ho.mem x.1).mp (XE.mpr ⟨x,G,rfl⟩));have ax:((hoN l).map λkv=>V.ref kv.2.1)=l.map λx=>V.ref x.2.1:=by unfold hoN;rw[Yg];rfl
  have as:((hoN l).map λkv=>V.ref kv.2.1).length=l.length:=by rw[ax,XA]
  refine⟨_,rfl,_,rfl,d,_,_,rfl,av,rfl,by rw[as];lia,?_⟩;refine oE (K:=K) (H0:=H3) _ (l.map λx=>pkD x.1) [] [] H3 (by rw[as,XA]) (ab.refl H3) .nil (λi x d2 H4 _ G b6 s4 kk=>?_) (λks H4 s4 d1=>?_)
  ·rw[ax,XM]at G;obtain⟨y,e,rfl⟩:=Option.map_eq_some_iff.mp G;rw[XM,e]at b6;cases b6;have Z:=XB e;exact⟨_,y.1,rfl,(Mp y Z).2.same s4,(aw y Z).1,(aw y Z).2,λr H' sr dr=>kk r H' sr dr⟩
  have bl:ay K H4 ks (l.map λx=>pkD x.1):=by simpa using d1
  refine⟨_,bl,λdd a3=>?_,λdd a3=>?_,λD0 p bk hp bp=>?_⟩
  ·obtain⟨x,_,rfl⟩:=XE.mp a3;exact SR _
  ·obtain⟨x,_,rfl⟩:=XE.mp a3;exact Qs _
  rw[as]at hp;rw[KR hp];have U:=Gh hp;have az:=J7 hp bp;generalize Ff l p=m at U az ⊢;have ck:m.length=l.length:=U.length_eq;refine⟨D0,rfl,⟨_,.of aa⟩,λD hD=>?_⟩;have sb:ab H3 (upd H4 D0 (.lst (m.map λx=>V.ref x.2.1))):=s4.trans (ab.new bk);have Tc:(upd H4 D0 (.lst (m.map λx=>V.ref x.2.1))) D0=some (.lst (m.map λx=>V.ref x.2.1)):=aa;generalize upd H4 D0 (HO.lst (m.map λx=>V.ref x.2.1))=Hb at sb Tc hD ⊢;have W:ab Hb (upd Hb D (.lst [])):=ab.new hD;refine aB (K:=K) (xs:=m.map λx=>V.ref x.2.1) (λi f X H5=>(∃u,X=[u,some (.ref d)])/\ab Hb H5/\ay K (lim (upd Hb D (.lst [])) H5) f ((m.take i).map λx=>mvD (x.1,x.2.2))) aa ⟨⟨_,rfl⟩,W,.nil⟩ (λi f X H5 _ _ q=>.of (q.2.1 _ _ Tc)) (λi x f X H5 G c7 q=>?_) (λf X H5 bq q=>?_)
  ·obtain⟨q0,s5,o⟩:=q;apply cY q0;clear q0;intro u;rw[XM]at G;obtain⟨y,e,rfl⟩:=Option.map_eq_some_iff.mp G;have hi:=ba e;have Z:y∈l:=U.mem_iff.mp (XB e);obtain⟨bj,cf⟩:=Mp y Z;obtain⟨_,_,_,eb,be,bt,bg⟩:=xu cf;cases eb;obtain⟨c1,I,rfl,q1,d1⟩:=tu bt;obtain⟨c2,F,rfl,q2,d2⟩:=tu bg;have j:=sb.trans s5;refine bZ ⟨_,rfl,_,_,0,_,rfl,rfl,j.eQ be,rfl,c1,I,rfl,.inr (j.eQ q1),λl1 b7=>?_⟩;have J:ab H5 (upd H5 l1 (.lst I)):=ab.new b7;have SD:(upd H5 l1 (.lst I)) l1=some (.lst I):=aa;generalize upd H5 l1 (.lst I)=H6 at J SD ⊢;refine⟨_,rfl,_,_,1,_,rfl,rfl,(j.trans J).eQ be,rfl,c2,F,rfl,.inr ((j.trans J).eQ q2),λl2 b2=>?_⟩;have ai:ab H6 (upd H6 l2 (.lst F)):=ab.new b2;have Sw:(upd H6 l2 (.lst F)) l2=some (.lst F):=aa;generalize upd H6 l2 (.lst F)=H7 at ai Sw ⊢;have ah:=J.trans ai;have a6:=j.trans ah;have bw:pf K nY H7 (hoN l):=λz hz=>by
    obtain⟨q,hq,rfl⟩:=XE.mp hz;exact⟨(Mp q hq).1,(Mp q hq).2.same a6⟩
   refine⟨_,rfl,_,rfl,d,.int (y.2.2:Int),rfl,⟨hoN l,y.1,_,a6 _ _ av,bw,rfl,bj,cf.same a6,?_⟩,(by show 3<=Yb0;decide),λt ht=>?_⟩
   ·rw[xy,EQ ho.nd Z];rfl
   have S:ab H7 (upd H7 t (.tup [.ref l1,.ref l2,.int (y.2.2:Int)])):=ab.new ht;have b3:(upd H7 t (.tup [.ref l1,.ref l2,.int (y.2.2:Int)])) t=some (.tup [.ref l1,.ref l2,.int (y.2.2:Int)]):=aa;generalize upd H7 t (.tup [.ref l1,.ref l2,.int (y.2.2:Int)])=H8 at S b3 ⊢;have M:=ah.trans S;have VX:f.length=i:=by rw[o.length,XA,X4];lia
   have fr:∀{c:Yau},H5 c=none->(upd Hb D (.lst [])) c=none:=λ{c} h=>by
    have cb:c≠D:=λz=>by lia
    rw[ao cb];exact s5.free h
   refine⟨f,(M _ _ c7),small (by lia),_,aa,⟨_,rfl⟩,ar hD (s5.trans M),?_⟩;rw[jb (ys:=[]) aa,XW,e,XH];refine(o.same (bM M)).append (.cons (.tup (.of ((bK (fr (ah.free ht))).trans b3)) (.cons (.lst (.of ((bK (fr b7)).trans (S _ _ (ai _ _ SD)))) ?_) (.cons (.lst (.of ((bK (fr (J.free b2))).trans (S _ _ Sw))) ?_) (.cons (.int _) .nil)))) .nil)
   ·exact js (sb.trans W) (j.trans M) d1
   ·exact js (sb.trans W) (j.trans M) d2
  ·obtain⟨_,s5,o⟩:=q;rw[XA,Yk]at o;have e:(m.map λx=>mvD (x.1,x.2.2))=(m.map λx=>(x.1,x.2.2)).map mvD:=by simp
   rw[e]at o;have a4:=(s2.trans s3).trans sb;exact k D f H5 _ (a4.free hD) (a4.trans s5) bq (o.same (cJ (a4.trans W).ll)) (Uu ho U az)
def nC (K:Vzz) (A:Ad):Sp:=λvs H Q _=>∃(B:Hp) (g pa tb:Yau) (v:eD) (oa ob:Qqr),vs=[.ref g]/\bi K A.aF A.aJ B H g pa tb v/\v.ah.os=oa.map some/\v.cur.os=ob.map some/\(∀ps∈oa,POk ps)/\(∀ps∈ob,POk ps)/\oa.length<64 /\
 ∀(D:Yau) (acc:Qqt) (H':Hp) (l:List (Kq×Nat)),H D=none->ab H H'->H' D=some (.lst acc)->ay K (lim H H') acc (l.map mvD)->qu (oa.zip ob) l->Q (.ref D) H'
theorem xj:ax ["self"] ["self"] (ae (mIn 56 12)):=fsc
theorem xA (T:Tx K mg A):OkM T.iH mg P w base 8 (nC K A):=by
 refine T.iH.fn.ok xj (λy H Q E h=>?_) (λ_ _ _ s H y Q E z h=>?_)
 ·obtain⟨B,g,p,o,v,j,d,rfl,_⟩:=h;rfl
 ·obtain⟨B,g,p,o,v,j,d,rfl,q,u,x,l,r,n,k⟩:=h;obtain⟨i,t,c,e,_,_,f,_,_,m,_,_,_,_,_,b,a,_⟩:=q;refine⟨_,aj (au (aY T.moved (KG T) z (ag (aW T.aA T.iV (pv 0)) (pa1 (aW T.aA T.aC (pv 0)))))),?_⟩;exact⟨_,rfl,g,i,_,.ref e,rfl,f,rfl,_,rfl,g,i,_,.ref c,rfl,f,rfl,B,e,c,v.ah,v.cur,j,d,rfl,a,b,m,u,x,l,r,n,k⟩
def J2 (v:StV) (ob:Qqr):Yaz:=.list [.list ((v.bs++v.fs).map aD),.list (ob.map aD),.list ((v.bs++v.fs).map (BF v (-9) 99))]
def xY (K:Vzz) (A:Ad):Sp:=λvs H Q _=>∃(B:Hp) (g pa tb:Yau) (v:eD) (ob:Qqr),vs=[.ref g,.int (v.cur.rs.length:Nat)]/\bi K A.aF A.aJ B H g pa tb v/\v.cur.os=ob.map some /\
 ∀(X:Yau) (H':Hp),H X=none->ab H H'->Den K (lim H H') (.ref X) (J2 v.cur ob)->Q (.ref X) H'
theorem mH:ax ["log","many","found"] ["log","many"] (ae (top 66)):=fsc
theorem mT (T:Tx K mg A):Okd T.kZ P w base 3 (xY K A):=by
 refine T.kZ.fn.ok mH (λvs H Q E h=>?_) (λ_ _ _ s H vs Q E Y h=>?_)
 ·obtain⟨B,g,R,N,v,ob,rfl,_⟩:=h;rfl
 ·obtain⟨B,g,R,N,v,ob,rfl,L,U,k⟩:=h;obtain⟨l,_,_,_,j⟩:=L.gg;have y:=L.okc;have a8:=y.rl;have V:ob.length=v.cur.rs.length:=by rw[<-y.len,U,XA]
  refine⟨_,af (gb (i:=2) (N':=["number","log"]) (n:=1) (fi:=[0]) (g:=bf 0) mH.nd rfl (Or.inl rfl) rfl (bX (ae (top 66)) ["log","many","found"] (by decide +kernel)) (d4 (by rfl) T.gf (pa1 (pv 1))) (λs H fp=>aM (i:=0) (show(["number","log"]:Qqv).Nodup by decide +kernel) rfl (Or.inl rfl) (.inr rfl)) (λs H fp=>cy) (λs H fp=>cO (pv 1) T.aA T.iS ((nN T).mono (by decide)) Y T.gj.bd .nil bu (pa1 (pv 0))))
   (aj (au (br (ag (dW (pv 0) T.aA T.cH ((c7 T).mono (by decide)) Y T.cg.bd .nil bu) (ag (pv 2) (pa1 (cO (pv 0) T.aA T.lO ((lP T).mono (by decide)) Y T.iW.bd .nil bu (ag (EN yx ak) (pa1 ak))))))))),?_⟩
  refine⟨_,rfl,(v.cur.rs.length:Int),rfl,by lia,by lia,λD S=>?_⟩;refine eP (λi a σ x=>(∃u,σ=[u,some (.ref g)])/\ab H x/\ay K (wo D (lim H x)) a ((ob.take i).map aD)) aa ⟨⟨_,rfl⟩,ab.new S,.nil⟩ (λi a σ x _ G q=>?_) (λa σ x W q=>?_)
  ·obtain⟨q0,d,r⟩:=q;apply cY q0;clear q0;intro u;have e:ob[i]? = some ob[i]:=XJ (by lia);have a9:a.length<=i:=by rw[r.length,XA,X4];lia
   refine bZ ⟨_,rfl,g,l,_,rfl,d _ _ j,rfl,_,rfl,B,g,R,N,v,i,ob[i],(by simp),L.same d,by simp_all,λE _ H3 hE m _ dE=>?_⟩;have F:E≠D:=(aw G hE).symm;have sL:ab (wo D (lim H x)) (wo D (lim H (upd H3 D (.lst (a++[.ref E]))))):=λc o h=>by
    obtain⟨C,h⟩:=aZ h;have t:=d9 h;rw[bh t]at h;rw[aq C,bh t,ao C];exact m _ _ h
   refine⟨a,(m _ _ G),small (by lia),_,aa,⟨_,rfl⟩,ar S (d.trans m),?_⟩;rw[XW,e,XH];refine(r.same sL).append (.cons (.lst (.of (by rwa [aq F,bK (d.free hE),ao F])) (dE.same λc o h=>?_)) .nil);have t:=d9 h;rw[bh t]at h;have C:c≠D:=λz=>t a (by rwa [z])
   rwa [aq C,bh λzs z=>t zs (d _ _ z),ao C]
  obtain⟨_,d,r⟩:=q;have a0:ay K (lim H x) a (ob.map aD):=by
   have:(v.cur.rs.length:Int).toNat=ob.length:=by rw[V];rfl
   rw[this]at r;rw[Yk]at r;exact r.same bc
  refine⟨_,rfl,g,l,_,rfl,d _ _ j,rfl,B,g,R,N,v,rfl,L.same d,λPS pv H3 a7 m a4 a5=>?_⟩;have b:=d.trans m;refine⟨_,rfl,_,rfl,g,l,_,rfl,b _ _ j,rfl,9,rfl,B,g,R,N,v,-9,99,rfl,L.same b,λO _ M a3 I a6 Z=>⟨(by show 3<=Yb0;decide),λX hX=>?_⟩⟩;have p:=b.trans I;have f:ab M (upd M X (.lst [.ref PS,.ref D,.ref O])):=ab.new hX;have J:(upd M X (.lst [.ref PS,.ref D,.ref O])) X=some (.lst [.ref PS,.ref D,.ref O]):=aa;generalize upd M X (.lst [.ref PS,.ref D,.ref O])=H5 at f J ⊢;refine k X H5 (p.free hX) (p.trans f) ?_;refine .lst (.of ((bK (p.free hX)).trans J)) (.cons (.lst (.of ((bK (d.free a7)).trans (f _ _ (I _ _ a4)))) ((a5.same (bM (I.trans f))).same (cJ d.ll))) (.cons (.lst (.of ((bK S).trans (f _ _ (I _ _ (m _ _ W))))) (a0.same (bM (m.trans (I.trans f))))) (.cons (.lst (.of ((bK (b.free a3)).trans (f _ _ a6))) ((Z.same (bM f)).same (cJ b.ll))) .nil)))
theorem Nc {P:Yau}{g:Yau}{v:eD}{q:Qqw} (h:bi K CL CS B H g pa tb v) (b:B P=none) (a:H P=some (.tbl q)) (s:ab (wo P H) H'):bi K CL CS B H' g pa tb v:=
 h.wo b (h.neT a).1 (h.neT a).2.1 (h.neT a).2.2 s
def nr (K:Vzz) (A:Ad):Sp:=λvs H Q _=>∃(B:Hp) (g pa tb L HD SV:Yau) (v:eD) (hv:Qqt) (bs:Qqr) (x:V) (ps:Qqs),vs=[.ref g,.ref L,.ref HD,.ref SV,x]/\bi K A.aF A.aJ B H g pa tb v/\B A.ap=none/\H L=some (.lst (v.cur.zZ.map V.str))/\H HD=some (.lst hv)/\ay K H hv (bs.map aD)/\bs.Perm v.cur.bs/\bs.Nodup/\bs.length<=12/\SqT K H SV [.int v.s,.int v.l]/\Den K H x (aD ps)/\ps∈bs/\v.cur.rs.length<=40/\cD A.ap H/\∀H',ab (wo A.ap H) H'->cD A.ap H'->Q (.bl true) H'
theorem bT:ax ["log","lines","hand","sieve","pattern","rest","found","number","line","holes"] ["log","lines","hand","sieve","pattern"] (ae (top 67)):=fsc
theorem nM (T:Tx K mg A):Okd T.gA P w base 21 (nr K A):=by
 have pJ:OkM T.gj mg P w base 20 (mX K A):=(nN T).mono (by decide);refine T.gA.fn.ok bT (λvs H Q E h=>?_) (λ_ _ _ s H vs Q E S h=>?_)
 ·obtain⟨B,g,pa,tb,L,HD,SV,v,hv,bs,x,ps,rfl,_⟩:=h;rfl
 ·obtain⟨B,g,pa,tb,L,HD,SV,v,hv,bs,x,ps,rfl,bW,fh,hL,et,cz,eb,_,_,di,hx,b6,_,d5,k⟩:=h;obtain⟨b1,_,_,_,ef⟩:=bW.gg;have N:=bW.okc;obtain⟨_,ka⟩:=aN d5;have vq:∀{H'},ab (wo A.ap H) H'->bi K A.aF A.aJ B H' g pa tb v:=λs=>Nc bW fh ka s;have ai:(wo A.ap H) g=_:=(aq (bW.neT ka).1.symm).trans ef;have a5:(wo A.ap H) L=_:=(aq λz=>by lia).trans hL;have Y:(wo A.ap H) HD=_:=(aq λz=>by lia).trans et;have b4:=ke ka cz;have en:=mO ka di;have ah:=xm ka hx;have e1:(wo A.ap H) A.ap=none:=eM;have s0:ab (wo A.ap H) H:=bc;have bh:∀z∈v.cur.zZ,∃ws,fU 12 z ws:=λz hz=>by
   obtain⟨q,Z,rfl⟩:=XE.mp hz;exact N.lns q Z
  have fu:v.cur.zZ.length=v.cur.rs.length:=by unfold StV.zZ;rw[XA]
  have cu:=N.pws;have O8:∀q∈bs,PW q/\q≠[]/\q.length<=12:=λq Z=>N.hnd q (eb.mem_iff.mp Z);have b8:∀q∈bs,∀p∈q,p.ok:=λq Z p hp=>((O8 q Z).1 p hp).okP.1;have d8:hv.length=bs.length:=by rw[cz.length,XA]
  have fx:v.cur.bs.length=hv.length:=by rw[eb.length_eq.symm,d8]
  generalize wo A.ap H=W at vq ai a5 Y b4 en ah e1 s0 k;clear bW hL et cz di hx ka ef;refine⟨_,af (gb (i:=5) (N':=["line","hand"]) (n:=1) (fi:=[2]) (g:=bf 0) bT.nd rfl (Or.inl rfl) rfl (bX (ae (top 67)) ["log","lines","hand","sieve","pattern","rest","found","number","line","holes"] (by decide +kernel)) (aI (pv 1)) (λs H fp=>aM (i:=0) (show(["line","hand"]:Qqv).Nodup by decide +kernel) rfl (Or.inr rfl) (.inl rfl)) (λs H fp=>cT (bp (r:=nH K) (gy S) (cm (wi:=y7 K (o5 1)) (N':=["one","line"]) (n:=1) (fi:=[0]) (g:=bf 0) rfl (qS (ae (top 67)) (by decide +kernel)) (aI (pv 1)) (λs H fp=>aM (i:=0) (show(["one","line"]:Qqv).Nodup by decide +kernel) rfl (Or.inl rfl) (.inr rfl)) (λs H fp=>cT (b7 (aY T.fits (qU T) S (ag (pv 0) (pa1 (pv 1)))))) (λs H fp=>pv 0)) (br dG))) (λs H fp=>pv 0))
   (af (aV (i:=6) bT.nd rfl (Or.inl rfl) (dW (pv 0) T.aA T.cH ((c7 T).mono (by decide)) S T.cg.bd .nil bu))
   (af (bg (bp (r:=yw K) (jT S) (iN (r:=Ka K) qV (pv 6) (jh (aE (r:=cZ K) aS (by rfl) T.cM Z8 (pa1 (pv 2)))) nI) (Oo T.gathered (pT T) S (ag (pv 5) (pa1 (pv 3))))) (aj (au fA)) aG)
   (af (bg (bp (r:=yw K) (jT S) (aE (r:=yV K) (fY S) (by rfl) T.fm gr (pa1 (pcm ["one"] [] (ae (top 67)) ["log","lines","hand","sieve","pattern","rest","found","number","line","holes"] (aI (pv 2)) (λs H fp=>bI (r:=Bv K) (gp S) (by rfl) T.pe k7 (pa1 (pv 0)))))) (aE (r:=yV K) (fY S) (by rfl) T.fm gr (pa1 (pcm ["one"] [] (ae (top 67)) ["log","lines","hand","sieve","pattern","rest","found","number","line","holes"] (aI (iN (r:=Ka K) qV (pv 6) nI (jh (aE (r:=cZ K) aS (by rfl) T.cM Z8 (pa1 (pv 2)))))) (λs H fp=>bI (r:=Bv K) (gp S) (by rfl) T.pe k7 (pa1 (pv 0))))))) (aj (au fA)) aG)
   (af (gQ UO rfl (Ez (by rfl) T.pZ (pa1 (pv 1))) (dC rfl (aL (pn 7 bT.nd) (aL (pn 8 bT.nd) cE))) (af (bg (bp px (qM (r:=zm K false) (II S) (cO (pv 0) T.aA T.iS pJ S T.gj.bd .nil bu (pa1 (pv 7))) (pv 2) (by rfl)) (qM (r:=rIn K true) xS (pv 8) (pv 5) (by rfl))) (aj (au fA)) aG)
   (aj (bg ((pw_and (b7 (aY T.fits (qU T) S (ag (pv 4) (pa1 (pv 8))))) (pw_and1 (ju (r:=zm K true) (k5 S) (cO (pv 0) T.aA T.iS pJ S T.gj.bd .nil bu (pa1 (pv 7))) (pv 2) (by rfl)))).pt) (aj (au fA)) aG))))
   (af (bg (bp (r:=nH K) (gy S) (cm (N':=["line","pattern"]) (n:=1) (fi:=[4]) (g:=bf 0) rfl (bX (ae (top 67)) ["log","lines","hand","sieve","pattern","rest","found","number","line","holes"] (by decide +kernel)) (aI (pv 1)) (λs H fp=>aM (i:=0) (show(["line","pattern"]:Qqv).Nodup by decide +kernel) rfl (Or.inl rfl) (.inr rfl)) (λs H fp=>cT (b7 (aY T.fits (qU T) S (ag (pv 1) (pa1 (pv 0)))))) (λs H fp=>pv 0)) (br dG)) (af (aV (i:=9) bT.nd rfl (Or.inl rfl) (aE (r:=cZ K) aS (by rfl) T.cM Z8 (pa1 (cm (N':=["part"]) (n:=1) (fi:=[]) (g:=bf 0) rfl (bX (ae (top 67)) ["log","lines","hand","sieve","pattern","rest","found","number","line","holes"] (by decide +kernel)) (aI (pv 4)) (λs H fp=>aM (i:=0) (nT _) rfl (Or.inl rfl) (.inr rfl)) (λs H fp=>cT (bp gE (iT K (pv 0) ak) aH)) (λs H fp=>pv 0)))))
   (af (bg (bp px (Nr (Q8 S) (bI (r:=Ku) (CY S) (by rfl) T.Qa Nt (pa1 (cm (N':=["one","many"]) (n:=2) (fi:=[]) (g:=oz K 2 (c5 (bf 0) (c5 (bf 1) oF))) rfl (bX (ae (top 67)) ["log","lines","hand","sieve","pattern","rest","found","number","line","holes"] (by decide +kernel)) (aI (cO (pv 0) T.aA T.lO ((lP T).mono (by decide)) S T.iW.bd .nil bu (ag (EN yx ak) (pa1 ak)))) (λs H fp=>dC rfl (aL (aM (i:=0) (show(["one","many"]:Qqv).Nodup by decide +kernel) rfl (Or.inl rfl) (.inr rfl)) (aL (aM (i:=1) (show(["one","many"]:Qqv).Nodup by decide +kernel) rfl (Or.inl rfl) (.inr rfl)) cE))) (λs H fp=>cy) (λs H fp=>cB (ag (bI (r:=Bv K) (gp S) (by rfl) T.pe k7 (pa1 (pv 0))) (pa1 (pv 1))))))) (bI (r:=Bv K) (gp S) (by rfl) T.pe k7 (pa1 (pv 4))) (λ_ _=>rfl)) ak) (aj (au fA)) aG)
   (aj (au (iF (r:=nH K) (gy S) (cO (pv 0) T.aA T.yo ((ym T).mono (by decide)) S T.oV.bd .nil bu (pa1 (pv 4))) (pcm ["hole"] [] (ae (top 67)) ["log","lines","hand","sieve","pattern","rest","found","number","line","holes"] (d4 (by rfl) T.gf (pa1 (pv 9))) (λs H fp=>br dG))))))) aG)
   (aj (au fA))))))),?_⟩
  refine⟨_,rfl,L,rfl,⟨_,.of (s0 _ _ a5)⟩,λR hR=>?_⟩;refine aB (K:=K) (xs:=v.cur.zZ.map V.str) (λi f G X=>(∃u,G=[u,some (.ref HD)])/\ab H X/\f=(eY bs (v.cur.zZ.take i)).map V.str) aa ⟨⟨_,rfl⟩,ab.new hR,rfl⟩ (λi f G X _ _ q=>.of ((s0.trans q.2.1) _ _ a5)) (λi x f G X hx ep q=>?_) (λf G X Qe q=>?_)
  ·obtain⟨M,J,rfl⟩:=q;apply cY M;clear M;intro u;obtain⟨z,hz,rfl⟩:=ee hx;obtain⟨wz,bb⟩:=bh z (XB hz);have a0:=bb.ok (by decide);have a9:(eY bs (v.cur.zZ.take i)).length<=40:=by
    refine XG (Yt _ _) ?_;rw[X4];lia
   have MO:=s0.trans J;refine⟨_,rfl,HD,rfl,⟨_,.of (MO _ _ Y)⟩,λC hC=>?_⟩;refine aB (K:=K) (xs:=hv) (λj ac G b9=>(∃u,G=[u,some (.str z)])/\ab X b9/\ay K W ac (((bs.take j).filter (bq z)).map aD)) aa ⟨⟨_,rfl⟩,ab.new hC,.nil⟩ (λj ac G b9 _ _ q=>.of ((MO.trans q.2.1) _ _ Y)) (λj x ac G b9 hx a3 q=>?_) (λac G b9 Wy q=>?_)
   ·obtain⟨M,be,dn⟩:=q;apply cY M;clear M;intro u;obtain⟨qs,d1,bx⟩:=c8 b4 hx;have hj:=ba d1;have R7:ac.length<=j:=by
     rw[dn.length,XA]
     grind
    refine⟨_,rfl,_,rfl,x,z,qs,rfl,bx.same (MO.trans be),b8 qs (XB d1),XG a0.2 (by decide),a0.1,λfl bw=>⟨_,rfl,?_⟩⟩;have e2:(bs.take (j+1)).filter (bq z)=(bs.take j).filter (bq z)++[qs].filter (bq z):=by rw[XW,d1,Yq];rfl
    cases hb:aR qs (Z5 z " ")with
    | true=>
     refine bN ⟨_,rfl,_,bw _ _ a3,small (by lia),_,aa,⟨_,rfl⟩,ar hC (be.trans bw),?_⟩;rw[e2,YM,show bq z qs=true from hb,XH];exact dn.append (.cons bx .nil)
    | false=>
     refine aX ⟨_,bw _ _ a3,⟨_,rfl⟩,be.trans bw,?_⟩;rw[e2,YM,show bq z qs=false from hb];simpa using dn
   obtain⟨_,be,dc⟩:=q;rw[d8,Yk]at dc;refine⟨XT _,λE hE=>?_⟩;have sE:=ab.new (o:=.lst []) hE;have GB:=be.trans sE;refine⟨_,_,.lst (.of (sE _ _ Wy)) (dc.same (MO.trans GB)),.lst (.of aa) .nil,m6 _,_,rfl,?_⟩;rw[tU,List.isEmpty_map,O9 hz];generalize upd b9 E (.lst [])=fl at GB ⊢;cases hb:(bs.filter (bq z)).isEmpty with
   | true=>
    refine bN ⟨_,rfl,_,GB _ _ ep,small (by rw[XA];lia),_,aa,⟨_,rfl⟩,ar hR (J.trans GB),?_⟩;simp
   | false=>
    refine aX ⟨_,GB _ _ ep,⟨_,rfl⟩,J.trans GB,?_⟩;simp
  obtain⟨_,J,rfl⟩:=q;rw[XA,Yk]at Qe;have VA:(eY bs v.cur.zZ).length<64:=by
   exact Y6 (Yt _ _) (by lia)
  have e3:∀z,z∈eY v.cur.bs v.cur.zZ↔z∈eY bs v.cur.zZ:=NT eb.symm λz=>Iff.rfl;have s1:=s0.trans J;have e0:=av d5 J;clear s0 J hR d5;refine⟨_,rfl,g,b1,_,rfl,s1 _ _ ai,rfl,B,g,pa,tb,v,rfl,vq s1,λF fv H3 hF s3 a6 e4=>?_⟩;have d2:=s1.trans s3;have df:=av e0 s3;have TK:=e4.same bG;have ed:=s3 _ _ Qe;have fq:=a6;refine⟨_,rfl,_,rfl,HD,_,rfl,.inl (.of (d2 _ _ Y)),(hv.length:Int),rfl,F,_,rfl,.of a6,λF2 es=>?_⟩;have sF:=ab.new (o:=.lst (ki fv (some (hv.length:Int)) none)) es;have bk:(upd H3 F2 (.lst (ki fv (some (hv.length:Int)) none))) F2=some (.lst (ki fv (some (hv.length:Int)) none)):=aa;have c3:=d2.trans sF;have bl:=av df sF;have bt:=sF _ _ ed;have cc:=sF _ _ a6;have NC:=TK.same sF;generalize upd H3 F2 (.lst (ki fv (some (hv.length:Int)) none))=H5 at bk c3 bl bt cc NC ⊢;rw[IC]at bk;have c6:=wI hv.length NC;rw[XH,List.drop_left' (by simp_all)]at c6;obtain⟨_,IA⟩:=aN bl;have nP:∀{c:Yau}{ys:Qqt},H5 c=some (.lst ys)->c≠A.ap:=λ{c ys} e z=>by lia
  refine⟨_,rfl,_,rfl,R,SV,_,v.s,v.l,rfl,.inl bt,VA,(P9 (bs:=bs) bh),c3.eQ en,bl,λ_ ms _ H6 qs dk hu fe s6 ei dy hqs dp dm TU f3 VF cx=>?_⟩;have TJ:qs=v.cur.fs:=jC.unique ⟨⟨ms,dk,hu,hqs⟩,dp,dm,TU⟩ (N.gth.VI e3);rw[TJ]at cx;have b2:ab W H6:=(hJ e1 c3).trans s6;have DX:∀{c:Yau}{ys:Qqt},H5 c=some (.lst ys)->H6 c=some (.lst ys):=λ{c ys} e=>s6 _ _ (by rwa [aq (nP e)]);have TX:=DX bk;have e6:=DX cc;have e5:=DX bt;have Uy:=(ke IA NC).same s6;refine⟨_,_,.lst (.of TX) ((ke IA c6).same s6),.lst (.of dy) (cx.same bG),m6 _,_,rfl,?_⟩;rw[FP];refine aX ?_;clear DX TX dy cx VF f3 dm TJ hqs dp TU dk hu fe c6 bk cc bt NC bl c3 sF es df d2 TK a6 ed hF s3 e4 Qe e0 s1 fq nP IA s6;refine⟨_,rfl,HD,rfl,⟨_,.of (b2 _ _ Y)⟩,λC1 cb=>?_⟩;refine aB (K:=K) (xs:=hv) (λi f G H7=>(∃u,G=[u])/\ab H6 H7/\f=((bs.take i).map λq=>gB (aD q)).map V.str) aa ⟨⟨_,rfl⟩,ab.new cb,rfl⟩ (λi f G H7 _ _ q=>.of ((b2.trans q.2.1) _ _ Y)) (λi x f G H7 hx a4 q=>?_) (λf G H7 cs q=>?_)
  ·obtain⟨M,s7,rfl⟩:=q;apply cY M;clear M;intro u;obtain⟨q,eq,cp⟩:=c8 b4 hx;have Z:=O8 q (XB eq);refine bZ ⟨_,rfl,_,_,rfl,cp.same (b2.trans s7),gq Z.1 Z.2.2,_,a4,small (by grind),_,aa,⟨_,rfl⟩,ar cb s7,?_⟩;rw[XW,eq,XH,XH];rfl
  obtain⟨_,s7,rfl⟩:=q;rw[d8,Yk]at cs;refine⟨C1,_,rfl,.of cs,by rw[XA];lia,λTS bj dv Ie e7=>?_⟩;obtain⟨_,de,s8,dt⟩:=cL (.lst (bj.map V.str)) dv;rw[de];have d0:=b2.trans (s7.trans s8);have ea:=s8 _ _ (s7 _ _ e6);have dx:=s8 _ _ (s7 _ _ e5);have SN:=Uy.same (s7.trans s8);have dj:=av ei (s7.trans s8);clear de cs s7 cb e6 e5 Uy b2 ei s8 dv;refine⟨_,rfl,_,rfl,HD,_,rfl,.inl (.of (d0 _ _ Y)),(hv.length:Int),rfl,F,_,rfl,.of ea,λF3 a6=>?_⟩;rw[AF (ZF _),show((hv.length:Int)).toNat=v.cur.bs.length by lia];have c0:=vA v.cur.bs.length SN;rw[XH,List.take_left' (by simp)]at c0;obtain⟨H9,ec,s9,cn⟩:=cL (.lst (fv.take v.cur.bs.length)) a6;rw[ec];refine⟨F3,rfl,⟨_,.of cn⟩,λC2 cw=>?_⟩;have eh:(fv.take v.cur.bs.length).length=v.cur.bs.length:=by rw[c0.length,XA]
  refine aB (K:=K) (xs:=fv.take v.cur.bs.length) (λi f G c1=>(∃u,G=[u])/\ab H9 c1/\f=((v.cur.bs.take i).map λq=>gB (aD q)).map V.str) aa ⟨⟨_,rfl⟩,ab.new cw,rfl⟩ (λi f G c1 _ _ q=>.of (q.2.1 _ _ cn)) (λi x f G c1 hx a4 q=>?_) (λf G c1 Qx q=>?_)
  ·obtain⟨M,b0,rfl⟩:=q;apply cY M;clear M;intro u;obtain⟨q,eq,cp⟩:=c8 c0 hx;have Z:=N.hnd q (XB eq);refine bZ ⟨_,rfl,_,_,rfl,cp.same (s9.trans b0),gq Z.1 Z.2.2,_,a4,small (by rw[XA,XA,X4];lia),_,aa,⟨_,rfl⟩,ar cw b0,?_⟩;rw[XW,eq,XH,XH];rfl
  obtain⟨_,b0,rfl⟩:=q;rw[eh,Yk]at Qx;refine⟨C2,_,rfl,.of Qx,by rw[XA];lia,λfc ts2 LK Cy dr=>?_⟩;obtain⟨du,Ut,d9,Si⟩:=cL (.lst (ts2.map V.str)) LK;rw[Ut];have Lj:=s9.trans (b0.trans d9);have fg:bj=ts2:=gX (Ie.trans ((eb.map _).trans Cy.symm)) e7 dr;have Cr:∀x∈ts2,Z2 x=true:=λx hx=>by
   obtain⟨q,Z,rfl⟩:=XE.mp (Cy.mem_iff.mp hx);exact G0 (N.hnd q Z).1
  subst fg;have ct:Den K du (.ref fc) (.list (bj.map .str)):=.lst (.of Si) (eX Cr);refine⟨.list (bj.map .str),.list (bj.map .str),.lst (.of (Lj _ _ dt)) (eX Cr),ct,uf _,_,rfl,?_⟩;rw[xf ct];refine aX ?_;have LR:=d0.trans Lj;have QV:=av dj Lj;have R5:=Lj _ _ dx;clear ct Cr Ie Cy e7 dr Si d9 Ut LK Qx b0 eh cw cn s9 ec c0 a6 SN dt Lj dx ea dj d0;have bo:∃ob:Qqr,v.cur.os=ob.map some/\∀q∈ob,q∈v.cur.bs++v.cur.fs:=N.obs;obtain⟨ob,dq,bo⟩:=bo;have ey:ob.length=v.cur.rs.length:=by rw[<-N.len,dq,XA]
  refine⟨_,rfl,L,rfl,⟨_,.of (LR _ _ a5)⟩,?_⟩;refine Ih (K:=K) (xs:=v.cur.zZ.map V.str) (λi G a7=>(∃u7 u8,G=[some (.ref g),some (.ref L),some (.ref HD),some (.ref SV),some x,some (.ref R),some (.ref F),u7,u8,none])/\ab du a7) ⟨⟨_,_,rfl⟩,ab.refl _⟩ (λi G a7 q=>.of ((LR.trans q.2) _ _ a5)) (λi y G a7 t hy q ht=>?_) (λG a7 q=>?_)
  ·obtain⟨M,ax⟩:=q;apply qD M;clear M;intro u7 u8;obtain⟨z,hz,rfl⟩:=ee hy;have hi:=ba hz;have sT:=ab.new (o:=.tup [.int i,.str z]) ht;have hT:=aa (H:=a7) (a:=t) (o:=.tup [.int i,.str z]);have O:=ax.trans sT;have Mm:=LR.trans O;generalize upd a7 t (.tup [.int i,.str z])=H13 at O Mm hT ⊢;clear ax sT ht;refine⟨t,_,rfl,.of hT,rfl,_,_,rfl,_,_,rfl,rfl,?_⟩;have ez:i<ob.length:=by lia
   have d3:v.cur.os[i]? = some (some ob[i]):=by simp_all
   obtain⟨r,er,f5⟩:∃r,v.cur.rs[i]? = some r/\r.2=z:=by
    unfold StV.zZ at hz;rw[XM]at hz;exact Option.map_eq_some_iff.mp hz
   have e8:=Nl N er d3;rw[f5,e3 z,<-eb.mem_iff]at e8;obtain⟨wz,bb⟩:=bh z (XB hz);have a0:=bb.ok (by decide);have dd:∀p∈ob[i],p.ok:=λp hp=>((cu _ (bo _ (YH ez))).1 p hp).okP.1;refine⟨_,rfl,g,b1,_,rfl,Mm _ _ ai,rfl,_,rfl,B,g,pa,tb,v,i,ob[i],rfl,vq Mm,d3,λE1 ys c2 _ I VW dE=>?_⟩;have tV:=Mm.trans I;have fa:Den K c2 (.ref E1) (aD ob[i]):=.lst (.of VW) (dE.same bG);refine⟨_,rfl,_,_,.lst (.of (tV _ _ Y)) (b4.same tV),fa,XG (bY _) (by decide),?_⟩;rw[Yb8 XN,kQ b8 dd];refine⟨_,rfl,_,rfl,R,_,rfl,.inl (.of ((O.trans I) _ _ R5)),rfl,?_,?_⟩
   ·rw[List.all_map];exact Ye.mpr λ_ _=>rfl
   rw[Yb7 rfl,NZ];have hd:decide (ob[i]∈bs) = !decide (z∈eY bs v.cur.zZ):=by
    lia
   refine⟨rfl,_,rfl,?_⟩;rw[hd,Yb4 rfl];refine aX ?_;refine⟨_,rfl,_,rfl,x,z,ps,rfl,ah.same tV,b8 ps b6,XG a0.2 (by decide),a0.1,λb3 U=>⟨_,rfl,?_⟩⟩;have AX:=tV.trans U;cases hf:aR ps (Z5 z " ")with
   | false=>exact aX (aX ⟨⟨_,_,rfl⟩,O.trans (I.trans U)⟩)
   | true=>
    have ew:z∉eY bs v.cur.zZ:=λq=>by
     have h1:=(X7.mp q).2;rw[Zw]at h1;have h2:ps∈bs.filter (bq z):=X7.mpr ⟨b6,hf⟩;rw[h1]at h2;cases h2
    refine bN ⟨_,rfl,g,b1,_,rfl,AX _ _ ai,rfl,_,rfl,B,g,pa,tb,v,i,ob[i],rfl,vq AX,d3,λE2 _ c9 _ az V3 d7=>?_⟩;have KI:=AX.trans az;have d7:Den K c9 (.ref E2) (aD ob[i]):=.lst (.of V3) (d7.same bG);refine⟨_,rfl,_,_,.lst (.of (KI _ _ Y)) (b4.same KI),d7,XG (bY _) (by decide),_,rfl,?_⟩;rw[Yb7 rfl,kQ b8 dd,Yb4 (e8.mpr ew)];exact aX ⟨⟨_,_,rfl⟩,O.trans (I.trans (U.trans az))⟩
  obtain⟨M,ax⟩:=q;apply qD M;clear M;intro u7 u8;have IT:=LR.trans ax;have GN:=av QV ax;clear R5 LR QV ax bo dq ey;refine⟨_,rfl,L,rfl,⟨_,.of (IT _ _ a5)⟩,λC hC=>?_⟩;refine aB (K:=K) (xs:=v.cur.zZ.map V.str) (λi f G H13=>(∃u,G=[u,some x])/\ab a7 H13/\f=((v.cur.zZ.take i).filter λz=>bq z ps).map V.str) aa ⟨⟨_,rfl⟩,ab.new hC,rfl⟩ (λi f G H13 _ _ q=>.of ((IT.trans q.2.1) _ _ a5)) (λi y f G H13 hy a3 q=>?_) (λf G H13 QC q=>?_)
  ·obtain⟨M,O,rfl⟩:=q;apply cY M;clear M;intro u;obtain⟨z,hz,rfl⟩:=ee hy;obtain⟨wz,bb⟩:=bh z (XB hz);have a0:=bb.ok (by decide);have a9:((v.cur.zZ.take i).filter λz=>bq z ps).length<=40:=by
    grind
   refine⟨_,rfl,_,rfl,x,z,ps,rfl,ah.same (IT.trans O),b8 ps b6,XG a0.2 (by decide),a0.1,λc2 I=>⟨_,rfl,?_⟩⟩;have e2:(v.cur.zZ.take (i+1)).filter (λz=>bq z ps)=(v.cur.zZ.take i).filter (λz=>bq z ps)++[z].filter (λz=>bq z ps):=by rw[XW,hz,Yq];rfl
   cases hb:aR ps (Z5 z " ")with
   | true=>
    refine bN ⟨_,rfl,_,I _ _ a3,small (by rw[XA];lia),_,aa,⟨_,rfl⟩,ar hC (O.trans I),?_⟩;rw[e2,YM,show bq z ps=true from hb,Yb7 rfl,XH];rfl
   | false=>
    refine aX ⟨_,I _ _ a3,⟨_,rfl⟩,O.trans I,?_⟩;rw[e2,YM,show bq z ps=false from hb,Yb8 XN,List.filter_nil,Ym]
  obtain⟨_,O,rfl⟩:=q;rw[XA,Yk]at QC;refine⟨XT _,λE hE=>?_⟩;have sE:=ab.new (o:=.lst []) hE;have I:=O.trans sE;have dg:∀z∈v.cur.zZ.filter (λz=>bq z ps),Z2 z=true:=λz hz=>by
   obtain⟨ws,hw⟩:=bh z (X7.mp hz).1;exact(hw.ok (by decide)).1
  refine⟨_,_,.lst (.of (sE _ _ QC)) (eX dg),.lst (.of aa) .nil,uf _,_,rfl,?_⟩;rw[tU,List.isEmpty_map];generalize upd H13 E (.lst [])=c2 at I ⊢;have tV:=IT.trans I;have Gx:=av GN I;clear QC O sE hE hC IT GN I dg;cases hem:(v.cur.zZ.filter λz=>bq z ps).isEmpty with
  | false=>exact aX (k _ tV Gx)
  | true=>
   have eo:∀z∈v.cur.zZ,bq z ps=false:=λz hz=>by
    simp_all
   refine bN ?_;have c4:=O8 ps b6;obtain⟨xa,xv,rfl,e9,dh⟩:=dH ah;have ff:xv.length=ps.length:=by rw[dh.length,XA]
   refine⟨_,rfl,xa,rfl,⟨_,tV.seq e9⟩,λC3 ck=>?_⟩;refine aB (K:=K) (xs:=xv) (λi f G b3=>(∃u,G=[u])/\ab c2 b3/\f.length=(hPl ps i).length) aa ⟨⟨_,rfl⟩,ab.new ck,rfl⟩ (λi f G b3 _ _ q=>(tV.trans q.2.1).seq e9) (λi y f G b3 hy a3 q=>?_) (λf G b3 Ue q=>?_)
   ·obtain⟨M,U,a9⟩:=q;apply cY M;clear M;intro u;obtain⟨p,hp,bx⟩:=gh dh hy;obtain⟨t,_,_,rfl,ht,_,_,dw⟩:=lX bx;have hi:=ba hp;have fw:=qP ps i;refine⟨_,rfl,t,_,0,_,rfl,rfl,(tV.trans U).eQ ht,rfl,rfl,_,rfl,?_⟩;cases p with
    | word _=>
     obtain⟨rfl,rfl⟩:=dw;refine aX ⟨_,a3,⟨_,rfl⟩,U,?_⟩;rw[a9,nJ,hp];simp[Bp]
    | hole m=>
     obtain⟨rfl,rfl⟩:=dw;refine bN ⟨_,rfl,_,a3,small (by lia),_,aa,⟨_,rfl⟩,ar ck U,?_⟩;rw[XI,a9,nJ,hp];simp[Bp]
   obtain⟨_,U,a9⟩:=q;rw[ff]at a9;refine⟨C3,_,rfl,.inl (.of Ue),?_⟩;have AX:=tV.trans U;have JD:=av Gx U;have fy:f.length<=12:=by
    grind [qP]
   clear Ue U ck Gx tV;refine⟨_,rfl,g,b1,_,rfl,AX _ _ ai,rfl,9,rfl,B,g,pa,tb,v,-9,99,rfl,vq AX,λCT cv c9 fb az Pw b5=>⟨CT,rfl,⟨_,.of Pw⟩,λD hD=>?_⟩⟩;have KI:=AX.trans az;have P6:=av JD az;have b5:=b5.same bG;have f7:(v.cur.bs++v.cur.fs).length<128:=by
    have h2:=N.gth.lt;rw[XI];lia
   have fj:cv.length=(v.cur.bs++v.cur.fs).length:=by rw[b5.length,XA]
   refine aB (K:=K) (xs:=cv) (λi f G aw=>(∃u w,G=[u,w])/\ab c9 aw/\∃as:Qqx,f=as.map V.ref/\as.length=i/\∀(j:Nat) a q,as[j]? = some a->(v.cur.bs++v.cur.fs)[j]? = some q->aw a=some (.tup [.str (gB (aD q)),.int (cnt v.cur (-9) 99 q:Nat)])) aa ⟨⟨_,_,rfl⟩,ab.new hD,[],rfl,rfl,λj a q h=>by cases h⟩ (λi f G aw _ _ q=>.of (q.2.1 _ _ Pw)) (λi y f G aw hy a4 q=>?_) (λf G aw Sn q=>?_)
   ·obtain⟨⟨u,w,rfl⟩,a8,as,rfl,QG,cj⟩:=q;have hi:=ba hy;obtain⟨d,hd,cf⟩:=b5.get hy;rw[XM]at hd;obtain⟨q,eq,rfl⟩:=Option.map_eq_some_iff.mp hd;obtain⟨b,_,rfl,f6,eu⟩:=P2 (q:=(q,cnt v.cur (-9) 99 q)) cf;have Z:=cu q (XB eq);refine⟨b,_,rfl,a8.eQ f6,rfl,_,_,rfl,_,_,rfl,rfl,?_⟩;refine⟨_,rfl,_,_,rfl,eu.same a8,gq Z.1 Z.2.2,_,rfl,(by show 2<=Yb0;decide),λtq fo=>?_⟩;have bz:D≠tq:=λz=>by lia
    have sT:=ab.new (o:=.tup [.str (gB (aD q)),.int (cnt v.cur (-9) 99 q:Nat)]) fo;refine⟨_,sT _ _ a4,small (by rw[XA];lia),_,aa,⟨_,_,rfl⟩,ar hD (a8.trans sT),as++[tq],by simp,by simp_all,λj a q' h1 h2=>?_⟩;by_cases hj:j<as.length
    ·rw[Yp hj]at h1;have h3:=cj j a q' h1 h2;rw[ao λz=>by rw[z,a4]at h3;cases h3];exact sT _ _ h3
    ·have fk:=ba h1;rw[XI,XZ]at fk;have ej:j=i:=by lia
     rw[ej,eq]at h2;rw[ej,Yw (by lia),QG,ZP]at h1;cases h1;cases h2;rw[ao bz.symm];exact aa
   obtain⟨_,a8,as,rfl,QG,cj⟩:=q;refine⟨D,as,(v.cur.bs++v.cur.fs).map λq=>(gB (aD q),.int (cnt v.cur (-9) 99 q:Nat)),rfl,Sn,by rw[XA];lia,by rw[XA];lia,λi b kv h1 h2=>?_,λpd eg=>?_⟩
   ·grind
   have sD:=ab.new (o:=.dK (o6 [] (((v.cur.bs++v.cur.fs).map λq=>(gB (aD q),V.int (cnt v.cur (-9) 99 q:Nat))).map λkv=>((Sum.inr kv.1:Key),kv.2)))) eg;have Fi:=KI.trans (a8.trans sD);have Jn:=av P6 (a8.trans sD);have el:ps∈v.cur.bs++v.cur.fs:=XU.mpr (.inl (eb.mem_iff.mp b6));refine⟨_,rfl,_,_,rfl,ah.same Fi,gq c4.1 c4.2.2,_,.int 0,rfl,?_,?_⟩
   ·have e:=vT (z:=gB (aD ps)) (v:=.int 0) ((v.cur.bs++v.cur.fs).map λq=>(gB (aD q),V.int (cnt v.cur (-9) 99 q:Nat))) [] (λkv f9 ek=>?_) (.inr ⟨_,XE.mpr ⟨ps,el,rfl⟩,rfl⟩)
    ·rw[<-e];exact GH.k (k:=Sum.inr (gB (aD ps))) aa
    ·obtain⟨q,Z,rfl⟩:=XE.mp f9;rw[JR (cu q Z).1 c4.1 ek];rw[J4 N eo];rfl
   refine⟨rfl,_,rfl,?_⟩;rw[Yb4 rfl];refine aX ?_;generalize upd aw pd _=H18 at Fi Jn ⊢;clear sD eg cj QG Sn a8 fj f7 b5 P6 hD KI Pw az fb JD AX;refine⟨_,rfl,g,b1,_,rfl,Fi _ _ ai,rfl,_,rfl,B,g,pa,tb,v,.ref xa,ps,rfl,vq Fi,ah.same Fi,el,DN N eo,λ_ ft dz dO=>?_⟩;refine⟨_,rfl,(f.length:Int),rfl,by lia,by lia,λD3 da=>?_⟩;refine eP (λi ac G X=>(∃u,G=[u])/\ab ft X/\ay K (wo D3 X) ac (UF i (.list []))) aa ⟨⟨_,rfl⟩,ab.new da,.nil⟩ (λi ac G X hi a4 q=>?_) (λac G X N1 q=>?_)
   ·obtain⟨M,J,dn⟩:=q;apply cY M;clear M;intro u;have Wg:ac.length=i:=by rw[dn.length,Zt]
    refine bZ ⟨XT _,λe he=>?_⟩;have bz:D3≠e:=λz=>by lia
    have sE:=ab.new (o:=.lst []) he;refine⟨_,sE _ _ a4,small (by lia),_,aa,⟨_,rfl⟩,ar da (J.trans sE),?_⟩;rw[Zd];refine(dn.same λc o h=>?_).append (.cons (.lst (.of (by rw[aq bz.symm,ao bz.symm];exact aa)) .nil) .nil)
    grind [aZ,aq,ao]
   obtain⟨_,J,dn⟩:=q;rw[show((f.length:Int)).toNat=(hPl ps ps.length).length by lia]at dn;refine⟨_,_,dO.same J,.lst (.of N1) (dn.same bc),Ki _,?_⟩;rw[GR];exact k _ ((Fi.trans dz).trans J) (av (av Jn dz) J)
def xl (K:Vzz) (P:Yau):Sp:=λvs H Q _=>∃(a:Yau) (ns:List Int),vs=[.ref a]/\SqL K H a (ns.map V.int)/\ns.length<=63/\cD P H/\∀H',Q (.bl true) H'
theorem MV {lo hi:Option Int}{x:V} (h:x∈ki xs lo hi):x∈xs:=by
 first
  | exact List.mem_of_mem_drop (YT h)
  | exact YT (List.mem_of_mem_drop h)
theorem Nn:(ki xs (some 1) (some 9)).length<=8:=by
 unfold ki;have a:HT.sIx xs.length 0 (some 1)=min 1 xs.length:=HT.qF xs.length 0 1;have b:HT.sIx xs.length xs.length (some 9)=min 9 xs.length:=HT.qF xs.length xs.length 9;rw[a,b,X4,Y1];lia
theorem F4 {N:St->Hp->Prop}{G:Prop} (Pre:St->Hp->Prop) (rest:∀σ H,Pre σ H->N σ H) (f:(∀σ H,Pre σ H->N σ H)->G):G:=f rest
theorem yS (h:Dk H d n) (k:∀o,H d=some o->H' d=some o):Dk H' d n:=by
 obtain⟨a,b,c,e,r⟩:=h;exact⟨a,b,c,k _ e,r⟩
theorem PQ {x:V}{m:Kq×Nat} (h:Den K H x (mvD m)):∃(t:Yau) (y1 y2:V),x = .ref t/\SqT K H t [y1,y2,.int (m.2:Int)]/\Den K H y1 (aD m.1.1)/\Den K H y2 (aD m.1.2):=by
 cases h with
 | tup c t=>
  cases t with
  | cons a t=>cases t with
   | cons b t=>cases t with
    | cons d t=>cases t;cases d;exact⟨_,_,_,rfl,c,a,b⟩
theorem Mi (h:Den K H v (.list ds)):∃a xs,v = .ref a/\SqL K H a xs/\ay K H xs ds:=by
 cases h with
 | lst hq t=>exact⟨_,_,rfl,hq,t⟩
theorem Jc {l:List (Kq×Nat)}{x:V} (h:ay K H xs (l.map mvD)) (hx:xs[i]? = some x):∃m,l[i]? = some m/\Den K H x (mvD m):=by
 obtain⟨d,a,b⟩:=h.get hx;rw[XM]at a;obtain⟨m,e,rfl⟩:=Option.map_eq_some_iff.mp a;exact⟨m,e,b⟩
theorem L0 [DecidableEq κ] {ks:List κ}{k:κ} (h:k∈ks):1<=Qt ks k:=List.count_pos_iff.mpr h
theorem Mn [DecidableEq κ] {ks:List κ}{k:κ}:Qt ks k<=ks.length:=List.count_le_length
theorem LZ {ks:List Kq}{l:List (Kq×Nat)} (h:qu ks l) {m:Kq×Nat} (c:m∈l):m.2<=ks.length/\l.length<=ks.length:=by
 have d:∀x∈l,1<=x.2:=λx b=>by
  rw[h.cn x b];exact L0 ((h.mem x.1).mp (XE.mpr ⟨x,b,rfl⟩))
 have g:=h.sum;have f:∀(l:List (Kq×Nat)),(∀x∈l,1<=x.2)->l.length<=(l.map (·.2)).sum:=λl=>by
  induction l with
  | nil=>intro _;exact XD _
  | cons a r e=>
   intro q;have:=e λx b=>q x (XF _ b);have:=q a (XC ..);rw[XS,YC,XX];lia
 have:=f l d;have i:m.2<=ks.length:=by rw[h.cn m c];exact Mn
 lia
theorem Iz {ks:List Kq}{l:List (Kq×Nat)} (h:qu ks l):l.length<=ks.length:=by
 cases l with
 | nil=>exact XT _
 | cons a r=>exact(LZ h (XC ..)).2
def swD (m:Kq×Nat):Yaz:=.tuple [aD m.1.2,aD m.1.1,.int (m.2:Int)]
theorem OO {l:List (Kq×Nat)}{x:V} (h:ay K H xs (l.map swD)) (hx:xs[i]? = some x):∃m,l[i]? = some m/\Den K H x (swD m):=by
 obtain⟨d,a,b⟩:=h.get hx;rw[XM]at a;obtain⟨m,e,rfl⟩:=Option.map_eq_some_iff.mp a;exact⟨m,e,b⟩
theorem Mo (v:StV) (p:Qqs):(BF v (-9) 99 p).depth<=92:=by
 have h1:=bY p;simp only[BF,ZT,Z3];lia
theorem rY {f:α->Yaz}{l:List α} (h:∀x∈l,(f x).depth<=n):(PyData.list (l.map f)).depth<=n+1:=by
 have:Z3 (l.map f)<=n:=bJ _ λd b=>by
  obtain⟨x,a,rfl⟩:=XE.mp b;exact h x a
 simp only[ZT];lia
theorem GG (v:StV) (d:Qqr):(J2 v d).depth<=100:=by
 have e:=rY (l:=v.bs++v.fs) (f:=aD) (n:=90) λp _=>bY p;have g:=rY (l:=d) (f:=aD) (n:=90) λp _=>bY p;have h:=rY (l:=v.bs++v.fs) (f:=BF v (-9) 99) (n:=92) λp _=>Mo v p;unfold J2;generalize(PyData.list ((v.bs++v.fs).map aD))=a at e ⊢;generalize(PyData.list (d.map aD))=b at g ⊢;generalize(PyData.list ((v.bs++v.fs).map (BF v (-9) 99)))=c at h ⊢;simp only[ZT,Z3];lia
theorem fk:ax ["script","deck","sieve","log","twin","lines","line","hand","cell","pattern","before","turned"] ["script"] (ae (top 68)):=fsc
theorem Pm (F:Fun K "law" "law" (top 68) A.Od A.N7) (T:Tx K mg A):d6 P w K mg base CX0 26 A.Od A.N7 ["script"] (xl K A.ap):=by
 have kh:OkN T.iz mg P w base 24 (o8 K A):=(zL T).mono (by decide);have rW:OkM T.jW mg P w base 25 (pG K A):=(zQ T).mono (by decide);have oo:OkM T.lc mg P w base 25 (tP K A):=(BC T).mono (by decide);have jR:OkM T.cg mg P w base 25 (jB K A):=(c7 T).mono (by decide);have qa:OkM T.iH mg P w base 25 (nC K A):=(xA T).mono (by decide);have zD:OkM T.gG mg P w base 25 (dA K A):=(vO T).mono (by decide);have iQ:OkM T.gG mg P w base 23 (dA K A):=(vO T).mono (by decide);refine F.ok fk (λvs H Q E h=>?_) (λ_ _ _ s H vs Q E N h=>?_)
 ·obtain⟨a,ns,rfl,_⟩:=h;rfl
 ·obtain⟨a,ns,rfl,O3,hn,ix,k⟩:=h;refine⟨_,af (aV (i:=1) fk.nd rfl (Or.inl rfl) (aY T.kL (nQ T) N (ag (fj K (bU (r:=qX K) kH (pv 0) (br (pa1 ak))) ak) (pa1 ak))))
   (af (aV (i:=2) fk.nd rfl (Or.inl rfl) (aY T.ml (vf T) N (pa1 (pv 1))))
   (af (aV (i:=3) fk.nd rfl (Or.inl rfl) (nX T.CD kh N (by rfl) T.Af T.iz.bd .nil bu (pa1 (pv 2))))
   (af (aV (i:=4) fk.nd rfl (Or.inl rfl) (nX T.CD kh N (by rfl) T.Af T.iz.bd .nil bu (pa1 (pv 2))))
   (af (aV (i:=5) fk.nd rfl (Or.inl rfl) (aY T.md (vh T) N (ag (pv 1) (pa1 ak))))
   (af (gQ UO rfl (aI (pv 5)) (pn 6 fk.nd) (af (bV (cO (pv 3) T.aA T.ph rW N T.jW.bd .nil bu (ag ak (pa1 (pv 6)))))
   (aj (bV (cO (pv 4) T.aA T.ph rW N T.jW.bd .nil bu (ag ak (pa1 (pv 6))))))))
   (af (aV (i:=7) fk.nd rfl (Or.inl rfl) (br dG))
   (af (gQ UO rfl (aI (QR (iN (r:=Ka K) qV (pv 0) (jh ak) (jh ak)) (iw (br (pa1 ak))))) (pn 8 fk.nd) (af (aV (i:=1) fk.nd rfl (Or.inl rfl) (aY T.kL (nQ T) N (ag (pv 8) (pa1 ak))))
   (af (aV (i:=9) fk.nd rfl (Or.inl rfl) (aY T.i8 (qA T) N (ag (pv 1) (pa1 (fj K (bU (r:=qX K) kH (pv 5) (br (pa1 (aY T.kR (mR T) N (ag (pv 1) (pa1 ak)))))) (aY T.aT (aK T) N (ag (pv 1) (pa1 (bU gR (aE (r:=cZ K) aS (by rfl) T.cM Z8 (pa1 (pv 5))) ak)))))))))
   (af (bg ((pw_and (bp (r:=yw K) (jT N) (dW (pv 3) T.aA T.cH jR N T.cg.bd .nil bu) (br dG)) (pw_and1 (bp gE (aY T.aT (aK T) N (ag (pv 1) (pa1 ak))) ak))).pt) (aj (aV (i:=9) fk.nd rfl (Or.inl rfl) (fj K (dW (pv 3) T.aA T.cH jR N T.cg.bd .nil bu) (EN yx ak)))) aG)
   (aj (bg (ju (r:=zm K true) (k5 N) (pv 9) (pv 7) (by rfl)) (af (aV (i:=10) fk.nd rfl (Or.inl rfl) (aY T.kZ (mT T) N (ag (pv 3) (pa1 (aE (r:=cZ K) aS (by rfl) T.cM Z8 (pa1 (pv 5)))))))
   (af (bV (cO (pv 3) T.aA T.lY oo N T.lc.bd .nil bu (pa1 (pv 9))))
   (af (bg (bp (r:=Qd A.aF (dA K A)) (HH T.fJ zD N T.gG.bd) (pv 3) (pv 4)) (aj (au fA)) aG)
   (af (bg (fC (b7 (aY T.gA (nM T) N (ag (pv 3) (ag (pv 5) (ag (bU (r:=qX K) kH (pv 7) (br (pa1 (pv 9)))) (ag (pv 2) (pa1 (pv 9))))))))) (aj (au fA)) aG)
   (af (gb (i:=11) (N':=["old","new","many"]) (n:=3) (fi:=[]) (g:=oz K 3 (c5 (bf 0) (c5 (bf 1) (c5 (bf 2) oF)))) fk.nd rfl (Or.inl rfl) rfl (bX (ae (top 68)) ["script","deck","sieve","log","twin","lines","line","hand","cell","pattern","before","turned"] (by decide +kernel)) (aI (dW (pv 3) T.aA T.mV qa N T.iH.bd .nil bu)) (λs H fp=>dC rfl (aL (aM (i:=0) (show(["old","new","many"]:Qqv).Nodup by decide +kernel) rfl (Or.inl rfl) (.inr rfl)) (aL (aM (i:=1) (show(["old","new","many"]:Qqv).Nodup by decide +kernel) rfl (Or.inl rfl) (.inr rfl)) (aL (aM (i:=2) (show(["old","new","many"]:Qqv).Nodup by decide +kernel) rfl (Or.inl rfl) (.inr rfl)) cE)))) (λs H fp=>cy) (λs H fp=>cB (ag (pv 1) (ag (pv 0) (pa1 (pv 2))))))
   (af (bV (cO (pv 3) T.aA T.AQ ((yY T).mono (by decide)) N T.tm.bd .nil bu (pa1 (pv 9))))
   (af (bg ((pw_or (bp (r:=yw K) (jT N) (aY T.kZ (mT T) N (ag (pv 3) (pa1 (aE (r:=cZ K) aS (by rfl) T.cM Z8 (pa1 (pv 5)))))) (pv 10)) (pw_or (bp (r:=FG K A.aF (dA K A)) (rQ T.fJ T.rg iQ N T.gG.bd) (pv 3) (pv 4)) (pw_or1 (bp (r:=FG K A.aF (dA K A)) (rQ T.fJ T.rg iQ N T.gG.bd) (pv 4) (pv 3))))).pt) (aj (au fA)) aG)
   (af (bg (bp (r:=yw K) (jT N) (aE (r:=yV K) (fY N) (by rfl) T.fm gr (pa1 (pcm ["row"] [] (ae (top 68)) ["script","deck","sieve","log","twin","lines","line","hand","cell","pattern","before","turned"] (aI (pv 11)) (λs H fp=>bI (r:=Bv K) (gp N) (by rfl) T.pe k7 (pa1 (pv 0)))))) (aE (r:=yV K) (fY N) (by rfl) T.fm gr (pa1 (pcm ["row"] [] (ae (top 68)) ["script","deck","sieve","log","twin","lines","line","hand","cell","pattern","before","turned"] (aI (dW (pv 3) T.aA T.mV qa N T.iH.bd .nil bu)) (λs H fp=>bI (r:=Bv K) (gp N) (by rfl) T.pe k7 (pa1 (pv 0))))))) (aj (au fA)) aG)
   (aj (bg (bp gE (aY T.aT (aK T) N (ag (pv 1) (pa1 ak))) ak) (af (bV (cO (pv 3) T.aA T.lY oo N T.lc.bd .nil bu (pa1 (pv 9))))
   (af (bV (cO (pv 4) T.aA T.lY oo N T.lc.bd .nil bu (pa1 (pv 9))))
   (aj (bV (fc ZU Ws WF d7 (pv 7) (pa1 (pv 9))))))) aG)))))))))) aG))))))
   (aj (au (gY (iF (r:=Qd A.aF (dA K A)) (HH T.fJ zD N T.gG.bd) (pv 3) (pv 4)) (gY (iF (r:=FG K A.aF (dA K A)) (rQ T.fJ T.rg iQ N T.gG.bd) (pv 3) ak) (gY (iF (r:=FG K A.aF (dA K A)) (rQ T.fJ T.rg iQ N T.gG.bd) (pv 3) aH) (iw (iF (r:=FG K A.aF (dA K A)) (rQ T.fJ T.rg iQ N T.gG.bd) (pv 3) (nX T.CD kh N (by rfl) T.Af T.iz.bd .nil bu (pa1 (cB (ag (bU Cj ak (iT K (pv 2) ak)) (pa1 (iT K (pv 2) ak)))))))))))))))))))),?_⟩
  refine⟨_,rfl,(by decide),λp hp=>⟨a,p,_,_,rfl,rfl,(ab.new hp).seq O3,.of aa,?_,λq hq=>?_⟩⟩
  ·rw[XA];exact XG (Zc hn 1) (by decide)
  have sq:ab H (upd (upd H p (.lst [.int 0])) q (.lst (ns.map V.int++[V.int 0]))):=(ab.new hp).trans (ab.new hq);have dw:(upd (upd H p (.lst [.int 0])) q (.lst (ns.map V.int++[V.int 0]))) q=some (.lst (ns.map V.int++[V.int 0])):=aa;generalize upd (upd H p (.lst [.int 0])) q (.lst (ns.map V.int++[V.int 0]))=H1 at sq dw ⊢;obtain⟨c0,k2⟩:∃c0:Int,atI (ns.map V.int++[V.int 0]) 0=some (.int c0):=by
   cases ns with
   | nil=>exact⟨0,rfl⟩
   | cons c r=>exact⟨c,d5 (j:=0) rfl⟩
  have ez:=av ix sq;obtain⟨_,Ob⟩:=aN ez;have a7:=xE Ob (sq.seq O3);have cb:wo A.ap H1 A.ap=none:=eM;have df:ab (wo A.ap H1) H1:=bc;refine⟨q,_,0,_,rfl,rfl,.of dw,k2,c0,0,rfl,by decide,λd _ hd s2 f7=>?_⟩;generalize wo A.ap H1=W at a7 cb df;have ia:=df.trans s2;have f9:=df.free hd;have h5:=av ez s2;clear dw hq hp sq hd ix O3 s2 df ez Ob;obtain⟨_,i4⟩:=f7.lst;refine⟨_,rfl,d,_,rfl,f7,by decide,λSV sv lv H3 ja s3 ef cz=>?_⟩;have eg:=fH h5 i4 s3;have bk:ab W H3:=(hJ f9 ia).trans s3;obtain⟨_,as⟩:=ef.lst;clear h5 s3 i4 ia ja f7;refine⟨_,rfl,λg dx hg S a3=>?_⟩;obtain⟨_,eq,sg,iv⟩:=rR A.aF hg S a3;rw[eq];obtain⟨_,EI⟩:=aN (av eg sg);refine⟨g,SV,dx,sv,lv,rfl,iv,.of (sg _ _ cz),av eg sg,λH5 B pa tb b9 s5 cx fb e0 gc e1 e2 bW=>⟨rfl,?_⟩⟩;have b4:ab W H5:=λc o e=>s5 _ _ (Xf (λz=>by rw[z]at e;rw[bk _ _ e]at hg;cases hg) (nw e cb) (sg _ _ (bk _ _ e)));have fd:∀{c:Yau}{o:HO},H3 c=some o->c≠A.ap->H5 c=some o:=λ{c o} e n=>s5 _ _ (Xf (nw e hg) n (sg _ _ e));have d0:d≠A.ap:=λz=>by have:=sg _ _ as;rw[z,EI]at this;cases this
  have hk:SV≠A.ap:=λz=>by have:=sg _ _ cz;rw[z,EI]at this;cases this
  have ai:=fd as d0;have ht:Dk H5 d 3:=yS ef λu e=>fd e d0;have dp:=fd cz hk;have hs:=gc _ _ (sg _ _ as) (.inl ⟨_,rfl⟩);have f5:=gc _ _ EI (.inr (.inr ⟨_,rfl⟩));have f1:W g=none/\W pa=none/\W tb=none:=⟨bk.free hg,bk.free (sg.free fb),bk.free (sg.free e0)⟩;have dg:d≠g/\d≠pa/\d≠tb:=⟨(nw as hg),(λz=>by have:=sg _ _ as;rw[z,fb]at this;cases this),λz=>by have:=sg _ _ as;rw[z,e0]at this;cases this⟩;clear fd gc e0 fb s5 sg iv eq a3 S hg EI cz as ef eg bk;refine⟨_,rfl,λh dy hh fv a3=>?_⟩;obtain⟨_,eq,sh,c1⟩:=rR A.aF hh fv a3;rw[eq];obtain⟨_,Jo⟩:=aN (av cx sh);obtain⟨⟨_,_,_,b6⟩,⟨_,EY⟩,⟨_,xN⟩,cv⟩:=bW.ats;refine⟨h,SV,dy,sv,lv,rfl,c1,.of (sh _ _ dp),av cx sh,λH6 C pb tc GO s6 fe dr dv gc e3 e4 qZ=>⟨rfl,?_⟩⟩;have gs:h≠A.ap:=λz=>by rw[z]at c1;rw[Jo]at c1;cases c1
  have st:Still [h,A.ap] H5 H6:=λc o n e=>by
   simp only[XQ,Yi,or_false,not_or]at n;exact s6 _ _ (Xf n.1 n.2 (sh _ _ e))
  have nh:∀{c:Yau}{o:HO},H5 c=some o->c≠h:=λ{c o} e z=>by rw[z,hh]at e;cases e
  have nb:∀{c:Yau}{o:HO},H5 c=some o->c≠pb:=λ{c o} e z=>by rw[z,sh.free dr]at e;cases e
  have nc:∀{c:Yau}{o:HO},H5 c=some o->c≠tc:=λ{c o} e z=>by rw[z,sh.free dv]at e;cases e
  obtain⟨_,d8⟩:=aN cx;obtain⟨_,gh⟩:=aN fe;obtain⟨p1,p2,p3⟩:=bW.neT d8;have gi:=st _ _ (by simp[nh ai,d0]) ai;have fh:Dk H6 d 3:=yS ht λu e=>st _ _ (by simp[nh ai,d0]) e;have il:=st _ _ (by simp[nh dp,hk]) dp;have gv:ab W H6:=λc o e=>st _ _ (by simp only[XQ,Yi,or_false,not_or];exact⟨nh (b4 _ _ e),nw e cb⟩) (b4 _ _ e);have m1:=gc _ _ Jo (.inr (.inr ⟨_,rfl⟩));have m2:=gc _ _ (sh _ _ ai) (.inl ⟨_,rfl⟩);have m3:=gc _ _ (sh _ _ b6) (.inr (.inl ⟨_,_,_,rfl⟩));have m4:=gc _ _ (sh _ _ EY) (.inl ⟨_,rfl⟩);have m5:=gc _ _ (sh _ _ xN) (.inl ⟨_,rfl⟩);have b:I22 K A.aF A.aJ [A.ap,d] W B C H6 g pa tb h pb tc ⟨sv,lv,b9,b9,[],[]⟩ ⟨sv,lv,GO,GO,[],[]⟩:=by
   refine⟨⟨gv,λc hc=>?_⟩,λc hc=>?_,iE bW st (λc hc=>?_) (by simp[nh b6,Ya4 p1]) (by simp[nh EY,Ya4 p2]) (by simp[nh xN,Ya4 p3]),qZ,λc hc=>?_,λc hc=>?_,λc hc=>?_,λc hc=>?_⟩
   all_goals simp only[XU,XQ,Yi,or_false]at hc
   ·rcases hc with(z | z) | z | z | z | z | z | z <;> subst z
    ·exact cb
    ·exact f9
    ·exact f1.1
    ·exact f1.2.1
    ·exact f1.2.2
    ·exact b4.free hh
    ·exact b4.free (sh.free dr)
    ·exact b4.free (sh.free dv)
   ·rcases hc with z | z <;> subst z
    ·exact⟨_,gh,.inr (.inr ⟨_,rfl⟩)⟩
    ·exact⟨_,gi,.inl ⟨_,rfl⟩⟩
   ·rcases hc with z | z <;> subst z
    ·exact cv.free hh
    ·exact f5
   ·rcases hc with(z | z) | z | z | z <;> subst z
    ·exact f5
    ·exact hs
    ·exact cv.free hh
    ·exact cv.free (sh.free dr)
    ·exact cv.free (sh.free dv)
   ·rcases hc with(z | z) | z | z | z <;> subst z
    ·exact m1
    ·exact m2
    ·exact m3
    ·exact m4
    ·exact m5
   ·rcases hc with z | z <;> subst z
    ·simp[p1,p2,p3,gs.symm,nb d8,nc d8]
    ·simp[dg,nh ai,nb ai,nc ai]
   ·rcases hc with z | z | z <;> subst z
    ·simp[nh b6,nb b6,nc b6]
    ·simp[nh EY,nb EY,nc EY]
    ·simp[nh xN,nb xN,nc xN]
  clear dg m1 m2 m3 m4 m5 gv p1 p2 p3 gh d8 nc nb nh st gs gc dv dr s6 xN EY b6 cv Jo c1 sh eq a3 fv hh f1 hs f5 ai ht dp gi b4 cx bW qZ f9 cb;obtain⟨b,O⟩:=b.hold;have G:=b.tup il;have a7:=O.seq a7;generalize outs ([A.ap,d]++[g,pa,tb,h,pb,tc]) H6=W2 at b G a7;clear O il;refine⟨_,rfl,d,30,_,rfl,fh,by decide,by decide,by decide,λZ zs H7 hZ s7 gk g7 ih bz=>?_⟩;have l0:zs.length<=30:=bz;obtain⟨yd,fy⟩:=fh.lst;obtain⟨k3,RP⟩:=gk.lst;have h7:=fH fe fy s7;have hj:=b.wr (by simp) s7 RP (.inl ⟨_,rfl⟩);have t:=b.at hZ g7;obtain⟨b,O⟩:=hj.hold;have G:=O _ _ G;have a7:=O.seq a7;generalize outs ([A.ap,d]++[g,pa,tb,h,pb,tc]) H7=W3 at b G a7 t;clear O g7 s7 hZ bz hj k3 RP fy yd fh fe;have je:b9=GO:=b.lv.okc.unique b.lu.okc (e1.trans e3.symm) (e2.trans e4.symm);subst je;refine⟨_,rfl,Z,rfl,⟨_,.of (b.kp.s _ _ t)⟩,?_⟩;refine iI (K:=K) (xs:=zs.map V.str) (λi σ H8=>(∃u6,σ=[some (.ref a),some (.ref d),some (.ref SV),some (.ref g),some (.ref h),some (.ref Z),u6,none,none,none,none,none])/\∃(B C:Hp) (tb tc:Yau) (v u:eD),I22 K A.aF A.aJ [A.ap,d] W3 B C H8 g pa tb h pb tc v u/\cD A.ap H8/\v.s=sv/\v.l=lv/\u.s=sv/\u.l=lv/\u.cur=v.cur/\v.cur.bs=[]/\v.cur.rs=(zs.take i).map (λz=>((3:Int),z))/\v.past.length=i/\u.past.length=i) ⟨⟨_,rfl⟩,B,C,tb,tc,_,_,b,h7,rfl,rfl,rfl,rfl,rfl,e2,e1,rfl,rfl⟩ (λi σ H8 _ q=>.of (by obtain⟨_,_,_,_,_,_,_,h,_⟩:=q;exact h.kp.s _ _ t)) (λi x σ H8 hx q=>?_) (λσ H8 q=>?_)
  ·clear b;obtain⟨q0,B,C,tb,tc,v,u,b,d3,es,el,X,Y,J,b8,U,b3,yJ⟩:=q;apply cY q0;clear q0;intro u6;obtain⟨y,hy,rfl⟩:=ee hx;have hi:=ba hy;obtain⟨ax,t1,g8,i5,b2⟩:=b.lv.gg;have l3:v.cur.rs.length=i:=by rw[U,XA,X4];lia
   have DI:∀q,v.cur.rs.getLast? = some q->q.1<=3:=λq hq=>by
    have hq:=List.mem_of_getLast? hq;rw[U]at hq;obtain⟨z,_,rfl⟩:=XE.mp hq;exact Int.le_refl _
   have i0:=ih y (XB hy);refine⟨_,rfl,g,ax,_,rfl,b2,rfl,_,rfl,B,g,pa,tb,v,3,y,rfl,b.lv,(b.bP (by simp)).1,i0,by lia,DI,by lia,d3,λH9 B9 js NJ s9 bw j1 _ gc e1 e2 Uv=>?_⟩;obtain⟨_,k4⟩:=aN bw;have b:=b.Gi (P:=A.ap) (by simp) s9 k4 (.inr (.inr ⟨_,rfl⟩)) j1 gc Uv;obtain⟨cn,t2,hb,fw,c3⟩:=b.lu.gg;refine⟨_,rfl,h,cn,_,rfl,c3,rfl,_,rfl,C,h,pb,tc,u,3,y,rfl,b.lu,(b.bP (by simp)).2,i0,by rw[J];lia,by rw[J];exact DI,by lia,bw,λ_ kv Vd HY j5 MY VS _ UD e3 e4 P5=>?_⟩;obtain⟨_,V9⟩:=aN MY;have b:=(b.swap.Gi (P:=A.ap) (by simp) j5 V9 (.inr (.inr ⟨_,rfl⟩)) VS UD P5).swap;have ec:HY=NJ:=by
    have a1:=b.lv.okc;have a2:=b.lu.okc;rw[es,el]at a1;rw[X,Y]at a2;exact a2.unique a1 (by rw[show HY.rs=_ from e3,show NJ.rs=_ from e1,J]) (by rw[show HY.bs=_ from e4,show NJ.bs=_ from e2,J])
   refine⟨⟨_,rfl⟩,B9,kv,js,Vd,_,_,b,MY,es,el,X,Y,ec,e2.trans b8,?_,?_,?_⟩
   ·rw[show NJ.rs=_ from e1,U,XW,hy,XH];rfl
   ·rw[XI,XZ,b3]
   ·rw[XI,XZ,yJ]
  clear b;obtain⟨q0,B,C,tb,tc,v,u,b,d3,es,el,X,Y,J,b8,U,b3,yJ⟩:=q;apply cY q0;clear q0;intro u6;rw[XA,Yk]at U;rw[XA]at b3 yJ;refine⟨XT _,λHD fo=>?_⟩;obtain⟨H9,i2,s9,e9⟩:=cL (.lst []) fo;rw[i2];have b:=(b.sub (fs':=[A.ap]) (by simp)).add fo s9 e9 (.inl ⟨_,rfl⟩);have bw:=av d3 s9;clear i2 s9 fo d3 gk h7;refine⟨λx dm=>∃(Cl:Yau) (cells:Qqt),x = .ref Cl/\dm Cl=some (.lst cells)/\(∀x∈cells,∃c:Int,x = .int c)/\cells.length<=8/\H9 Cl=none/\ab H9 dm,λx dm ⟨Cl,cells,ex,hC,ct,f6,iq,sC⟩=>?_,?_⟩
  case refine_2=>
   refine⟨_,rfl,(1:Int),rfl,(9:Int),rfl,a,_,rfl,b.kp.s.seq a7,λC hC=>?_⟩;have ct:∀x∈ki (ns.map V.int) (some 1) (some 9),∃c:Int,x = .int c:=λx hx=>by
    obtain⟨c,_,rfl⟩:=XE.mp (MV hx);exact⟨c,rfl⟩
   have f6:=Nn (xs:=ns.map V.int);generalize ki (ns.map V.int) (some 1) (some 9)=Pd at ct f6;refine⟨_,.inl ⟨_,.of aa,rfl⟩,?_⟩;by_cases gu:Pd.isEmpty=true
   ·rw[gu];exact aX ⟨(by show 1<=Yb0;decide),λC2 h8=>⟨C2,_,rfl,aa,λx hx=>⟨0,XR.mp hx⟩,by show 1<=8;decide,(ab.new hC).free h8,(ab.new hC).trans (ab.new h8)⟩⟩
   ·rw[X5.mpr gu];exact bN ⟨C,_,rfl,aa,ct,f6,hC,ab.new hC⟩
  refine⟨Cl,ex,⟨_,.of hC⟩,?_⟩;have I:=b.at iq hC;have Qw:=sC _ _ e9;have GN:=av bw sC;obtain⟨b,O⟩:=(b.same sC).hold;have t:=O _ _ t;have G:=O _ _ G;generalize outs ([HD,A.ap]++[g,pa,tb,h,pb,tc]) dm=W4 at b G t I;clear O iq sC hC a7 ex e9 bw;refine iI (K:=K) (xs:=cells) (λi σ b5=>∃(W B C:Hp) (tb tc:Yau) (v u:eD) (hv:Qqt) (bs:Qqr) (u1 u6 u8 u9 u10 u11:Option V),σ=[some (.ref a),u1,some (.ref SV),some (.ref g),some (.ref h),some (.ref Z),u6,some (.ref HD),u8,u9,u10,u11]/\I22 K A.aF A.aJ [HD,A.ap] W B C b5 g pa tb h pb tc v u/\cD A.ap b5/\b5 HD=some (.lst hv)/\ay K W hv (bs.map aD)/\W Z=some (.lst (zs.map V.str))/\W SV=some (.tup [.int sv,.int lv])/\W Cl=some (.lst cells)/\v.s=sv/\v.l=lv/\u.s=sv/\u.l=lv/\u.cur=v.cur/\v.cur.rs=zs.map (λz=>((3:Int),z))/\ow v.cur.bs/\bs.Perm v.cur.bs/\bs.Nodup/\bs.length<=i/\v.past.length<=30+4 * i/\u.past.length<=30+4 * i) ⟨W4,B,C,tb,tc,v,u,[],[],_,_,_,_,_,_,rfl,b,GN,Qw,.nil,t,G,I,es,el,X,Y,J,U,(by rw[b8];exact List.Pairwise.nil),(by rw[b8]),YZ,XD _,by lia,by lia⟩ (λi σ b5 _ q=>.of (by obtain⟨_,_,_,_,_,_,_,_,_,_,_,_,_,_,_,_,h,_,_,_,_,_,h2,_⟩:=q;exact h.kp.s _ _ h2)) (λi x σ b5 hx q=>?_) (λσ b5 q=>?_)
  ·have hi:=ba hx;obtain⟨c,rfl⟩:=ct x (XB hx);clear b Qw GN t G I es el X Y J U b8 b3 yJ hx ct;obtain⟨W,B,C,tb,tc,v,u,hv,bs,u1,u6,u8,u9,u10,u11,rfl,b,la,hH,L,t,G,I,es,el,X,Y,J,U,hko,eb,hnd,hbl,b3,yJ⟩:=q;have c9:=b.lv.okc;refine⟨_,rfl,c,990,rfl,by decide,λe ip he a4 Kj=>?_⟩;obtain⟨_,fq⟩:=Kj.lst;have cp:e≠HD:=nw he hH
   have b:=b.add he a4 fq (.inl ⟨_,rfl⟩);have Gx:=av la a4;have Rb:=a4 _ _ hH;clear he a4 la hH;refine⟨_,rfl,_,rfl,_,rfl,e,3,_,rfl,Kj,by decide,by decide,by decide,λz ws gn a9 N3 cw=>⟨(by show 1<=Yb0;decide),λp hp=>?_⟩⟩;obtain⟨_,Pa⟩:=N3.lst;have PF:=b.wr (by simp) a9 Pa (.inl ⟨_,rfl⟩);have JD:=fH Gx fq a9;have UH:gn HD=_:=cX a9 Rb cp;clear a9 Kj b fq Gx Rb;refine⟨Z,p,_,_,rfl,rfl,.of ((PF.same (ab.new hp)).kp.s _ _ t),.of aa,?_,λq hq=>?_⟩
   ·exact YJ (small (by rw[XA];show _+1<_;lia))
   obtain⟨gd,Up,cs,_⟩:=cL (.lst [.str z]) hp;rw[Up]at hq ⊢;obtain⟨_,Uk,ik,T2⟩:=cL (.lst (zs.map V.str++[V.str z])) hq;rw[Uk];have h9:e≠q:=(N3.same cs).ne hq;have Fn:=cs.trans ik;have P8:=PF.same Fn;have RN:=N3.same Fn;have SA:=av JD Fn;have TB:=Fn _ _ UH;have Uo:=Fn _ _ Pa;clear Up Uk cs ik Fn PF N3 JD UH Pa hq hp;refine⟨_,rfl,_,rfl,Z,_,rfl,.inl (.of (P8.kp.s _ _ t)),_,_,rfl,rfl,e,_,_,rfl,RN,by lia,by lia,by rw[XA];lia,λr ha bq Pn r0 r1=>?_⟩;rw[XA]at r1;have i3:r<((zs++[z]).length:Int):=by rw[XI,XZ];lia
   obtain⟨y,hy,ea⟩:=kK r0 i3;have ko:∃ws,fU 12 y ws:=by
    rcases XU.mp hy with hy | hy
    ·exact ih y hy
    ·rw[XR.mp hy];exact⟨ws,cw.eq,cw.pos,XG cw.le (by decide),cw.wd⟩
   have RC:ha q=_:=cX bq T2 h9;obtain⟨wy,bj⟩:=ko;have fg:=bj.ok (by decide);have jj:=fg.2;obtain⟨_,Mt⟩:=Pn.lst;have Qq:=P8.wr (by simp) bq Mt (.inl ⟨_,rfl⟩);have Jn:=fH SA Uo bq;have Uj:ha HD=_:=cX bq TB cp;refine⟨q,_,r,_,rfl,rfl,.of RC,(by rw[XH]at ea;exact ea),e,y,_,rfl,Pn,by lia,by lia,fg.1,λF fl ps hF c6 Li jg di kr cf=>?_⟩;clear ea i3 r0 r1 hy RC bq RN SA TB Uo P8 T2 h9 cw;obtain⟨_,Td⟩:=Li.lst;have QZ:=Qq.wr (by simp) c6 Td (.inl ⟨_,rfl⟩);have Ro:=fH Jn Mt c6;have Ua:fl HD=_:=cX c6 Uj cp;have dF:=Qq.den (λc o n e'=>c6 _ _ (by rw[aq λz=>by rw[z]at n;exact n _ Mt];exact e')) cf;rw[bj.split]at di;have a8:=Kr bj.wd di;have Pe:ps.length=wy.length:=di.1;have k6:=bj.pos;have jz:=bj.le;have b0:ps≠[]:=λe=>by rw[e]at Pe;simp at Pe;lia
   have uB:ps.length<=12:=by lia
   have Li:Dk fl e 20000:=Li.mono (by lia);obtain⟨b,O⟩:=QZ.hold;have L:=L.same O;have t:=O _ _ t;have G:=O _ _ G;have I:=O _ _ I;generalize outs ([e,HD,A.ap]++[g,pa,tb,h,pb,tc]) fl=W5 at b dF L t G I;clear O QZ Qq k6 jz Pe di cf kr jg c6 hF Mt Uj Jn Pn fg jj bj Td;have c9:=b.lv.okc;have dc:=c9.pws;apply F4 (λσ b1=>∃(W:Hp) (x:V) (ps:Qqs),σ=[some (.ref a),some (.ref e),some (.ref SV),some (.ref g),some (.ref h),some (.ref Z),u6,some (.ref HD),some (.int c),some x,u10,u11]/\I22 K A.aF A.aJ [e,HD,A.ap] W B C b1 g pa tb h pb tc v u/\cD A.ap b1/\b1 HD=some (.lst hv)/\ay K W hv (bs.map aD)/\W Z=some (.lst (zs.map V.str))/\W SV=some (.tup [.int sv,.int lv])/\W Cl=some (.lst cells)/\Dk b1 e 20001/\Den K W x (aD ps)/\PW ps/\ps≠[]/\ps.length<=12)
   case f=>
    intro rest;obtain⟨ax,t1,g8,i5,b2⟩:=b.lv.gg;refine⟨_,rfl,g,ax,_,rfl,b2,rfl,B,g,pa,tb,v,rfl,b.lv,λ_ _ b1 jr gf N1 ho=>⟨XT _,λE hE=>?_⟩⟩;have sE:=ab.new (o:=.lst []) hE;refine⟨_,_,.lst (.of (sE _ _ N1)) ((ho.same bG).same sE),.lst (.of aa) .nil,m6 _,_,rfl,?_⟩;rw[tU];have a0:=gf.trans sE;generalize upd b1 E (.lst [])=H21 at a0 ⊢;have R8:=b.same a0;have Gz:=av Ro a0;have Dx:=a0 _ _ Ua;have BU:=Li.same a0;clear sE hE ho N1 gf jr;cases hem:((v.cur.bs++v.cur.fs).map aD).isEmpty with
    | true=>exact aX (aX (rest _ _ ⟨W5,.ref F,ps,rfl,R8,Gz,Dx,L,t,G,I,BU.mono (by lia),dF,a8,b0,uB⟩))
    | false=>
     obtain⟨k8,Lq⟩:=BU.lst;refine bN ⟨_,rfl,e,3,_,rfl,BU,by lia,by decide,by decide,λr2 ic ah Hc _ _=>⟨rfl,_,rfl,?_⟩⟩;obtain⟨_,Wh⟩:=Hc.lst;have LC:=R8.wr (by simp) ah Wh (.inl ⟨_,rfl⟩);have GP:=fH Gz Lq ah;have Gd:ic HD=_:=cX ah Dx cp;cases h0:decide (V.int r2=V.int 0)with
     | false=>exact aX (rest _ _ ⟨W5,.ref F,ps,rfl,LC,GP,Gd,L,t,G,I,Hc,dF,a8,b0,uB⟩)
     | true=>
      obtain⟨cn,t2,hb,fw,c3⟩:=LC.lv.gg;refine bN ⟨_,rfl,g,cn,_,rfl,c3,rfl,B,g,pa,tb,v,rfl,LC.lv,λD2 eh jy _ a6 VU i1=>?_⟩;have jk:eh.length=(v.cur.bs++v.cur.fs).length:=by rw[i1.length,XA]
      have Wb:eh≠[]:=λz=>by
       have h1:(v.cur.bs++v.cur.fs).length=0:=by rw[<-jk,z];rfl
       rw[Yo h1]at hem;cases hem
      obtain⟨c2,x2,rfl⟩:∃c2 x2,eh=c2++[x2]:=⟨_,_,(Zy Wb).symm⟩;obtain⟨p2,jb,Vn⟩:=c8 i1 (i:=c2.length) (x:=x2) (by simp);have eo:=dc p2 (XB jb);refine⟨1,rfl,D2,_,-1,x2,rfl,rfl,.of VU,D8,?_⟩;obtain⟨Wk,O⟩:=(LC.same a6).hold;exact rest _ _ ⟨_,x2,p2,rfl,Wk,av GP a6,a6 _ _ Gd,L.same O,O _ _ t,O _ _ G,O _ _ I,Hc.same a6,(LC.den (λc o _ e'=>a6 _ _ e') Vn),eo.1,eo.2.1,eo.2.2⟩
   clear b dF L t G I Ro Ua a8 b0 uB Li;rintro σ b1 ⟨W,x,ps,rfl,b,la,hH,L,t,G,I,dk,S,a8,b0,uB⟩;have g0:∀p∈ps,p.ok:=λp hp=>(a8 p hp).okP.1;have sK:=b.kp.s;refine⟨_,rfl,_,rfl,_,_,.lst (.of hH) (L.same sK),S.same sK,XG (bY _) (by decide),_,rfl,?_⟩;rw[Yb7 rfl,kQ (λq hq p hp=>((dc q (XU.mpr (.inl (eb.mem_iff.mp hq)))).1 p hp).okP.1) g0];by_cases BQ:ps∈bs
   ·rw[Yb4 BQ];exact aX ⟨W,B,C,tb,tc,v,u,hv,bs,_,_,_,_,_,_,rfl,b.sub (by simp),la,hH,L,t,G,I,es,el,X,Y,J,U,hko,eb,hnd,by lia,by lia,by lia⟩
   rw[Yb5 BQ];refine bN ?_;have DL:ps∉v.cur.bs:=λz=>BQ (eb.mem_iff.mpr z);have ft:zs.length=v.cur.rs.length:=by rw[U,XA]
   have l1:v.cur.bs.length=bs.length:=eb.length_eq.symm;obtain⟨oa,c4,g5⟩:=c9.obs;refine⟨_,rfl,_,rfl,Z,_,rfl,.inl (.of (sK _ _ t)),B,g,pa,tb,v,oa,(by rw[XA,ft];rfl),b.lv,c4,λ_ H21 hX1 a0 d1=>?_⟩;have dX:=b.den (λc o _ e'=>a0 _ _ e') d1;have Gz:=av la a0;have Dx:=a0 _ _ hH;have BU:=dk.same a0;obtain⟨b,O⟩:=(b.same a0).hold;have L:=L.same O;have t:=O _ _ t;have G:=O _ _ G;have I:=O _ _ I;have S:=S.same O;generalize outs ([e,HD,A.ap]++[g,pa,tb,h,pb,tc]) H21=W6 at b dX L t G I S;clear O dk hH la d1 a0 hX1 sK;obtain⟨jx,_,_,_,i9⟩:=b.lv.gg;refine⟨_,rfl,g,jx,_,rfl,i9,rfl,_,rfl,B,g,pa,tb,v,x,ps,rfl,b.lv,(b.bP (by simp)).1,S.same b.kp.s,a8,b0,uB,DL,by lia,by lia,Gz,λic da JQ mY ah GP S9 _ gc e1 e2 ka Oa=>?_⟩;obtain⟨_,QH⟩:=aN Gz;obtain⟨_,RQ⟩:=aN GP;obtain⟨k8,Lq⟩:=BU.lst;have et:e≠A.ap:=nw Lq QH
   have cj:HD≠A.ap:=nw Dx QH
   have Gd:=b.stays (P:=A.ap) (by simp) cj ah Dx;have Hc:=yS BU λo e'=>b.stays (P:=A.ap) (by simp) et ah e';have b:=b.Gi (P:=A.ap) (by simp) ah RQ (.inr (.inr ⟨_,rfl⟩)) S9 gc Oa;have j6:=e2.length_eq;rw[XI,XZ]at j6;clear ah gc S9 Oa Dx BU Gz Lq QH i9 RQ;obtain⟨jo,_,_,_,ij⟩:=b.lv.gg;obtain⟨kz,t5,kn,jc,i7⟩:=b.lu.gg;have hN:=Ou (v:=⟨v.s,v.l,mY,v.cur,v.past++[(v.cur.rs,v.cur.bs)],[]⟩) (w:=u) (.inr (.inr (by show mY.bs.length≠u.cur.bs.length;rw[J];lia)));unfold eqE at hN;refine⟨_,rfl,_,rfl,g,h,jo,_,kz,_,rfl,rfl,ij,i7,.inl ⟨da,C,g,pa,JQ,h,pb,tc,_,u,rfl,b.lv,b.lu,_,rfl,_,rfl,?_⟩⟩;rw[hN];refine aX ?_;clear hN ij i7;refine⟨_,rfl,_,rfl,_,rfl,_,rfl,(by show 1<=Yb0;decide),λp hp=>?_⟩;obtain⟨jy,UN,a6,Tu⟩:=cL (.lst [x]) hp;rw[UN];have kx:hv.length=bs.length:=by rw[L.length,XA]
   refine⟨HD,p,hv,[x],rfl,rfl,.of (a6 _ _ Gd),.of Tu,YJ (small (by rw[kx];show _+1<_;lia)),λq hq=>?_⟩;obtain⟨_,Sx,fx,SM⟩:=cL (.lst (hv++[x])) hq;rw[Sx];have JU:=a6.trans fx;have Je:=b.same JU;have Uh:=av GP JU;have Uq:=JU _ _ Gd;have Rv:=Hc.same JU;clear Sx UN fx a6 Tu hq hp JU b GP Gd Hc;have sK:=Je.kp.s;have ig:(bs++[ps]).Perm mY.bs:=(eb.append_right _).trans e2.symm;have ky:mY.zZ=zs:=by unfold StV.zZ;rw[e1,U,Yg];exact List.map_id _
   refine⟨_,rfl,_,rfl,da,g,pa,JQ,Z,q,SV,_,hv++[x],bs++[ps],x,ps,rfl,Je.lv,(Je.bP (by simp)).1,(by show _=some (HO.lst (mY.zZ.map V.str));rw[ky];exact sK _ _ t),SM,?_,ig,?_,?_,?_,S.same sK,by simp,?_,Uh,λaw dt Pz=>⟨_,rfl,aX ?_⟩⟩
   ·rw[XH];exact(L.same sK).append (.cons (S.same sK) .nil)
   ·rw[Zr];exact⟨hnd,by simp,λy hy z hz e'=>BQ (by rw[XR.mp hz]at e';rw[<-e'];exact hy)⟩
   ·rw[XI,XZ];lia
   ·rw[es,el];exact .of (sK _ _ G)
   ·show mY.rs.length<=40;rw[e1,<-ft];lia
   have E5:=Je.wr (by simp) dt (aN Pz).choose_spec (.inr (.inr ⟨_,rfl⟩));have QX:=yS Rv λo e'=>dt _ _ (Xe et e');have Rx:aw HD=_:=dt _ _ (Xe cj Uq);clear Je sK dt Uh Uq Rv SM;have Po:=E5.lv.okc;obtain⟨ob,ep,g4⟩:=Po.obs;have S7:=Po.pws;have jd:oa.length=v.cur.rs.length:=by rw[<-c9.len,c4,XA]
   have fa:∀q∈oa,POk q:=λq hq=>dc.pok (g5 q hq);have en:∀q∈ob,POk q:=λq hq=>S7.pok (g4 q hq);obtain⟨jf,t6,k1,j4,ir⟩:=E5.lv.gg;refine⟨_,rfl,g,jf,_,rfl,ir,rfl,da,g,pa,JQ,_,oa,ob,rfl,E5.lv,c4,ep,fa,en,by lia,λM xs gq l hM dh OG dM mv=>⟨M,rfl,⟨_,.of OG⟩,λTL cm=>?_⟩⟩;have hl:xs.length=l.length:=by rw[dM.length,XA]
   have bz:=Iz mv;rw[YD]at bz;have OB:aw TL=none:=dh.free cm;refine aB (K:=K) (xs:=xs) (λi R σ a5=>(∃u w y,σ=[u,w,y])/\ab gq a5/\ay K (wo TL (lim aw a5)) R ((l.take i).map swD)) aa ⟨⟨_,_,_,rfl⟩,ab.new cm,.nil⟩ (λi R σ a5 _ _ q=>.of (q.2.1 _ _ OG)) (λi y R σ a5 hy be q=>?_) (λR σ a5 Og q=>?_)
   ·obtain⟨⟨w1,w2,w3,rfl⟩,az,dn⟩:=q;have hi:=ba hy;obtain⟨m,em,bo⟩:=Jc dM hy;obtain⟨tp,y1,y2,rfl,jl,kb,kl⟩:=PQ bo;have Wg:R.length<=i:=by rw[dn.length,XA,X4];lia
    refine⟨tp,_,rfl,(bG.trans az).eQ jl,rfl,_,_,rfl,_,_,rfl,_,_,rfl,rfl,?_⟩;refine⟨_,rfl,_,rfl,_,rfl,(by show 3<=Yb0;decide),λtq dq=>?_⟩;have sT:=ab.new (o:=.tup [y2,y1,.int (m.2:Int)]) dq;have a3:TL≠tq:=λz=>by rw[<-z,be]at dq;cases dq
    refine⟨R,sT _ _ be,small (by lia),_,aa,⟨_,_,_,rfl⟩,ar cm (az.trans sT),?_⟩;have sL:ab (wo TL (lim aw a5)) (wo TL (lim aw (upd (upd a5 tq (.tup [y2,y1,.int (m.2:Int)])) TL (.lst (R++[.ref tq]))))):=λc o h=>by
     obtain⟨h1,h⟩:=aZ h;have hn:=d9 h;rw[bh hn]at h;rw[aq h1,bh hn,ao h1];exact sT _ _ h
    have sM:ab (lim aw gq) (wo TL (lim aw a5)):=λc o h=>by
     have hn:=d9 h;rw[bh hn]at h;rw[aq (nw h cm),bh hn];exact az _ _ h
    rw[XW,em,XH];refine(dn.same sL).append (.cons (.tup (.of ?_) (.cons ((kl.same sM).same sL) (.cons ((kb.same sM).same sL) (.cons (.int _) .nil)))) .nil);rw[aq a3.symm,bK ((dh.trans az).free dq),ao a3.symm];exact aa
   obtain⟨_,az,dn⟩:=q;rw[hl,Yk]at dn;have E8:=dh.trans az;have dT:=E5.den (λc o _ e'=>E8 _ _ e') (x:=.ref TL) (D:=.list (l.map swD)) (.lst (.of ((bK OB).trans Og)) (dn.same bc));have Se:=av Pz E8;have T7:=E8 _ _ Rx;have SU:=QX.same E8;obtain⟨b,O⟩:=(E5.same E8).hold;have L:=L.same O;have t:=O _ _ t;have G:=O _ _ G;have I:=O _ _ I;have S:=S.same O;have dX:=dX.same O;generalize outs ([e,HD,A.ap]++[g,pa,JQ,h,pb,tc]) a5=W7 at b dX dT L t G I S;clear O E8 az dn Og OB cm dM hl OG dh hM E5 Pz Rx QX ir;obtain⟨jt,_,_,_,j0⟩:=b.lv.gg;refine⟨_,rfl,g,jt,_,rfl,j0,rfl,_,rfl,da,g,pa,JQ,_,x,ps,rfl,b.lv,(b.bP (by simp)).1,S.same b.kp.s,g0,ig.mem_iff.mp (by simp),(by show(v.past++[(v.cur.rs,v.cur.bs)]).length<=_;rw[XI,XZ];lia),Se,λ_ bb Gg GO de PX Q5 _ gc e3 e4 qZ=>?_⟩;have Um:=b.stays (P:=A.ap) (by simp) cj de T7;have TF:=yS SU λo e'=>b.stays (P:=A.ap) (by simp) et de e';have b:=b.Gi (P:=A.ap) (by simp) de (aN PX).choose_spec (.inr (.inr ⟨_,rfl⟩)) Q5 gc qZ;have gz:GO.bs=v.cur.bs:=by
    rw[e4];exact kj (KA e2 DL) (List.Pairwise.filter _ ka) hko
   have jn:GO=v.cur:=b.lv.okc.unique c9 (e3.trans e1) gz;subst jn;clear e3 e4 gz de Q5 gc qZ T7 SU Se j0;have iu:Yad K A.aF (.ref A.aF)=true:=by unfold Yad;rw[beq_self_eq_true];rfl
   refine⟨_,rfl,_,rfl,Z,_,rfl,.inl (.of (b.kp.s _ _ t)),bb,g,pa,Gg,_,oa,(by rw[XA,ft];rfl),b.lv,c4,λ_ ke hX2 bx d2=>?_⟩;have b:=b.same bx;have UJ:=av PX bx;have To:=bx _ _ Um;have TZ:=TF.same bx;refine⟨_,rfl,_,_,d2.same bG,dX.same b.kp.s,GG _ _,_,rfl,?_⟩;rw[xf dX];clear d2 hX2 bx Um TF PX dX;obtain⟨j8,_,_,_,ei⟩:=b.lv.gg;obtain⟨kq,_,_,_,eu⟩:=b.lu.gg;have hY:=DA (v:=⟨v.s,v.l,v.cur,mY,v.past++[(v.cur.rs,v.cur.bs)]++[(mY.rs,mY.bs)],[]⟩) (w:=u) (es.trans X.symm) (el.trans Y.symm) (by rw[J]) (by rw[J]);have er:=DA (v:=u) (w:=⟨v.s,v.l,v.cur,mY,v.past++[(v.cur.rs,v.cur.bs)]++[(mY.rs,mY.bs)],[]⟩) (X.trans es.symm) (Y.trans el.symm) (by rw[J]) (by rw[J]);unfold eqE at hY er;refine aX ⟨_,rfl,_,rfl,g,j8,_,.ref A.aF,rfl,ei,T.uq.ty T.aA eu,iu,.inl ⟨bb,C,g,pa,Gg,h,pb,tc,_,u,rfl,b.lv,b.lu,_,rfl,_,rfl,?_⟩⟩;rw[hY];refine aX ⟨_,rfl,_,rfl,h,kq,_,.ref A.aF,rfl,eu,T.uq.ty T.aA ei,iu,.inl ⟨C,bb,h,pb,tc,g,pa,Gg,u,_,rfl,b.lu,b.lv,_,rfl,_,rfl,?_⟩⟩;rw[er];refine aX ?_;clear hY er eu ei;have Pp:∀{m:Kq},m.1∈oa->m.2∈ob->(PW m.1/\m.1.length<=12)/\PW m.2/\m.2.length<=12:=λ{m} h1 h2=>by
    have a1:=dc _ (g5 _ h1);have a2:=S7 _ (g4 _ h2);exact⟨⟨a1.1,a1.2.2⟩,a2.1,a2.2.2⟩
   have Vb:ob.length=oa.length:=by
    have h1:=Po.len;rw[show mY.os=_ from ep,XA,show mY.rs=_ from e1]at h1;lia
   have ib:∀m∈l,(PW m.1.1/\m.1.1.length<=12)/\(PW m.1.2/\m.1.2.length<=12)/\m.2<64:=λm hm=>by
    have h1:=ED ((mv.mem m.1).mp (XE.mpr ⟨m,hm,rfl⟩));have h2:=Pp h1.1 h1.2;have h3:=(LZ mv hm).1;rw[YD]at h3;exact⟨h2.1,h2.2,by lia⟩
   obtain⟨_,tv,j2,ej,ff⟩:=Mi dT;cases j2;have ie:tv.length=l.length:=by rw[ff.length,XA]
   have sK:=b.kp.s;refine⟨_,rfl,TL,rfl,⟨_,sK.seq ej⟩,λC1 ed=>?_⟩;refine aB (K:=K) (xs:=tv) (λi R σ dd=>(∃u,σ=[u])/\ab ke dd/\R=((l.take i).map λx=>gB (swD x)).map V.str) aa ⟨⟨_,rfl⟩,ab.new ed,rfl⟩ (λi R σ dd _ _ q=>(sK.trans q.2.1).seq ej) (λi y R σ dd hy be q=>?_) (λR σ dd Qu q=>?_)
   ·obtain⟨⟨w1,rfl⟩,ck,rfl⟩:=q;obtain⟨m,em,bo⟩:=OO ff hy;obtain⟨⟨p1,p2⟩,⟨p3,p4⟩,p5⟩:=ib m (XB em);refine bZ ⟨_,rfl,_,_,rfl,bo.same (sK.trans ck),zH p3 p4 p1 p2 p5,_,be,small (by rw[XA,XA,X4];lia),_,aa,⟨_,rfl⟩,ar ed ck,?_⟩;rw[XW,em,XH,XH];rfl
   obtain⟨_,ck,rfl⟩:=q;rw[ie,Yk]at Qu;refine⟨C1,_,rfl,.of Qu,by rw[XA];lia,λTS cu h6 Ie hu=>?_⟩;obtain⟨_,Tj,gw,Su⟩:=cL (.lst (cu.map V.str)) h6;rw[Tj];have IB:=ck.trans gw;have b:=b.same IB;have Ug:=av UJ IB;have S2:=IB _ _ To;have Sz:=TZ.same IB;clear Tj IB gw ck h6 Qu ed sK ej ff ie dT UJ To TZ;obtain⟨ku,_,_,_,gj⟩:=b.lv.gg;refine⟨_,rfl,g,ku,_,rfl,gj,rfl,bb,g,pa,Gg,_,ob,oa,rfl,b.lv,ep,c4,en,fa,by lia,λM2 i6 km l2 kf h4 PK bt bl=>⟨M2,rfl,⟨_,.of PK⟩,λSL f3=>?_⟩⟩;have bt:=bt.same bG;have Ur:i6.length=l2.length:=by rw[bt.length,XA]
   have UA:=Iz bl;rw[YD]at UA;have ek:∀m∈l2,(PW m.1.1/\m.1.1.length<=12)/\(PW m.1.2/\m.1.2.length<=12)/\m.2<64:=λm hm=>by
    have h1:=ED ((bl.mem m.1).mp (XE.mpr ⟨m,hm,rfl⟩));have h2:=Pp (m:=m.1.swap) h1.2 h1.1;have h3:=(LZ bl hm).1;rw[YD]at h3;exact⟨h2.2,h2.1,by lia⟩
   refine aB (K:=K) (xs:=i6) (λi R σ du=>(∃u,σ=[u])/\ab km du/\R=((l2.take i).map λx=>gB (mvD x)).map V.str) aa ⟨⟨_,rfl⟩,ab.new f3,rfl⟩ (λi R σ du _ _ q=>.of (q.2.1 _ _ PK)) (λi y R σ du hy be q=>?_) (λR σ du QI q=>?_)
   ·obtain⟨⟨w1,rfl⟩,cc,rfl⟩:=q;obtain⟨m,em,bo⟩:=Jc bt hy;obtain⟨⟨p1,p2⟩,⟨p3,p4⟩,p5⟩:=ek m (XB em);refine bZ ⟨_,rfl,_,_,rfl,bo.same cc,zH p1 p2 p3 p4 p5,_,be,small (by rw[XA,XA,X4];lia),_,aa,⟨_,rfl⟩,ar f3 cc,?_⟩;rw[XW,em,XH,XH];rfl
   obtain⟨_,cc,rfl⟩:=q;rw[Ur,Yk]at QI;refine⟨SL,_,rfl,.of QI,by rw[XA];lia,λjv ts2 LK Cy gy=>?_⟩;obtain⟨j9,SE,fz,Ry⟩:=cL (.lst (ts2.map V.str)) LK;rw[SE];have k0:cu=ts2:=gX (Ie.trans ((JC mv bl).trans Cy.symm)) hu gy;have Cr:∀x∈ts2,Z2 x=true:=λx hx=>by
    obtain⟨m,hm,rfl⟩:=XE.mp (Cy.mem_iff.mp hx);obtain⟨⟨p1,p2⟩,⟨p3,p4⟩,p5⟩:=ek m hm;exact J0 p1 p3 p5
   subst k0;have GK:=h4.trans (cc.trans fz);have ey:Den K j9 (.ref jv) (.list (cu.map .str)):=.lst (.of Ry) (eX Cr);refine⟨.list (cu.map .str),.list (cu.map .str),.lst (.of (GK _ _ Su)) (eX Cr),ey,uf _,_,rfl,?_⟩;rw[xf ey];refine aX ?_;have b:=b.same GK;have TC:=av Ug GK;have UI:=GK _ _ S2;have PJ:=Sz.same GK;clear ey GK Cr Ie Cy hu gy Ry fz SE LK QI cc ek UA Ur bt bl PK h4 kf f3 gj Ug S2 Sz Su ib Vb Pp mv bz fa en jd;obtain⟨_,RR⟩:=PJ.lst;refine⟨_,rfl,e,2,_,rfl,PJ,by lia,by decide,by decide,λr3 jq d4 Q4 ks kc=>⟨rfl,_,rfl,?_⟩⟩;obtain⟨_,RI⟩:=Q4.lst;have b:=b.wr (by simp) d4 RI (.inl ⟨_,rfl⟩);have Pq:=fH TC RR d4;have OF:jq HD=_:=cX d4 UI cp;clear d4 TC UI PJ RR Q4 RI ks kc;cases h0:decide (V.int r3=V.int 0)with
   | false=>exact aX ⟨W7,bb,C,Gg,tc,_,u,hv,bs,_,_,_,_,_,_,rfl,b.sub (by simp),Pq,OF,L,t,G,I,es,el,X,Y,J,U,hko,eb,hnd,by lia,by simp only[XI,XZ];lia,by lia⟩
   | true=>
    refine bN ?_;obtain⟨Wr,_,_,_,Fo⟩:=b.lv.gg;refine⟨_,rfl,g,Wr,_,rfl,Fo,rfl,_,rfl,bb,g,pa,Gg,_,x,ps,rfl,b.lv,(b.bP (by simp)).1,S.same b.kp.s,a8,b0,uB,DL,(by show v.cur.bs.length<12;lia),(by simp only[XI,XZ];lia),Pq,λ_ j7 UW Uw fu PD Rw _ N6 e5 e6 g9 N8=>?_⟩;have R0:=b.stays (P:=A.ap) (by simp) cj fu OF;have b:=b.Gi (P:=A.ap) (by simp) fu (aN PD).choose_spec (.inr (.inr ⟨_,rfl⟩)) Rw N6 N8;clear fu Rw N6 N8 Fo Pq OF;obtain⟨Vu,_,_,_,TM⟩:=b.lu.gg;refine⟨_,rfl,h,Vu,_,rfl,TM,rfl,_,rfl,C,h,pb,tc,u,x,ps,rfl,b.lu,(b.bP (by simp)).2,S.same b.kp.s,a8,b0,uB,by rw[J];exact DL,by rw[J];lia,by lia,PD,λgx kk Vf S6 ew So Sd _ Om e7 e8 k9 Oc=>?_⟩;have PU:=b.swap.stays (P:=A.ap) (by simp) cj ew R0;have b:=(b.swap.Gi (P:=A.ap) (by simp) ew (aN So).choose_spec (.inr (.inr ⟨_,rfl⟩)) Sd Om Oc).swap;have ec:S6=Uw:=by
     have a1:=b.lv.okc;have a2:=b.lu.okc;rw[es,el]at a1;rw[X,Y]at a2;refine a2.unique a1 (by rw[show S6.rs=_ from e7,show Uw.rs=_ from e5,J]) (kj (e8.trans ?_) k9 g9);rw[J];exact e6.symm
    clear ew Sd Om Oc TM PD R0;refine⟨_,rfl,.inl ⟨rfl,_,.of PU⟩,_,rfl,HD,hv,_,rfl,rfl,PU,small (by lia),?_⟩;have sA:ab (wo HD gx) (upd gx HD (.lst (hv++[x]))):=λc o e'=>by
     obtain⟨h1,e'⟩:=aZ e';rw[ao h1];exact e'
    refine⟨W7,j7,kk,UW,Vf,_,_,hv++[x],bs++[ps],_,_,_,_,_,_,rfl,(b.wr (by simp) sA aa (.inl ⟨_,rfl⟩)).sub (by simp),qG So PU,aa,?_,t,G,I,es,el,X,Y,ec,e5.trans U,g9,(eb.append_right _).trans e6.symm,?_,?_,?_,?_⟩
    ·rw[XH];exact L.append (.cons S .nil)
    ·rw[Zr];exact⟨hnd,by simp,λy hy z hz e'=>BQ (by rw[XR.mp hz]at e';rw[<-e'];exact hy)⟩
    ·rw[XI,XZ];lia
    ·simp only[XI,XZ];lia
    ·simp only[XI,XZ];lia
  clear b Qw GN t G I es el X Y J U b8 b3 yJ;obtain⟨W,B,C,tb,tc,v,u,hv,bs,u1,u6,u8,u9,u10,u11,rfl,b,la,hH,L,t,G,I,es,el,X,Y,J,U,hko,eb,hnd,hbl,b3,yJ⟩:=q;obtain⟨ax,t1,g8,i5,b2⟩:=b.lv.gg;obtain⟨kg,t2,hb,fw,jm⟩:=b.lu.gg;have hY:=DA (v:=v) (w:=u) (es.trans X.symm) (el.trans Y.symm) (by rw[J]) (by rw[J]);unfold eqE at hY;refine⟨_,rfl,_,rfl,g,h,ax,_,kg,_,rfl,rfl,b2,jm,.inl ⟨B,C,g,pa,tb,h,pb,tc,v,u,rfl,b.lv,b.lu,_,rfl,?_⟩⟩;rw[hY];have hS:=b.kp.s _ _ G;refine⟨_,rfl,bN ⟨_,rfl,g,ax,_,_,rfl,b2,.int _,T.BL,.inr ⟨_,_,_,rfl,.int _,T.Bu,_,rfl,_,rfl,bN ?_⟩⟩⟩;refine⟨_,rfl,g,ax,_,_,rfl,b2,.str _,T.B7,.inr ⟨_,_,_,rfl,.str _,T.BJ,_,rfl,_,rfl,bN ?_⟩⟩;refine⟨_,rfl,_,rfl,SV,_,0,_,rfl,rfl,.of hS,rfl,11,sv,rfl,rfl,_,rfl,SV,_,1,_,rfl,rfl,.of hS,rfl,(by show 2<=Yb0;decide),λT3 ji=>?_⟩;obtain⟨ip,U7,a4,UU⟩:=cL (.tup [.int (11 - sv),.int lv]) ji;rw[U7];intro n dz hn jw a3;obtain⟨gn,Wz,a9,VD⟩:=rR A.aF hn jw a3;rw[Wz];refine⟨n,T3,dz,11 - sv,lv,rfl,VD,.of (a9 _ _ UU),av (av la a4) a9,λgd D pn tn b9 cs _ _ _ _ _ _ bW=>⟨rfl,?_⟩⟩;obtain⟨⟨_,_,_,VM⟩,⟨_,Ta⟩,⟨_,R9⟩,_⟩:=(b.same a4).lv.ats;have q:=b.dj A.ap (by simp);simp only[XQ,Yi,or_false,not_or]at q;have nn:∀{c:Yau}{o:HO},ip c=some o->c≠n:=λ{c o} e z=>by rw[z,hn]at e;cases e
  have iy:=iE (ms:=[n,A.ap]) (H':=gd) (b.same (a4.trans a9)).lv (λc o m e=>by
   simp only[XQ,Yi,or_false,not_or]at m;exact cs _ _ (Xf m.1 m.2 e)) (λc hc=>by
   simp only[XQ,Yi,or_false]at hc;rcases hc with z | z <;> subst z
   ·exact((b.same a4).fr hn).2.1
   ·exact(b.bP (by simp)).1) (by simp[nn VM,Ya4 q.1]) (by simp[nn Ta,Ya4 q.2.1]) (by simp[nn R9,Ya4 q.2.2.1])
  obtain⟨cn,t5,kn,jc,c3⟩:=iy.gg;obtain⟨_,t6,k1,j4,kd⟩:=bW.gg;have hN:=Ou (v:=v) (w:=⟨11 - sv,lv,b9,b9,[],[]⟩) (.inl (by rw[es];show sv≠11 - sv;lia));unfold eqE at hN;refine⟨g,cn,_,.ref A.aF,rfl,c3,T.uq.ty T.aA kd,(by unfold Yad;rw[beq_self_eq_true];rfl),.inl ⟨B,D,g,pa,tb,n,pn,tn,v,_,rfl,iy,bW,_,rfl,?_⟩⟩;rw[hN];exact k _
end
theorem hX1 {s:Vzx} (e:hX s=true):W.xlAt hV [] s=true:=by unfold hX at e;exact(YX.mp e).1
theorem hX2 {s:Vzx} (e:hX s=true):W.recOk (W.RowW.records (W.OpenRow.toRowW (W.OpenLaw.row ZZ))) s=true:=by unfold hX at e;exact(YX.mp e).2
theorem hSn {a b:Bool} (h:a=true) (k:b=true):(a && b)=true:=by rw[h,k];rfl
abbrev CP:Yax:=ZZ.row.prog
theorem hSa:W.namesResolve CP=true:=by kernel_rfl
theorem hSb:W.noRoadLSs { strict:=!(importedModules CP.main.body).all W.cThrough.contains,foot:=none,bare:=(["vars","dir","locals"]:Qqv).filter (W.readsOut CP CP.main.body) } CP.main.body=true:=by kernel_rfl
theorem hSc:(W.namesMeet CP CP.main.body λ_ n=>W.attrL n)=true:=by kernel_rfl
theorem hS:ZZ.wellSaid=true:=by
 unfold W.OpenLaw.wellSaid W.OpenRow.wellSaid W.OpenRow.partSaid W.looksOpen
 repeat' with_reducible refine hSn ?_ ?_
 all_goals first | with_reducible exact hSa | with_reducible exact hSb | with_reducible exact hSc | kernel_rfl
abbrev hFo (i:Nat) (x:Str) (m:Vzy) (c:Nat):Yav:=Ya1 x x (cR (top i)) (b6 (top i)) (ae (top i)) .none .none .none m none (.ref c) .none
theorem hDf {P:Params}{f c:Nat}{m:Vzy} (X:(hK P).In h) (G:h.Ns mainGlobals mg) (ps:Qqv) (l:(hK P).lookup f=some (hFn i x m c)) (d:Yae (hK P) (.ref c) x=true) (k:Ya5 (hK P) (.ref f)=true) (a:W.nsIn (hK P) mainGlobals x=some (some (.ref f)))
  (b:∀(kV doc pm:Vzy) (an:Option Yau) (cdv ct:Vzy) (us:Qqz),us.length=ps.length->bindArgs (Ya1 x x (cR (top i)) (b6 (top i)) (ae (top i)) .none kV doc pm an cdv ct) ⟨us,[]⟩=pure (ps.zip us)):bj (hK P) mg x (top i) ps f (hFo i x m c):=
 have F:Fun (hK P) x x (top i) f (hFo i x m c):=HW l d k
 ⟨F,F.binds b,WP X G a⟩
abbrev Ky (i:Nat) (x:Str) (m:Vzy) (c D:Nat):Yav:=Ya1 x x (cR (top i)) (b6 (top i)) (ae (top i)) (.ref D) .none .none m none (.ref c) .none
theorem Vz {P:Params}{f c D:Nat}{m:Vzy} (X:(hK P).In h) (G:h.Ns mainGlobals mg) (ps:Qqv) (l:(hK P).lookup f=some (hFd i x m c D)) (d:Yae (hK P) (.ref c) x=true) (k:Ya5 (hK P) (.ref f)=true) (a:W.nsIn (hK P) mainGlobals x=some (some (.ref f)))
  (b:Binds (hK P) (Ky i x m c D) ps []):xQ (hK P) mg x (top i) ps f (Ky i x m c D):=
 ⟨⟨⟨_,_,_,_,_,_,_,_,_,_,rfl,l,d⟩,k⟩,b,WP X G a⟩
abbrev mFo (i j:Nat) (x q:Str) (m:Vzy) (c:Nat):Yav:=Ya1 x q (cR (mIn i j)) (b6 (mIn i j)) (ae (mIn i j)) .none .none .none m none (.ref c) .none
abbrev K7 (i j:Nat) (x q:Str) (m:Vzy) (c D:Nat):Yav:=Ya1 x q (cR (mIn i j)) (b6 (mIn i j)) (ae (mIn i j)) (.ref D) .none .none m none (.ref c) .none
theorem mDf {P:Params}{f c:Nat}{q:Str}{m:Vzy} (ps:Qqv) (l:(hK P).lookup f=some ⟨.type "function",none,.func (mFd i j x q 3 m (.ref c)),#[]⟩) (d:Yae (hK P) (.ref c) q=true) (k:Ya5 (hK P) (.ref f)=true)
  (b:∀(kV doc pm:Vzy) (an:Option Yau) (cdv ct:Vzy) (us:Qqz),us.length=ps.length->bindArgs (Ya1 x q (cR (mIn i j)) (b6 (mIn i j)) (ae (mIn i j)) .none kV doc pm an cdv ct) ⟨us,[]⟩=pure (ps.zip us)):ff (hK P) x q (mIn i j) ps f (mFo i j x q m c):=
 ⟨⟨⟨_,_,_,_,_,_,_,_,_,rfl,l,d⟩,k⟩,Binds.all λus a=>b _ _ _ _ _ _ us a⟩
theorem VC {P:Params}{f c D:Nat}{q:Str}{m:Vzy} (ps:Qqv) (l:(hK P).lookup f=some ⟨.type "function",none,.func (Py i j x q 3 m (.ref c) D),#[]⟩) (d:Yae (hK P) (.ref c) q=true) (k:Ya5 (hK P) (.ref f)=true) (b:Binds (hK P) (K7 i j x q m c D) ps []):Ct (hK P) x q (mIn i j) ps f (K7 i j x q m c D):=
 ⟨⟨⟨_,_,_,_,_,_,_,_,_,_,rfl,l,d⟩,k⟩,b⟩
theorem on1 {C:Qqz->Prop} (h:∀a0,C [a0]):∀us:Qqz,us.length=1->C us
 | [a0],_=>h a0
theorem on2 {C:Qqz->Prop} (h:∀a0 a1,C [a0,a1]):∀us:Qqz,us.length=2->C us
 | [a0,a1],_=>h a0 a1
theorem on3 {C:Qqz->Prop} (h:∀a0 a1 a2,C [a0,a1,a2]):∀us:Qqz,us.length=3->C us
 | [a0,a1,a2],_=>h a0 a1 a2
theorem on4 {C:Qqz->Prop} (h:∀a0 a1 a2 a3,C [a0,a1,a2,a3]):∀us:Qqz,us.length=4->C us
 | [a0,a1,a2,a3],_=>h a0 a1 a2 a3
theorem on5 {C:Qqz->Prop} (h:∀a0 a1 a2 a3 a4,C [a0,a1,a2,a3,a4]):∀us:Qqz,us.length=5->C us
 | [a0,a1,a2,a3,a4],_=>h a0 a1 a2 a3 a4
theorem uF {P:Params}{s:Vzx} (X:(hK P).In s.heap) (us:Qqz) (a:us.length=2):BindsTo s (Ky 43 "gathered" yr 263 259) ⟨us,[]⟩ ((["lines","sieve"]:Qqv).zip (us++[])):=by
 rw[Ym];exact on2 (C:=λus=>BindsTo s (Ky 43 "gathered" yr 263 259) ⟨us,[]⟩ ((["lines","sieve"]:Qqv).zip us)) (λ_ _=>BindsTo.of_defaults rfl (X 259 _ rfl) rfl rfl rfl) us a
theorem vn {P:Params}{s:Vzx} (X:(hK P).In s.heap) (us:Qqz) (a:us.length=2):BindsTo s (K7 56 0 "__init__" "Log.__init__" dQ 345 339) ⟨us,[]⟩ ((["self","sieve"]:Qqv).zip (us++[])):=by
 rw[Ym];exact on2 (C:=λus=>BindsTo s (K7 56 0 "__init__" "Log.__init__" dQ 345 339) ⟨us,[]⟩ ((["self","sieve"]:Qqv).zip us)) (λ_ _=>BindsTo.of_defaults rfl (X 339 _ rfl) rfl rfl rfl) us a
def hA:Ad:=⟨21,hFo 0 "_wall" (.str "__main__" 164) 20,108,hFo 13 "has_only" Fz 107,115,hFo 14 "is_word" Fz 114,122,hFo 15 "kind_of" Fz 121,129,hFo 16 "words_of" Fz 128,134,hFo 17 "is_line" Fz 133,141,hFo 18 "word_key" Fz 140,149,hFo 22 "is_part" o4 148,154,hFo 23 "is_pattern" o4 153,161,hFo 24 "is_hole" o4 160,168,hFo 25 "part_takes" o4 167,175,hFo 26 "all_taken" o4 174,182,hFo 27 "fits" o4 181,189,hFo 28 "kind_of_hole_around" o4 188,194,hFo 29 "joined_part" o4 193,199,hFo 30 "joined" o4 198,206,hFo 31 "part_key" o4 205,211,hFo 32 "pattern_key" o4 210,216,hFo 33 "ordered" o4 215,224,hFo 36 "grouped" yr 223,229,hFo 37 "words_at" yr 228,236,hFo 38 "many_unlike_at" yr 235,241,hFo 39 "is_fit_to_part_at" yr 240,246,hFo 40 "place_to_part_at" yr 245,253,hFo 41 "parted" yr 252,258,hFo 42 "pattern_of_group" yr 257,264,Ky 43 "gathered" yr 263 259,271,hFo 45 "looseness_of_part" Px 270,276,hFo 46 "looseness" Px 275,281,hFo 47 "falls_under" Px 280,288,hFo 51 "how_often" dQ 287,293,hFo 52 "words_in_order" dQ 292,300,hFo 53 "pair_key" dQ 299,305,hFo 54 "moved" dQ 304,471,hFo 58 "_law_deck" qg 470,478,hFo 59 "_law_pick" qg 477,483,hFo 60 "_law_kind" qg 482,488,hFo 61 "_law_word" qg 487,493,hFo 62 "_law_line" qg 492,498,hFo 63 "_law_lines" qg 497,505,hFo 64 "_law_pattern" qg 504,512,hFo 65 "_law_sieve" qg 511,517,hFo 66 "_law_told" qg 516,522,hFo 67 "_law_put_right" qg 521,527,hFo 68 "law" qg 526,317,mFo 55 0 "__init__" "State.__init__" dQ 316,346,K7 56 0 "__init__" "Log.__init__" dQ 345 339,353,mFo 56 1 "__len__" "Log.__len__" dQ 352,360,mFo 56 2 "__eq__" "Log.__eq__" dQ 359,367,mFo 56 3 "held" "Log.held" dQ 366,374,mFo 56 4 "rows_with_falls" "Log.rows_with_falls" dQ 373,381,mFo 56 5 "turn_to" "Log.turn_to" dQ 380,388,mFo 56 6 "do_deed" "Log.do_deed" dQ 387,395,mFo 56 7 "come" "Log.come" dQ 394,402,mFo 56 8 "put" "Log.put" dQ 401,407,mFo 56 9 "take" "Log.take" dQ 406,414,mFo 56 10 "back" "Log.back" dQ 413,421,mFo 56 11 "again" "Log.again" dQ 420,428,mFo 56 12 "moves" "Log.moves" dQ 427,433,mFo 56 13 "patterns" "Log.patterns" dQ 432,440,mFo 56 14 "under" "Log.under" dQ 439,452,mFo 56 16 "counts" "Log.counts" dQ 451,457,mFo 56 17 "holes" "Log.holes" dQ 456,142,217,327,460,245,243⟩
theorem hT {P:Params} (X:(hK P).In h) (G:h.Ns mainGlobals mg):Tx (hK P) mg hA:=by
 refine⟨ZV X G ?_,ZV X G ?_,ZV X G ?_,ZV X G ?_,ZV X G ?_,ZV X G ?_,ZV X G ?_,ZV X G ?_,ZV X G ?_,ZV X G ?_,ZV X G ?_,ZV X G ?_,ZV X G ?_,ZV X G ?_,ZV X G ?_,⟨305,WP X G ?_⟩,(by rw[ND];exact⟨307,WP X G (by kernel_rfl)⟩),(by rw[NE];exact⟨309,WP X G (by kernel_rfl)⟩),(by rw[Ii];exact⟨311,WP X G (by kernel_rfl)⟩),⟨357,WP X G ?_⟩,WP X G ?_,(λH=>.inr ⟨_,_,_,rfl,rfl,rfl,(by show 3<=Yb0;decide),.cons ⟨_,rfl⟩ (.cons ⟨_,rfl⟩ (.cons ⟨_,rfl⟩ (.nil)))⟩),⟨_,rfl,rfl,rfl⟩,WP X G ?_,(λH=>.inr ⟨_,_,_,rfl,rfl,rfl,(by show 2<=Yb0;decide),.cons ⟨_,rfl⟩ (.cons ⟨_,rfl⟩ (.nil))⟩),⟨_,rfl,rfl,rfl⟩,⟨538,WP X G ?_⟩,⟨540,WP X G ?_⟩,hDf X G ["k"] ?_ ?_ ?_ ?_ ?_,hDf X G ["text","signs"] ?_ ?_ ?_ ?_ ?_,hDf X G ["thing"] ?_ ?_ ?_ ?_ ?_,hDf X G ["word"] ?_ ?_ ?_ ?_ ?_,hDf X G ["line"] ?_ ?_ ?_ ?_ ?_,hDf X G ["thing"] ?_ ?_ ?_ ?_ ?_,hDf X G ["word"] ?_ ?_ ?_ ?_ ?_,hDf X G ["thing"] ?_ ?_ ?_ ?_ ?_,hDf X G ["thing"] ?_ ?_ ?_ ?_ ?_,hDf X G ["part"] ?_ ?_ ?_ ?_ ?_,hDf X G ["part","word"] ?_ ?_ ?_ ?_ ?_,hDf X G ["parts","words"] ?_ ?_ ?_ ?_ ?_,hDf X G ["pattern","line"] ?_ ?_ ?_ ?_ ?_,hDf X G ["part"] ?_ ?_ ?_ ?_ ?_,hDf X G ["parts"] ?_ ?_ ?_ ?_ ?_,hDf X G ["patterns"] ?_ ?_ ?_ ?_ ?_,hDf X G ["part"] ?_ ?_ ?_ ?_ ?_,hDf X G ["pattern"] ?_ ?_ ?_ ?_ ?_,hDf X G ["patterns"] ?_ ?_ ?_ ?_ ?_,hDf X G ["rows","keys"] ?_ ?_ ?_ ?_ ?_,hDf X G ["group","place"] ?_ ?_ ?_ ?_ ?_,hDf X G ["group","place"] ?_ ?_ ?_ ?_ ?_,hDf X G ["group","place","sieve"] ?_ ?_ ?_ ?_ ?_,hDf X G ["group","sieve"] ?_ ?_ ?_ ?_ ?_,hDf X G ["group","sieve"] ?_ ?_ ?_ ?_ ?_,hDf X G ["group"] ?_ ?_ ?_ ?_ ?_,Vz X G ["lines","sieve"] ?_ ?_ ?_ ?_ λs c a b=>uF a c (by rw[Ym]at b;exact b),hDf X G ["part"] ?_ ?_ ?_ ?_ ?_,hDf X G ["pattern"] ?_ ?_ ?_ ?_ ?_,hDf X G ["line","patterns"] ?_ ?_ ?_ ?_ ?_,hDf X G ["things"] ?_ ?_ ?_ ?_ ?_,hDf X G ["words"] ?_ ?_ ?_ ?_ ?_,hDf X G ["pair"] ?_ ?_ ?_ ?_ ?_,hDf X G ["ahead","behind"] ?_ ?_ ?_ ?_ ?_,hDf X G ["cell","turn"] ?_ ?_ ?_ ?_ ?_,hDf X G ["deck","many"] ?_ ?_ ?_ ?_ ?_,hDf X G ["word"] ?_ ?_ ?_ ?_ ?_,hDf X G ["deck"] ?_ ?_ ?_ ?_ ?_,hDf X G ["deck","most"] ?_ ?_ ?_ ?_ ?_,hDf X G ["deck","most"] ?_ ?_ ?_ ?_ ?_,hDf X G ["deck","line"] ?_ ?_ ?_ ?_ ?_,hDf X G ["deck"] ?_ ?_ ?_ ?_ ?_,hDf X G ["log","many"] ?_ ?_ ?_ ?_ ?_,hDf X G ["log","lines","hand","sieve","pattern"] ?_ ?_ ?_ ?_ ?_,mDf ["self","sieve","rows","by_hand"] ?_ ?_ ?_ ?_,VC ["self","sieve"] ?_ ?_ ?_ λs c a b=>vn a c (by rw[Ym]at b;exact b),mDf ["self"] ?_ ?_ ?_ ?_,mDf ["self","other"] ?_ ?_ ?_ ?_,mDf ["self"] ?_ ?_ ?_ ?_,mDf ["self"] ?_ ?_ ?_ ?_,mDf ["self","held"] ?_ ?_ ?_ ?_,mDf ["self","rows","by_hand"] ?_ ?_ ?_ ?_,mDf ["self","moment","line"] ?_ ?_ ?_ ?_,mDf ["self","pattern"] ?_ ?_ ?_ ?_,mDf ["self","pattern"] ?_ ?_ ?_ ?_,mDf ["self"] ?_ ?_ ?_ ?_,mDf ["self"] ?_ ?_ ?_ ?_,mDf ["self"] ?_ ?_ ?_ ?_,mDf ["self"] ?_ ?_ ?_ ?_,mDf ["self","number"] ?_ ?_ ?_ ?_,mDf ["self","low","high"] ?_ ?_ ?_ ?_,mDf ["self","pattern"] ?_ ?_ ?_ ?_,WP X G ?_,⟨?_,?_,?_,?_⟩,⟨?_,?_,?_,?_,?_⟩,⟨?_,?_,?_,?_⟩,(by unfold cq;kernel_rfl),(by unfold cq;kernel_rfl),(by unfold cq;kernel_rfl),(by unfold cq;kernel_rfl),WP X G ?_,⟨?_,?_,?_,?_⟩,⟨?_,?_,?_,?_,?_⟩,⟨?_,?_⟩,?_,?_,?_,?_,⟨?_,?_,?_,?_⟩,⟨?_,?_,?_⟩,⟨?_,?_,?_⟩,⟨?_,?_,?_⟩,⟨?_,?_,?_⟩,⟨?_,?_,?_⟩,⟨?_,?_,?_⟩,⟨?_,?_,?_⟩,⟨?_,?_,?_⟩,⟨?_,?_,?_⟩,⟨?_,?_,?_⟩,⟨?_,?_,?_⟩,⟨?_,?_,?_⟩,⟨?_,?_,?_⟩,⟨?_,?_,?_⟩,⟨?_,?_,?_⟩,⟨?_,?_,?_⟩,(by unfold cq;kernel_rfl),(by unfold cq;kernel_rfl),(by unfold cq;kernel_rfl),(by unfold cq;kernel_rfl),(by unfold cq;kernel_rfl),⟨rfl,λh a=>W.codeHd_of_K a ?_,4,_,WP X G ?_,by decide,by decide,rfl,rfl,rfl,rfl⟩⟩<;>first|exact λ_ _ _ _ _ _=>on1 λ_=>rfl|exact λ_ _ _ _ _ _=>on2 λ_ _=>rfl|exact λ_ _ _ _ _ _=>on3 λ_ _ _=>rfl|exact λ_ _ _ _ _ _=>on4 λ_ _ _ _=>rfl|exact λ_ _ _ _ _ _=>on5 λ_ _ _ _ _=>rfl|kernel_rfl
theorem hF (w:Yay) (mg:Str->Option Vzy) (a:Yau) (h:Heap) (X:(hK w.params).In h) (G:h.Ns mainGlobals mg) (e:mg "law" = some (.ref a)) :
  ∃fd:Yav,(∀(s:Vzx) (u:Vzy),BindsTo s fd ⟨[u],[]⟩ [("script",u)])/\∀base:Heap,d6 ZZ.prog w (hK w.params) mg base CX0 26 a fd ["script"] (xl (hK w.params) 243):=by
 have q:=e.symm.trans (WP X G (show W.nsIn (hK w.params) mainGlobals "law" = some (some (.ref 527))by kernel_rfl));cases q;exact⟨hFo 68 "law" qg 526,λs v=>.of_eq rfl,λbase=>Pm (A:=hA) (HW rfl (by kernel_rfl) (by kernel_rfl)) (hT X G)⟩
abbrev hSp:=xl
end K22
open PySem PySem.W PyProof.Rows
theorem PySem.Challenge.cw_loggather_k22_whole_by_hand_and_off_holds : PySem.Challenge.rw_loggather_k22_whole_by_hand_and_off.Holds := by
 refine holds_law K22.hS λm=>@PySem.W.holds_open (OpenLaw.row ZZ) K22.hV K22.hLo K22.hX (XL K22.hV []) _ K22.hH.obs K22.hH.val K22.hH.says ?dr ?kw 7576 K22.hL K22.hH.of K22.hH.keeps
  (λs e=>xl_of s (K22.hX1 e)) XL.keeps ?x1 ?x2 ?x3 (λs e=>recFacts_of (K22.hX2 e)) ?x4 m ?x5 ?x6 ?hw ?hc
 case x1=>exact rfl
 case x2=>exact rfl
 case x3=>exact rfl
 case x4=>rfl
 case x5=>decide +kernel
 case x6=>exact⟨rfl,rfl,rfl,rfl,rfl,by decide +kernel⟩
 case hw=>w_witness2
 exact L2.JJ (l:=ZZ) (n:=63) (k:=26) (x:= "script") (K:=K22.hK) (c:=245) (T:=243) (sp:=λw=>K22.hSp (K22.hK w.params) 243) rfl (by decide) rfl ⟨rfl,by decide,by decide,rfl⟩ (λw h Y=>⟨PySem.W.km_in_of Y,PySem.W.km_tabs_of Y _ (List.Mem.head _)⟩) (λw h X=>PySem.W.codeHd_of_K X (by kernel_rfl)) (λw=>by kernel_rfl)
  (λw g f h X G e=>let ⟨fd,b,k⟩:=K22.hF w g f h X G e;⟨fd,b,λd=>k d⟩) (λ_ _ a i j hT hS=>⟨a,i,rfl,hS,j,⟨_,hT,trivial,.inl rfl⟩,λ_=>rfl⟩)
